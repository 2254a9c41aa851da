import PyProof.Rows.All
import Wide.All
import OpenK.AllK
import Wide.FinOn
import PySem.Str
import PySem.PyData
import PyProof.P3Statements
import HandS.ForMost
import HandS.ForExc
import HandS.Strs
import HandS.Flow
import HandS.IsInst
import HandS.Deep
import HandS.TupAny
import HandS.TupMul
import HandS.Sort
import HandS.Steps
import HandS.SortInts
import HandS.WordsDict
import HandS.Zip
import HandS.Iter
import HandS.Walk
import HandS.Small
import HandS.List
import HandS.Lambda
import HandS.Conv
import KE.GoesEnum
import HandS.ExcOwn
import HandS.Words
import KE.KExcInit
import HandS.Ends
import HandS.ForSpec
import PyProof.ExcBaseAll.LookupError
import PyProof.ExcBaseAll.ValueError
import HandS.TryMany
import KE.KExcIs
import HandS.Star
import HandS.SetBool
import HandS.WordsExc
import HandS.Codes
import KE.KStateDown
import Lean
import HandS.Defaults
import HandS.Head0
import HandS.Head1
import HandS.Head2
import HandS.HeadEnd
import HandS.HeadHook1
import KE.KDictZip
import HandS.Style
import HandS.Set
import HandS.SetFor
import HandS.TupLe
import PyProof.MinMaxWalk
import PyProof.WalkInts
import KE.KIndexOf
import PyProof.AutoSeq1
import KE.DataFind
import KE.Datum
import KE.GoesMore
import PySem.Challenge.RW_handlepairs_k34_tables_by_hand_and_refus
/-! PW0: a small functional model of the programs' Python: values, heap, results, combinators. Plain Lean; nothing of the machine here. -/
set_option linter.all false
namespace PW
open PySem

abbrev Key := Sum Int Str
inductive W where
  | non | bl (b : Bool) | int (i : Int) | str (x : Str) | tup (l : List W) | ref (n : Nat) | ty (n : String) | fn (i : Nat) | ktup (l : List W)

inductive Ob where
  | lst (l : List W) | rol (l : List W) | dk (l : List (Key × W)) | dt (l : List (List Key × W)) | st (l : List Int) | rng (lo hi : Int)

/-! ### the heap: a trie by the bits of the index -/
inductive HT where
  | nil | node (v : Option Ob) (l r : HT)
def HT.get : HT → Nat → Option Ob
  | .nil, _ => none
  | .node v l r, i => match Nat.beq i 0 with
    | true => v
    | false => match Nat.beq (i % 2) 1 with
      | true => l.get (i / 2)
      | false => r.get (i / 2 - 1)
def HT.lf : HT → HT
  | .nil => .nil
  | .node _ l _ => l
def HT.rt : HT → HT
  | .nil => .nil
  | .node _ _ r => r
def HT.top : HT → Option Ob
  | .nil => none
  | .node v _ _ => v
def HT.put : Nat → HT → Nat → Ob → HT
  | 0, t, _, _ => t
  | f + 1, t, i, o => match Nat.beq i 0 with
    | true => .node (some o) t.lf t.rt
    | false => match Nat.beq (i % 2) 1 with
      | true => .node t.top (HT.put f t.lf (i / 2) o) t.rt
      | false => .node t.top t.lf (HT.put f t.rt (i / 2 - 1) o)
theorem beqD (a b : Nat) : Nat.beq a b = decide (a = b) := by
  by_cases e : a = b
  · subst e; simp
  · rw [decide_eq_false e]
    cases h : Nat.beq a b with
    | false => rfl
    | true => exact absurd (Nat.eq_of_beq_eq_true h) e
theorem bleD (a b : Nat) : Nat.ble a b = decide (a ≤ b) := by
  by_cases e : a ≤ b
  · rw [decide_eq_true e]; exact Nat.ble_eq_true_of_le e
  · rw [decide_eq_false e]
    cases h : Nat.ble a b with
    | false => rfl
    | true => exact absurd (Nat.le_of_ble_eq_true h) e
theorem HT.get_def (t : HT) (i : Nat) : t.get i = if i = 0 then t.top else if i % 2 = 1 then t.lf.get (i / 2) else t.rt.get (i / 2 - 1) := by
  cases t with
  | nil => simp [HT.get, HT.top, HT.lf, HT.rt]
  | node v l r =>
    show (match Nat.beq i 0 with | true => v | false => match Nat.beq (i % 2) 1 with | true => l.get (i / 2) | false => r.get (i / 2 - 1)) = _
    rw [beqD, beqD]
    by_cases h : i = 0
    · simp [h, HT.top]
    · by_cases q : i % 2 = 1 <;> simp [h, q, HT.lf, HT.rt]
theorem HT.get_put : ∀ (f : Nat) (t : HT) (i : Nat) (o : Ob) (j : Nat), i + 2 ≤ 2 ^ f → (HT.put f t i o).get j = if j = i then some o else t.get j := by
  intro f
  induction f with
  | zero => intro t i o j h; simp at h
  | succ f ih =>
    intro t i o j h
    unfold HT.put
    rw [beqD, beqD, HT.get_def t j]
    by_cases h0 : i = 0
    · subst h0
      simp only [decide_true]
      rw [HT.get_def]
      by_cases hj : j = 0
      · simp [hj, HT.top]
      · simp [hj, HT.lf, HT.rt]
    · rw [decide_eq_false h0]
      rw [Nat.pow_succ] at h
      by_cases h1 : i % 2 = 1
      · rw [decide_eq_true h1]
        simp only
        rw [HT.get_def]
        simp only [HT.top, HT.lf, HT.rt]
        by_cases hj : j = 0
        · simp [hj, Ne.symm h0]
        · by_cases hj1 : j % 2 = 1
          · simp only [hj, hj1, if_false, if_true]
            rw [ih _ _ _ _ (by omega)]
            by_cases e : j / 2 = i / 2
            · have : j = i := by omega
              simp [this]
            · have : j ≠ i := fun z => e (by rw [z])
              simp [e, this]
          · have : j ≠ i := fun z => hj1 (by rw [z]; exact h1)
            simp [hj, hj1, this]
      · rw [decide_eq_false h1]
        simp only
        rw [HT.get_def]
        simp only [HT.top, HT.lf, HT.rt]
        by_cases hj : j = 0
        · simp [hj, Ne.symm h0]
        · by_cases hj1 : j % 2 = 1
          · have : j ≠ i := fun z => h1 (by rw [← z]; exact hj1)
            simp [hj, hj1, this]
          · simp only [hj, hj1, if_false]
            rw [ih _ _ _ _ (by omega)]
            by_cases e : j / 2 - 1 = i / 2 - 1
            · have : j = i := by omega
              simp [this]
            · have : j ≠ i := fun z => e (by rw [z])
              simp [e, this]
structure Hq where
  n : Nat
  t : HT
def Hq.get (h : Hq) (i : Nat) : Option Ob := match Nat.ble h.n i with
  | true => none
  | false => h.t.get i
def Hq.put (h : Hq) (i : Nat) (o : Ob) : Hq := ⟨h.n, h.t.put 20 i o⟩
def Hq.push (h : Hq) (o : Ob) : Hq := ⟨h.n + 1, h.t.put 20 h.n o⟩
def Hq.e : Hq := ⟨0, .nil⟩
abbrev LINE : Nat := 1000000
theorem Hq.get_put {h : Hq} {i : Nat} {o : Ob} (hi : i < h.n) (hl : h.n ≤ LINE) (j : Nat) : (h.put i o).get j = if j = i then some o else h.get j := by
  unfold Hq.get Hq.put
  simp only [bleD]
  rw [HT.get_put 20 _ _ _ _ (by have : LINE = 1000000 := rfl; omega)]
  by_cases e : j = i
  · subst e
    have q : ¬ h.n ≤ j := by omega
    simp [q]
  · simp [e]
theorem Hq.get_push {h : Hq} {o : Ob} (hl : h.n < LINE) (j : Nat) : (h.push o).get j = if j = h.n then some o else h.get j := by
  unfold Hq.get Hq.push
  simp only [bleD]
  rw [HT.get_put 20 _ _ _ _ (by have : LINE = 1000000 := rfl; omega)]
  by_cases e : j = h.n
  · subst e
    have q : ¬ h.n + 1 ≤ h.n := by omega
    rw [decide_eq_false q]
    simp
  · by_cases q : h.n ≤ j
    · have : h.n + 1 ≤ j := by omega
      simp [e, q, this]
    · have : ¬ h.n + 1 ≤ j := by omega
      simp [e, q, this]
theorem Hq.get_lt {h : Hq} {i : Nat} {o : Ob} (e : h.get i = some o) : i < h.n := by
  unfold Hq.get at e
  rw [bleD] at e
  by_cases q : h.n ≤ i
  · simp [q] at e
  · omega

/-! ### results -/
structure Xc where
  cls : Nat
  arg : Option W
inductive Rs (α : Type) where
  | ok (a : α) (h : Hq) | ex (x : Xc) (h : Hq) | bad
abbrev R := Rs W
def Rs.bind {α β : Type} (r : Rs α) (k : α → Hq → Rs β) : Rs β := match r with
  | .ok a h => k a h
  | .ex x h => .ex x h
  | .bad => .bad
abbrev E := List (Option W)
abbrev D := E → Hq → R
abbrev DL := E → Hq → Rs (List W)
abbrev DB := E → Hq → Rs Bool
inductive RS where
  | nx (e : E) (h : Hq) | rt (w : W) (h : Hq) | bk (e : E) (h : Hq) | ct (e : E) (h : Hq) | ex (x : Xc) (e : E) (h : Hq) | bad
abbrev DS := E → Hq → RS

/-! ### numbers' tests for the kernel -/
def iLt (a b : Int) : Bool := match a, b with
  | .ofNat m, .ofNat n => Nat.blt m n
  | .ofNat _, .negSucc _ => false
  | .negSucc _, .ofNat _ => true
  | .negSucc m, .negSucc n => Nat.blt n m
def iEq (a b : Int) : Bool := match a, b with
  | .ofNat m, .ofNat n => Nat.beq m n
  | .ofNat _, .negSucc _ => false
  | .negSucc _, .ofNat _ => false
  | .negSucc m, .negSucc n => Nat.beq m n
theorem bltD (a b : Nat) : Nat.blt a b = decide (a < b) := bleD (a + 1) b
theorem iLtD (a b : Int) : iLt a b = decide (a < b) := by
  cases a <;> cases b <;> simp only [iLt, bltD] <;> first | (congr 1; apply propext; simp only [Int.ofNat_eq_natCast, Int.negSucc_eq]; omega) | (symm; first | (apply decide_eq_false; simp only [Int.ofNat_eq_natCast, Int.negSucc_eq]; omega) | (apply decide_eq_true; simp only [Int.ofNat_eq_natCast, Int.negSucc_eq]; omega))
theorem iEqD (a b : Int) : iEq a b = decide (a = b) := by
  cases a <;> cases b <;> simp only [iEq, beqD] <;> first | (congr 1; apply propext; simp only [Int.ofNat_eq_natCast, Int.negSucc_eq]; omega) | (symm; first | (apply decide_eq_false; simp only [Int.ofNat_eq_natCast, Int.negSucc_eq]; omega) | (apply decide_eq_true; simp only [Int.ofNat_eq_natCast, Int.negSucc_eq]; omega))
def nEqL : List Nat → List Nat → Bool
  | [], [] => true
  | a :: l, b :: r => match Nat.beq a b with
    | true => nEqL l r
    | false => false
  | _, _ => false
def sEq (x y : Str) : Bool := nEqL x.cps.toList y.cps.toList
theorem nEqLD : ∀ a b : List Nat, nEqL a b = decide (a = b)
  | [], [] => by simp [nEqL]
  | [], _ :: _ => by simp [nEqL]
  | _ :: _, [] => by simp [nEqL]
  | a :: l, b :: r => by
    show (match Nat.beq a b with | true => nEqL l r | false => false) = _
    rw [beqD, nEqLD l r]
    by_cases e : a = b <;> simp [e]
theorem sEqD (x y : Str) : sEq x y = decide (x = y) := by
  unfold sEq
  rw [nEqLD]
  obtain ⟨⟨x⟩⟩ := x
  obtain ⟨⟨y⟩⟩ := y
  simp

/-! ### values -/
abbrev LIM : Nat := 100000
def mapO {α β : Type} (f : α → Option β) : List α → Option (List β)
  | [] => some []
  | a :: r => match f a with
    | some b => (match mapO f r with
      | some bs => some (b :: bs)
      | none => none)
    | none => none
def nth {α : Type} : List α → Nat → Option α
  | [], _ => none
  | a :: r, i => match i with
    | 0 => some a
    | i + 1 => nth r i
theorem nthD {α : Type} : ∀ (l : List α) (i : Nat), nth l i = l[i]?
  | [], _ => rfl
  | a :: r, 0 => rfl
  | a :: r, i + 1 => by
    show nth r i = _
    rw [nthD r i]
    simp
def setN {α : Type} : List α → Nat → α → List α
  | [], _, _ => []
  | a :: r, i, x => match i with
    | 0 => x :: r
    | i + 1 => a :: setN r i x
theorem setND {α : Type} : ∀ (l : List α) (i : Nat) (x : α), setN l i x = l.set i x
  | [], _, _ => rfl
  | a :: r, 0, _ => rfl
  | a :: r, i + 1, x => by
    show a :: setN r i x = _
    rw [setND r i]
    simp
def lenN {α : Type} : List α → Nat → Nat
  | [], n => n
  | _ :: r, n => lenN r (n + 1)
theorem lenND {α : Type} : ∀ (l : List α) (n : Nat), lenN l n = l.length + n
  | [], n => by simp [lenN]
  | a :: r, n => by
    show lenN r (n + 1) = _
    rw [lenND r (n + 1)]
    simp
    omega
def len {α : Type} (l : List α) : Nat := lenN l 0
theorem lenD {α : Type} (l : List α) : len l = l.length := lenND l 0
/-- a list's items -/
def Hq.seq (h : Hq) (n : Nat) : Option (List W) := match h.get n with
  | some (.lst l) => some l
  | some (.rol l) => some l
  | _ => none
def sOk : List Nat → Bool
  | [] => true
  | c :: r => match Nat.blt c 0x110000 with
    | true => sOk r
    | false => false
/-- the data that a value stands for (nesting below the first number) -/
def data : Nat → Hq → W → Option PyData
  | 0, _, _ => none
  | k + 1, h, w => match w with
    | .non => some .none
    | .bl b => some (.bool b)
    | .int i => some (.int i)
    | .str x => (match sOk x.cps.toList with
      | true => some (.str x)
      | false => none)
    | .tup l => (match mapO (data k h) l with
      | some ds => some (.tuple ds)
      | none => none)
    | .ktup l => (match mapO (data k h) l with
      | some ds => some (.tuple ds)
      | none => none)
    | .ref n => (match h.seq n with
      | some l => (match mapO (data k h) l with
        | some ds => some (.list ds)
        | none => none)
      | none => none)
    | .ty _ => none
    | .fn _ => none
def eqL {α : Type} (f : α → α → Option Bool) : List α → List α → Option Bool
  | [], [] => some true
  | a :: l, b :: r => (match f a b with
    | some true => eqL f l r
    | some false => some false
    | none => none)
  | _, _ => some false
def bEq (a b : Bool) : Bool := match a, b with
  | true, true => true
  | false, false => true
  | _, _ => false
def b2i (b : Bool) : Int := match b with
  | true => 1
  | false => 0
def eqP : Nat → PyData → PyData → Option Bool
  | 0, _, _ => none
  | k + 1, a, b => match a, b with
    | .none, .none => some true
    | .bool a, .bool b => some (bEq a b)
    | .bool a, .int j => some (iEq (b2i a) j)
    | .int i, .bool b => some (iEq i (b2i b))
    | .int i, .int j => some (iEq i j)
    | .str x, .str y => some (sEq x y)
    | .list xs, .list ys => eqL (eqP k) xs ys
    | .tuple xs, .tuple ys => eqL (eqP k) xs ys
    | .dict _, _ => none
    | _, .dict _ => none
    | _, _ => some false
def eqG (h : Hq) (x y : W) : Option Bool := match data 60 h x with
  | some d => (match data 60 h y with
    | some e => eqP 62 d e
    | none => none)
  | none => none
/-- x == y -/
def eqW (h : Hq) (x y : W) : Option Bool := match x with
  | .int i => (match y with
    | .int j => some (iEq i j)
    | _ => eqG h x y)
  | _ => eqG h x y

/-! ### operators -/
abbrev Op2 := W → W → Hq → R
def bo (o : Option Bool) (h : Hq) : R := match o with
  | some b => .ok (.bl b) h
  | none => .bad
def bn (o : Option Bool) (h : Hq) : R := match o with
  | some b => .ok (.bl (!b)) h
  | none => .bad
def oEq : Op2 := fun x y h => bo (eqW h x y) h
def oNe : Op2 := fun x y h => bn (eqW h x y) h
def isNon : W → Bool
  | .non => true
  | _ => false
def oIsN : Op2 := fun x y h => match y with
  | .non => .ok (.bl (isNon x)) h
  | _ => .bad
def oNotN : Op2 := fun x y h => match y with
  | .non => .ok (.bl (!isNon x)) h
  | _ => .bad
def intO : W → Option Int
  | .int i => some i
  | _ => none
def intsO : List W → Option (List Int) := mapO intO
def lexLt : List Int → List Int → Bool
  | [], [] => false
  | [], _ :: _ => true
  | _ :: _, [] => false
  | x :: xs, y :: ys => match iEq x y with
    | true => lexLt xs ys
    | false => iLt x y
def oLt : Op2 := fun x y h => match x, y with
  | .int i, .int j => .ok (.bl (iLt i j)) h
  | .tup l, .tup r => (match intsO l with
    | some a => (match intsO r with
      | some b => .ok (.bl (lexLt a b)) h
      | none => .bad)
    | none => .bad)
  | _, _ => .bad
def oLe : Op2 := fun x y h => match x, y with
  | .int i, .int j => .ok (.bl (!iLt j i)) h
  | _, _ => .bad
def oGt : Op2 := fun x y h => match x, y with
  | .int i, .int j => .ok (.bl (iLt j i)) h
  | _, _ => .bad
def oGe : Op2 := fun x y h => match x, y with
  | .int i, .int j => .ok (.bl (!iLt i j)) h
  | _, _ => .bad
/-- a new object -/
def mk (o : Ob) (h : Hq) : R := match Nat.blt h.n LINE with
  | true => .ok (.ref h.n) (h.push o)
  | false => .bad
def short {α : Type} (l : List α) : Bool := Nat.ble (len l) LIM
def app {α : Type} : List α → List α → List α
  | [], r => r
  | a :: l, r => a :: app l r
theorem appD {α : Type} (l r : List α) : app l r = l ++ r := by
  induction l with
  | nil => rfl
  | cons a l ih => show a :: app l r = _; rw [ih]; rfl
def oAdd : Op2 := fun x y h => match x, y with
  | .int i, .int j => .ok (.int (i + j)) h
  | .str a, .str b => (match short a.cps.toList && short b.cps.toList with
    | true => .ok (.str ⟨⟨app a.cps.toList b.cps.toList⟩⟩) h
    | false => .bad)
  | .tup l, .tup r => (match short l && short r with
    | true => .ok (.tup (app l r)) h
    | false => .bad)
  | .ref a, .ref b => (match h.get a with
    | some (.lst l) => (match h.get b with
      | some (.lst r) => (match short l && short r with
        | true => mk (.lst (app l r)) h
        | false => .bad)
      | _ => .bad)
    | _ => .bad)
  | _, _ => .bad
def oSub : Op2 := fun x y h => match x, y with
  | .int i, .int j => .ok (.int (i - j)) h
  | _, _ => .bad
abbrev BIG : Int := 18446744073709551616
def small (i : Int) : Bool := iLt (-BIG) i && iLt i BIG
def repN {α : Type} : Nat → List α → List α
  | 0, _ => []
  | n + 1, l => app l (repN n l)
def oMul : Op2 := fun x y h => match x, y with
  | .int i, .int j => (match small i || small j with
    | true => .ok (.int (i * j)) h
    | false => .bad)
  | .ref a, .int k => (match h.get a with
    | some (.lst l) => (match Nat.ble (len l) 1000 && (iLt k 10001 && iLt (-10001) k) with
      | true => mk (.lst (repN k.toNat l)) h
      | false => .bad)
    | _ => .bad)
  | .tup l, .int k => (match Nat.blt 0 (len l) && Nat.ble (len l) 1000 && (iLt k 1001 && iLt 1 k) with
    | true => .ok (.tup (repN k.toNat l)) h
    | false => .bad)
  | _, _ => .bad
def oMod : Op2 := fun x y h => match x, y with
  | .int i, .int j => (match iLt 0 j with
    | true => .ok (.int (i % j)) h
    | false => .bad)
  | _, _ => .bad
def oDiv : Op2 := fun x y h => match x, y with
  | .int i, .int j => (match iLt 0 j && iLt j 1073741824 with
    | true => .ok (.int (i / j)) h
    | false => .bad)
  | _, _ => .bad
def oPow : Op2 := fun x y h => match x, y with
  | .int i, .int j => (match iLt (-1) j && iLt j 1000001 && small i with
    | true => .ok (.int (i ^ j.toNat)) h
    | false => .bad)
  | _, _ => .bad
def keyO : W → Option Key
  | .int i => some (.inl i)
  | .str x => some (.inr x)
  | _ => none
def kEq : Key → Key → Bool
  | .inl i, .inl j => iEq i j
  | .inr x, .inr y => sEq x y
  | _, _ => false
def kEqL : List Key → List Key → Bool
  | [], [] => true
  | a :: l, b :: r => match kEq a b with
    | true => kEqL l r
    | false => false
  | _, _ => false
def valG {κ β : Type} (eq : κ → κ → Bool) : List (κ × β) → κ → Option β
  | [], _ => none
  | p :: r, k => match eq p.1 k with
    | true => some p.2
    | false => valG eq r k
def repG {κ β : Type} (eq : κ → κ → Bool) : List (κ × β) → κ → β → List (κ × β)
  | [], _, _ => []
  | p :: r, k, v => match eq p.1 k with
    | true => (p.1, v) :: repG eq r k v
    | false => p :: repG eq r k v
def putG {κ β : Type} (eq : κ → κ → Bool) (l : List (κ × β)) (k : κ) (v : β) : List (κ × β) := match valG eq l k with
  | some _ => repG eq l k v
  | none => app l [(k, v)]
/-- d[y], where d is a dict: none where it is no key of its kind -/
def dGet (o : Ob) (y : W) : Option (Option W) := match o with
  | .dk l => (match keyO y with
    | some k => some (valG kEq l k)
    | none => none)
  | .dt l => (match y with
    | .tup ws => (match mapO keyO ws with
      | some k => some (valG kEqL l k)
      | none => none)
    | _ => none)
  | _ => none
def dPut (o : Ob) (y v : W) : Option Ob := match o with
  | .dk l => (match keyO y with
    | some k => (match Nat.blt (len l) LIM with
      | true => some (.dk (putG kEq l k v))
      | false => none)
    | none => none)
  | .dt l => (match y with
    | .tup ws => (match mapO keyO ws with
      | some k => (match Nat.blt (len l) LIM with
        | true => some (.dt (putG kEqL l k v))
        | false => none)
      | none => none)
    | _ => none)
  | _ => none
def anyO {α : Type} (f : α → Option Bool) : List α → Option Bool
  | [] => some false
  | a :: r => match f a with
    | some true => (match anyO f r with
      | some _ => some true
      | none => none)
    | some false => anyO f r
    | none => none
def memN : List Nat → Nat → Bool
  | [], _ => false
  | a :: r, c => match Nat.beq a c with
    | true => true
    | false => memN r c
def inL (h : Hq) (x : W) (l : List W) : Option Bool := match data 60 h x with
  | some d => anyO (fun z => match data 60 h z with
    | some e => eqP 62 e d
    | none => none) l
  | none => none
/-- x in y -/
def inW (h : Hq) (x y : W) : Option Bool := match y with
  | .ref n => (match h.get n with
    | some (.lst l) => inL h x l
    | some (.rol l) => inL h x l
    | some o => (match dGet o x with
      | some r => some r.isSome
      | none => none)
    | none => none)
  | .tup l => inL h x l
  | .ktup l => inL h x l
  | .str s => (match x with
    | .str c => (match c.cps.toList with
      | [a] => some (memN s.cps.toList a)
      | _ => none)
    | _ => none)
  | _ => none
def oIn : Op2 := fun x y h => bo (inW h x y) h
def oNotIn : Op2 := fun x y h => bn (inW h x y) h
def atW {α : Type} (l : List α) (i : Int) : Option α := match i with
  | .ofNat n => nth l n
  | .negSucc m => match Nat.blt m (len l) with
    | true => nth l (len l - (m + 1))
    | false => none
/-- x[y] -/
def oIx : Op2 := fun x y h => match x with
  | .tup l => (match y with
    | .int i => (match atW l i with
      | some w => .ok w h
      | none => .bad)
    | _ => .bad)
  | .ktup l => (match y with
    | .int i => (match atW l i with
      | some w => .ok w h
      | none => .bad)
    | _ => .bad)
  | .str s => (match y with
    | .int i => (match short s.cps.toList with
      | true => (match atW s.cps.toList i with
        | some c => .ok (.str ⟨⟨[c]⟩⟩) h
        | none => .bad)
      | false => .bad)
    | _ => .bad)
  | .ref n => (match h.get n with
    | some (.lst l) => (match y with
      | .int i => (match atW l i with
        | some w => .ok w h
        | none => .bad)
      | _ => .bad)
    | some (.rol l) => (match y with
      | .int i => (match atW l i with
        | some w => .ok w h
        | none => .bad)
      | _ => .bad)
    | some o => (match dGet o y with
      | some (some w) => .ok w h
      | _ => .bad)
    | none => .bad)
  | _ => .bad
def sIx (n d : Nat) : Option Int → Nat
  | none => d
  | some v => match v with
    | .ofNat k => (match Nat.ble k n with
      | true => k
      | false => n)
    | .negSucc m => n - (m + 1)
def drp {α : Type} : Nat → List α → List α
  | 0, l => l
  | n + 1, l => match l with
    | [] => []
    | _ :: r => drp n r
def tak {α : Type} : Nat → List α → List α
  | 0, _ => []
  | n + 1, l => match l with
    | [] => []
    | a :: r => a :: tak n r
def cut {α : Type} (l : List α) (lo hi : Option Int) : List α := tak (sIx (len l) (len l) hi - sIx (len l) 0 lo) (drp (sIx (len l) 0 lo) l)
def rv {α : Type} : List α → List α → List α
  | [], a => a
  | x :: r, a => rv r (x :: a)
theorem rvD {α : Type} : ∀ (l a : List α), rv l a = l.reverse ++ a
  | [], a => rfl
  | x :: r, a => by
    show rv r (x :: a) = _
    rw [rvD r (x :: a)]
    simp
/-- truth -/
def tru (h : Hq) : W → Option Bool
  | .non => some false
  | .bl b => some b
  | .int i => some (!iEq i 0)
  | .str x => (match short x.cps.toList with
    | true => some (match x.cps.toList with
      | [] => false
      | _ => true)
    | false => none)
  | .tup l => some (match l with
    | [] => false
    | _ => true)
  | .ktup l => some (match l with
    | [] => false
    | _ => true)
  | .ref n => (match h.get n with
    | some (.lst l) => some (match l with
      | [] => false
      | _ => true)
    | some (.rol l) => some (match l with
      | [] => false
      | _ => true)
    | some (.dk l) => some (match l with
      | [] => false
      | _ => true)
    | _ => none)
  | _ => none

/-! ### expressions -/
def dVar (i : Nat) : D := fun e h => match nth e i with
  | some (some w) => .ok w h
  | _ => .bad
def dC (w : W) : D := fun _ h => .ok w h
def dOp (f : Op2) (a b : D) : D := fun e h => (a e h).bind fun x h1 => (b e h1).bind fun y h2 => f x y h2
def dNeg (a : D) : D := fun e h => (a e h).bind fun x h1 => match x with
  | .int i => .ok (.int (-i)) h1
  | _ => .bad
def lNil : DL := fun _ h => .ok [] h
def lCons (a : D) (l : DL) : DL := fun e h => (a e h).bind fun x h1 => (l e h1).bind fun xs h2 => .ok (x :: xs) h2
def dTup (l : DL) : D := fun e h => (l e h).bind fun xs h1 => match short xs with
  | true => .ok (.tup xs) h1
  | false => .bad
def dLst (l : DL) : D := fun e h => (l e h).bind fun xs h1 => match short xs with
  | true => mk (.lst xs) h1
  | false => .bad
def dDk : D := fun _ h => mk (.dk []) h
def dDt : D := fun _ h => mk (.dt []) h
def dChain (f g : Op2) (a b c : D) : D := fun e h => (a e h).bind fun x h1 => (b e h1).bind fun y h2 => (f x y h2).bind fun r h3 => match r with
  | .bl true => (c e h3).bind fun z h4 => g y z h4
  | .bl false => .ok (.bl false) h3
  | _ => .bad
/-- a and b, a a bool -/
def dAnd (a b : D) : D := fun e h => (a e h).bind fun x h1 => match x with
  | .bl true => b e h1
  | .bl false => .ok (.bl false) h1
  | _ => .bad
def dOr (a b : D) : D := fun e h => (a e h).bind fun x h1 => match x with
  | .bl true => .ok (.bl true) h1
  | .bl false => b e h1
  | _ => .bad
def dOrT (a b : D) : D := fun e h => (a e h).bind fun x h1 => match tru h1 x with
  | some true => .ok x h1
  | some false => b e h1
  | none => .bad
def dNot (a : D) : D := fun e h => (a e h).bind fun x h1 => match x with
  | .bl b => .ok (.bl (!b)) h1
  | _ => .bad
def dIf (t : DB) (a b : D) : D := fun e h => (t e h).bind fun c h1 => match c with
  | true => a e h1
  | false => b e h1
def tVal (a : D) : DB := fun e h => (a e h).bind fun x h1 => match x with
  | .bl b => .ok b h1
  | _ => .bad
def tTru (a : D) : DB := fun e h => (a e h).bind fun x h1 => match tru h1 x with
  | some b => .ok b h1
  | none => .bad
def tAnd (a b : DB) : DB := fun e h => (a e h).bind fun c h1 => match c with
  | true => b e h1
  | false => .ok false h1
def tOr (a b : DB) : DB := fun e h => (a e h).bind fun c h1 => match c with
  | true => .ok true h1
  | false => b e h1
def tNot (a : DB) : DB := fun e h => (a e h).bind fun c h1 => .ok (!c) h1
def tYes : DB := fun _ h => .ok true h
abbrev DO := E → Hq → Rs (Option Int)
def oNone : DO := fun _ h => .ok none h
def oSome (a : D) : DO := fun e h => (a e h).bind fun x h1 => match x with
  | .int i => .ok (some i) h1
  | _ => .bad
/-- x[lo:hi] -/
def slW (x : W) (lo hi : Option Int) (h : Hq) : R := match x with
  | .ktup l => (match short l && Nat.blt (len (cut l lo hi)) (len l) with
    | true => .ok (.tup (cut l lo hi)) h
    | false => .bad)
  | .tup l => (match short l with
    | true => .ok (.tup (cut l lo hi)) h
    | false => .bad)
  | .str s => (match short s.cps.toList with
    | true => .ok (.str ⟨⟨cut s.cps.toList lo hi⟩⟩) h
    | false => .bad)
  | .ref n => (match h.seq n with
    | some l => (match short l with
      | true => mk (.lst (cut l lo hi)) h
      | false => .bad)
    | none => .bad)
  | _ => .bad
def dSl (a : D) (lo hi : DO) : D := fun e h => (a e h).bind fun x h1 => (lo e h1).bind fun l h2 => (hi e h2).bind fun u h3 => slW x l u h3
/-- a call of the program's own -/
abbrev CT := Nat → List W → Hq → R
def dCall (C : CT) (f : Nat) (l : DL) : D := fun e h => (l e h).bind fun ws h1 => C f ws h1
/-- by keywords: the values in the order of evaluation, put in the parameters' order -/
def dCallP (C : CT) (f : Nat) (pm : List Nat) (l : DL) : D := fun e h => (l e h).bind fun ws h1 => match mapO (nth ws) pm with
  | some vs => C f vs h1
  | none => .bad
/-- g(..), g a value that is a def -/
def dCallV (C : CT) (g : D) (l : DL) : D := fun e h => (g e h).bind fun x h1 => match x with
  | .fn f => (l e h1).bind fun ws h2 => C f ws h2
  | _ => .bad
abbrev Bi := List W → Hq → R
def dB (f : Bi) (l : DL) : D := fun e h => (l e h).bind fun ws h1 => f ws h1
/-- what is an instance of a built-in class -/
def isOf (h : Hq) (n : String) (w : W) : Option Bool := match w with
  | .non => some false
  | .bl _ => some (match n with
    | "int" => true
    | "bool" => true
    | _ => false)
  | .int _ => some (match n with
    | "int" => true
    | _ => false)
  | .str _ => some (match n with
    | "str" => true
    | _ => false)
  | .tup _ => some (match n with
    | "tuple" => true
    | _ => false)
  | .ktup _ => some (match n with
    | "tuple" => true
    | _ => false)
  | .ref k => (match h.seq k with
    | some _ => some (match n with
      | "list" => true
      | _ => false)
    | none => none)
  | _ => none
/-- isinstance(a, (..)) -/
def isAny (h : Hq) (w : W) : List String → Option Bool
  | [] => some false
  | n :: r => match isOf h n w with
    | some true => some true
    | some false => isAny h w r
    | none => none
def dIs (ns : List String) (a : D) : D := fun e h => (a e h).bind fun x h1 => bo (isAny h1 x ns) h1

def t5 (n : String) : Bool := match n with
  | "int" => true
  | "bool" => true
  | "str" => true
  | "tuple" => true
  | "list" => true
  | _ => false
def tyNs : List W → Option (List String)
  | [] => some []
  | w :: r => match w with
    | .ty n => (match t5 n with
      | true => (match tyNs r with
        | some l => some (n :: l)
        | none => none)
      | false => none)
    | _ => none
/-- isinstance(a, C), isinstance(a, (C, ..)) -/
def bIs : Bi := fun ws h => match ws with
  | [w, c] => (match c with
    | .ty n => (match t5 n with
      | true => bo (isAny h w [n]) h
      | false => .bad)
    | .tup cs => (match cs with
      | [] => .bad
      | c :: r => (match tyNs (c :: r) with
        | some ns => bo (isAny h w ns) h
        | none => .bad))
    | _ => .bad)
  | _ => .bad
/-- what is left over is one tuple -/
def lStar (l : DL) : DL := fun e h => (l e h).bind fun ws h1 => match short ws with
  | true => .ok [.tup ws] h1
  | false => .bad
def lApp (a b : DL) : DL := fun e h => (a e h).bind fun xs h1 => (b e h1).bind fun ys h2 => .ok (app xs ys) h2

/-! ### what is walked -/
/-- a part of a zip: a tuple's items; a list, of so many -/
inductive ZC where
  | t (l : List W) | l (n k : Nat)
inductive Src where
  | tup (l : List W) | lst (n : Nat) | rng (lo : Int) (c : Nat) | enm (s : Src) | zip (s t : Src) | str (l : List Nat) | keys (n : Nat) | zb (a b : ZC)
def zcAt : ZC → Nat → Hq → Option (Option W)
  | .t l, i, _ => some (nth l i)
  | .l n k, i, h => (match h.seq n with
    | some xs => (match Nat.beq (len xs) k with
      | true => some (nth xs i)
      | false => none)
    | none => none)
/-- none: out of the model; some none: the end -/
def next : Src → Nat → Hq → Option (Option W)
  | .tup l, i, _ => some (nth l i)
  | .lst n, i, h => (match h.seq n with
    | some l => some (nth l i)
    | none => none)
  | .rng lo c, i, _ => (match Nat.blt i c with
    | true => some (some (.int (lo + Int.ofNat i)))
    | false => some none)
  | .enm s, i, h => (match next s i h with
    | some sa => some (match sa with
      | some w => some (.tup [.int (Int.ofNat i), w])
      | none => none)
    | none => none)
  | .zip s t, i, h => (match next s i h with
    | some sa => (match next t i h with
      | some tb => some (match sa with
        | some a => (match tb with
          | some b => some (.tup [a, b])
          | none => none)
        | none => none)
      | none => none)
    | none => none)
  | .str l, i, _ => some (match nth l i with
    | some c => some (.str ⟨⟨[c]⟩⟩)
    | none => none)
  | .keys _, _, _ => none
  | .zb a b, i, h => (match zcAt a i h with
    | some sa => (match zcAt b i h with
      | some sb => some (match sa with
        | some x => (match sb with
          | some y => some (.tup [x, y])
          | none => none)
        | none => none)
      | none => none)
    | none => none)
abbrev DI := E → Hq → Rs Src
def srcOf (h : Hq) (w : W) : Option Src := match w with
  | .tup l => some (.tup l)
  | .ktup l => some (.tup l)
  | .ref n => (match h.seq n with
    | some _ => some (.lst n)
    | none => (match h.get n with
      | some (.rng lo hi) => (match iLt (-1000000000) lo && iLt lo 1000000000 && (iLt (-1000000000) hi && iLt hi 1000000000) with
        | true => some (.rng lo (hi - lo).toNat)
        | false => none)
      | _ => none))
  | .str x => (match short x.cps.toList with
    | true => some (.str x.cps.toList)
    | false => none)
  | _ => none
def seqOf (h : Hq) (w : W) : Option Src := match w with
  | .tup l => some (.tup l)
  | .ktup l => some (.tup l)
  | .ref n => (match h.seq n with
    | some _ => some (.lst n)
    | none => none)
  | _ => none
/-- the items themselves | enumerate(a) | zip(a, b) | range(..) -/
def iVal (a : D) : DI := fun e h => (a e h).bind fun x h1 => match srcOf h1 x with
  | some s => .ok s h1
  | none => .bad
def iEnm (a : D) : DI := fun e h => (a e h).bind fun x h1 => match seqOf h1 x with
  | some s => .ok (.enm s) h1
  | none => .bad
def iEnmS (s : DI) : DI := fun e h => (s e h).bind fun s h1 => .ok (.enm s) h1
def iZip (a b : D) : DI := fun e h => (a e h).bind fun x h1 => (b e h1).bind fun y h2 => match seqOf h2 x with
  | some s => (match seqOf h2 y with
    | some t => (match s, t with
      | .tup _, .tup _ => .ok (.zip s t) h2
      | .lst _, .lst _ => .ok (.zip s t) h2
      | _, _ => .bad)
    | none => .bad)
  | none => .bad
def zcO (h : Hq) (w : W) : Option ZC := match w with
  | .tup l => some (.t l)
  | .ktup l => some (.t l)
  | .ref n => (match h.seq n with
    | some xs => some (.l n (len xs))
    | none => none)
  | _ => none
/-- zip(a, b), each a list or a tuple -/
def iZipB (a b : D) : DI := fun e h => (a e h).bind fun x h1 => (b e h1).bind fun y h2 => match zcO h2 x with
  | some s => (match zcO h2 y with
    | some t => .ok (.zb s t) h2
    | none => .bad)
  | none => .bad
abbrev SM : Int := 1000000000
def iRng1 (a : D) : DI := fun e h => (a e h).bind fun x h1 => match x with
  | .int j => (match iLt (-SM) j && iLt j SM with
    | true => .ok (.rng 0 j.toNat) h1
    | false => .bad)
  | _ => .bad
def iRng2 (a b : D) : DI := fun e h => (a e h).bind fun x h1 => (b e h1).bind fun y h2 => match x, y with
  | .int i, .int j => (match iLt (-SM) i && iLt i SM && (iLt (-SM) j && iLt j SM) with
    | true => .ok (.rng i (j - i).toNat) h2
    | false => .bad)
  | _, _ => .bad

/-! ### targets -/
abbrev TGW := W → E → Hq → Rs E
def tN (i : Nat) : TGW := fun w e h => .ok (setN e i (some w)) h
abbrev TGL := List W → E → Hq → Rs E
def tLn : TGL := fun l e h => match l with
  | [] => .ok e h
  | _ => .bad
def tLc (t : TGW) (u : TGL) : TGL := fun l e h => match l with
  | w :: r => (t w e h).bind fun e1 h1 => u r e1 h1
  | [] => .bad
def tT (n : Nat) (u : TGL) : TGW := fun w e h => match w with
  | .tup l => (match Nat.beq (len l) n with
    | true => u l e h
    | false => .bad)
  | _ => .bad
/-- o[i] = w -/
def stW (x y w : W) (h : Hq) : Option Hq := match x with
  | .ref n => (match h.get n with
    | some (.lst l) => (match y with
      | .int i => (match i with
        | .ofNat k => (match Nat.blt k (len l) with
          | true => some (h.put n (.lst (setN l k w)))
          | false => none)
        | .negSucc m => (match Nat.blt m (len l) with
          | true => some (h.put n (.lst (setN l (len l - (m + 1)) w)))
          | false => none))
      | _ => none)
    | some o => (match dPut o y w with
      | some o' => some (h.put n o')
      | none => none)
    | none => none)
  | _ => none
def tS (a b : D) : TGW := fun w e h => match a e h with
  | .ok x h1 => (match b e h1 with
    | .ok y h2 => (match stW x y w h2 with
      | some h3 => .ok e h3
      | none => .bad)
    | _ => .bad)
  | _ => .bad

/-! ### comprehensions -/
abbrev FUEL : Nat := 1000000
def wipeE (e : E) : List Nat → E
  | [] => e
  | v :: vs => setN (wipeE e vs) v none
def lcA (nxt : Nat → Hq → Option (Option W)) (tg : TGW) (cnd : DB) (elt : D) (e0 : E) : Nat → Nat → List W → Hq → Rs (List W)
  | 0, _, _, _ => .bad
  | f + 1, i, acc, h => match nxt i h with
    | none => .bad
    | some none => .ok acc h
    | some (some w) => match tg w e0 h with
      | .ok e1 h1 => (match cnd e1 h1 with
        | .ok c h2 => (match c with
          | true => (match elt e1 h2 with
            | .ok y h3 => lcA nxt tg cnd elt e0 f (i + 1) (y :: acc) h3
            | _ => .bad)
          | false => lcA nxt tg cnd elt e0 f (i + 1) acc h2)
        | _ => .bad)
      | _ => .bad
/-- [elt for tg in .. for tg2 in src2 if cnd]; wp: the inner target's slots -/
def lcB (nxt : Nat → Hq → Option (Option W)) (tg : TGW) (src2 : DI) (tg2 : TGW) (cnd : DB) (elt : D) (wp : List Nat) (e0 : E) : Nat → Nat → List W → Hq → Rs (List W)
  | 0, _, _, _ => .bad
  | f + 1, i, acc, h => match nxt i h with
    | none => .bad
    | some none => .ok acc h
    | some (some w) => match tg w e0 h with
      | .ok e1 h1 => (match src2 e1 h1 with
        | .ok s h2 => (match lcA (next s) tg2 cnd elt (wipeE e1 wp) FUEL 0 acc h2 with
          | .ok acc2 h3 => (match short acc2 with
          | true => lcB nxt tg src2 tg2 cnd elt wp e0 f (i + 1) acc2 h3
          | false => .bad)
          | _ => .bad)
        | _ => .bad)
      | _ => .bad
def cLc2 (src : DI) (tg : TGW) (src2 : DI) (tg2 : TGW) (cnd : DB) (elt : D) (own wp : List Nat) : DL := fun e h => (src e h).bind fun s h1 => (lcB (next s) tg src2 tg2 cnd elt wp (wipeE e own) FUEL 0 [] h1).bind fun acc h2 => .ok (rv acc []) h2
/-- the items of [elt for tg in src if cnd] -/
def cLc (src : DI) (tg : TGW) (cnd : DB) (elt : D) (own : List Nat) : DL := fun e h => (src e h).bind fun s h1 => (lcA (next s) tg cnd elt (wipeE e own) FUEL 0 [] h1).bind fun acc h2 => .ok (rv acc []) h2
def cNew (c : DL) : D := fun e h => (c e h).bind fun l h1 => match Nat.ble (len l) LIM with
  | true => mk (.lst l) h1
  | false => .bad
def cTup (c : DL) : D := fun e h => (c e h).bind fun l h1 => match Nat.ble (len l) LIM with
  | true => .ok (.tup l) h1
  | false => .bad
def allB : List W → Option Bool
  | [] => some true
  | w :: r => match w with
    | .bl b => (match allB r with
      | some c => some (b && c)
      | none => none)
    | _ => none
/-- tuple([..]), known -/
def cTupK (c : DL) : D := fun e h => (c e h).bind fun l h1 => match Nat.ble (len l) LIM with
  | true => .ok (.ktup l) h1
  | false => .bad
def cAll (c : DL) : D := fun e h => (c e h).bind fun l h1 => match Nat.ble (len l) LIM with
  | true => bo (allB l) h1
  | false => .bad

/-! ### statements -/
def sExpr (a : D) : DS := fun e h => match a e h with
  | .ok _ h1 => .nx e h1
  | .ex x h1 => .ex x e h1
  | .bad => .bad
def sAsg (a : D) (t : TGW) : DS := fun e h => match a e h with
  | .ok w h1 => (match t w e h1 with
    | .ok e1 h2 => .nx e1 h2
    | _ => .bad)
  | .ex x h1 => .ex x e h1
  | .bad => .bad
def sRet (a : D) : DS := fun e h => match a e h with
  | .ok w h1 => .rt w h1
  | .ex x h1 => .ex x e h1
  | .bad => .bad
def sRetN : DS := fun _ h => .rt .non h
def sNil : DS := fun e h => .nx e h
def sPass : DS := fun e h => .nx e h
def sSeq (a b : DS) : DS := fun e h => match a e h with
  | .nx e1 h1 => b e1 h1
  | r => r
def sIf (t : DB) (a b : DS) : DS := fun e h => match t e h with
  | .ok c h1 => (match c with
    | true => a e h1
    | false => b e h1)
  | .ex x h1 => .ex x e h1
  | .bad => .bad
def sBrk : DS := fun e h => .bk e h
def sCnt : DS := fun e h => .ct e h
def forS (nxt : Nat → Hq → Option (Option W)) (tg : TGW) (body : DS) : Nat → Nat → E → Hq → RS
  | 0, _, _, _ => .bad
  | f + 1, i, e, h => match nxt i h with
    | none => .bad
    | some none => .nx e h
    | some (some w) => match tg w e h with
      | .ok e1 h1 => (match body e1 h1 with
        | .nx e2 h2 => forS nxt tg body f (i + 1) e2 h2
        | .ct e2 h2 => forS nxt tg body f (i + 1) e2 h2
        | .bk e2 h2 => .nx e2 h2
        | r => r)
      | _ => .bad
def sFor (src : DI) (tg : TGW) (body : DS) : DS := fun e h => match src e h with
  | .ok s h1 => forS (next s) tg body FUEL 0 e h1
  | .ex x h1 => .ex x e h1
  | .bad => .bad
def whS (t : DB) (body : DS) : Nat → E → Hq → RS
  | 0, _, _ => .bad
  | f + 1, e, h => match t e h with
    | .ok c h1 => (match c with
      | false => .nx e h1
      | true => (match body e h1 with
        | .nx e2 h2 => whS t body f e2 h2
        | .ct e2 h2 => whS t body f e2 h2
        | .bk e2 h2 => .nx e2 h2
        | r => r))
    | .ex x h1 => .ex x e h1
    | .bad => .bad
def sWh (t : DB) (body : DS) : DS := fun e h => whS t body FUEL e h
/-- raise C() | raise C(a) -/
def sRs0 (c : Nat) : DS := fun e h => .ex ⟨c, none⟩ e h
def sRs1 (c : Nat) (a : D) : DS := fun e h => match a e h with
  | .ok w h1 => .ex ⟨c, some w⟩ e h1
  | .ex x h1 => .ex x e h1
  | .bad => .bad
/-- try: body except C as n (slot i): suite .. -/
def hand (x : Xc) (e : E) (h : Hq) : List (Nat × Nat × (Xc → DS)) → RS
  | [] => .ex x e h
  | (c, i, s) :: r => match Nat.beq c x.cls with
    | true => (match Nat.blt i (len e) with
      | true => (match s x (setN e i none) h with
        | .nx e1 h1 => .nx (setN e1 i none) h1
        | .rt w h1 => .rt w h1
        | _ => .bad)
      | false => .bad)
    | false => hand x e h r
/-- n: how many error classes there are -/
def sTry (n : Nat) (body : DS) (hs : List (Nat × Nat × (Xc → DS))) : DS := fun e h => match body e h with
  | .ex x e1 h1 => (match Nat.blt x.cls n with
    | true => hand x e1 h1 hs
    | false => .bad)
  | r => r
/-- error.field | isinstance(error, B) in a suite -/
def dXf (x : Xc) : D := fun _ h => match x.arg with
  | some w => .ok w h
  | none => .bad
/-- l.append(a) | l.pop() | l.pop(i) -/
def dApp (a b : D) : D := fun e h => (a e h).bind fun x h1 => match x with
  | .ref n => (match h1.get n with
    | some (.lst _) => (b e h1).bind fun y h2 => (match h2.get n with
      | some (.lst l) => (match Nat.blt (len l) LIM with
        | true => .ok .non (h2.put n (.lst (app l [y])))
        | false => .bad)
      | _ => .bad)
    | _ => .bad)
  | _ => .bad
def dPop (a : D) : D := fun e h => (a e h).bind fun x h1 => match x with
  | .ref n => (match h1.get n with
    | some (.lst l) => (match rv l [] with
      | y :: r => .ok y (h1.put n (.lst (rv r [])))
      | [] => .bad)
    | _ => .bad)
  | _ => .bad
def delN {α : Type} : List α → Nat → List α
  | [], _ => []
  | a :: r, i => match i with
    | 0 => r
    | i + 1 => a :: delN r i
def dPopI (a b : D) : D := fun e h => (a e h).bind fun x h1 => (b e h1).bind fun y h2 => match x with
  | .ref n => (match h2.get n with
    | some (.lst l) => (match y with
      | .int i => (match i with
        | .ofNat k => (match nth l k with
          | some w => .ok w (h2.put n (.lst (delN l k)))
          | none => .bad)
        | .negSucc _ => .bad)
      | _ => .bad)
    | _ => .bad)
  | _ => .bad

/-! ### built-ins by values -/
def bLen : Bi := fun ws h => match ws with
  | [.tup l] => .ok (.int (Int.ofNat (len l))) h
  | [.ktup l] => .ok (.int (Int.ofNat (len l))) h
  | [.str s] => (match short s.cps.toList with
    | true => .ok (.int (Int.ofNat (len s.cps.toList))) h
    | false => .bad)
  | [.ref n] => (match h.get n with
    | some (.lst l) => .ok (.int (Int.ofNat (len l))) h
    | some (.rol l) => .ok (.int (Int.ofNat (len l))) h
    | some (.dk l) => .ok (.int (Int.ofNat (len l))) h
    | _ => .bad)
  | _ => .bad
def bAbs : Bi := fun ws h => match ws with
  | [.int i] => .ok (.int (match iLt i 0 with
    | true => -i
    | false => i)) h
  | _ => .bad
def bMin : Bi := fun ws h => match ws with
  | [.int i, .int j] => .ok (.int (match iLt j i with
    | true => j
    | false => i)) h
  | _ => .bad
def bMax : Bi := fun ws h => match ws with
  | [.int i, .int j] => .ok (.int (match iLt i j with
    | true => j
    | false => i)) h
  | _ => .bad
def bInt : Bi := fun ws h => match ws with
  | [.int i] => .ok (.int i) h
  | [.bl b] => .ok (.int (b2i b)) h
  | _ => .bad
def bList : Bi := fun ws h => match ws with
  | [.tup l] => mk (.lst l) h
  | [.ref n] => (match h.seq n with
    | some l => mk (.lst l) h
    | none => .bad)
  | _ => .bad
def bTup : Bi := fun ws h => match ws with
  | [.tup l] => .ok (.tup l) h
  | [.ref n] => (match h.seq n with
    | some l => .ok (.tup l) h
    | none => .bad)
  | _ => .bad
def insI (x : Int) : List Int → List Int
  | [] => [x]
  | y :: r => match iLt x y with
    | true => x :: y :: r
    | false => y :: insI x r
def srtI : List Int → List Int → List Int
  | [], a => a
  | x :: r, a => srtI r (insI x a)
def mpI : List Int → List W
  | [] => []
  | i :: r => .int i :: mpI r
def lstOf (h : Hq) (w : W) : Option (List W) := match w with
  | .tup l => some l
  | .ref n => h.seq n
  | _ => none
/-- sorted(a), a of ints -/
def bSrt : Bi := fun ws h => match ws with
  | [w] => (match lstOf h w with
    | some l => (match Nat.ble (len l) 60 with
      | true => (match intsO l with
        | some is => mk (.lst (mpI (srtI is []))) h
        | none => .bad)
      | false => .bad)
    | none => .bad)
  | _ => .bad
def bAll : Bi := fun ws h => match ws with
  | [.ref n] => (match h.seq n with
    | some l => bo (allB l) h
    | none => .bad)
  | _ => .bad
def memI : List Int → Int → Bool
  | [], _ => false
  | a :: r, c => match iEq a c with
    | true => true
    | false => memI r c
def ddI : List Int → List Int → List Int
  | [], a => a
  | x :: r, a => match memI a x with
    | true => ddI r a
    | false => ddI r (x :: a)
/-- sorted({..}) of ints -/
def cSrtSet (c : DL) : D := fun e h => (c e h).bind fun l h1 => match Nat.ble (len l) 60 with
  | true => (match intsO l with
    | some is => mk (.lst (mpI (srtI (ddI is []) []))) h1
    | none => .bad)
  | false => .bad
/-- x in range(n) -/
def dInR (neg : Bool) (a b : D) : D := fun e h => (a e h).bind fun x h1 => (b e h1).bind fun y h2 => match x, y with
  | .int i, .int n => (match iLt (-SM) n && iLt n SM with
    | true => .ok (.bl (match iLt (-1) i && iLt i n with
      | true => !neg
      | false => neg)) h2
    | false => .bad)
  | _, _ => .bad
/-- list(range(n)) -/
def rngL : Nat → List W → List W
  | 0, a => a
  | n + 1, a => rngL n (.int (Int.ofNat n) :: a)
def dLrng (a : D) : D := fun e h => (a e h).bind fun x h1 => match x with
  | .int j => (match iLt (-SM) j && iLt j 100000 with
    | true => mk (.lst (rngL j.toNat [])) h1
    | false => .bad)
  | _ => .bad

/-! ### the program -/
structure Fn where
  slots : Nat
  ar : Nat
  body : DS
def mkE : Nat → List W → E
  | 0, _ => []
  | n + 1, [] => none :: mkE n []
  | n + 1, w :: r => some w :: mkE n r
def fin (r : RS) : R := match r with
  | .nx _ h => .ok .non h
  | .rt w h => .ok w h
  | .ex x _ h => .ex x h
  | _ => .bad
def callN (P : CT → Nat → Option Fn) : Nat → CT
  | 0, _, _, _ => .bad
  | k + 1, f, ws, h => match P (callN P k) f with
    | some d => (match Nat.beq (len ws) d.ar with
      | true => fin (d.body (mkE d.slots ws) h)
      | false => .bad)
    | none => .bad
/-- all but these defs -/
def noStar (n : List Nat) (c : CT) : CT := fun i ws h => match memN n i with
  | true => .bad
  | false => c i ws h
end PW

set_option Elab.async false
set_option linter.all false
set_option maxRecDepth 100000
set_option maxHeartbeats 1000000
/-! PW1: the functional model against the machine: the relation, the judgements. -/
namespace PW
open PySem PySem.Spec PyProof.Rows L2

/-- what stands where: the program's defs and error classes, the errors' fields -/
structure G0 where
  fad : Nat → Addr
  cad : Nat → Addr
  fld : Nat → Str
structure Gc extends G0 where
  K : PySem.W.Frag
  w : World
abbrev gx (X : Cx) (G : G0) : Gc := ⟨G, X.K, X.w⟩

def TupAt (g : Gc) (H : Hp) (a : Addr) (vs : List V) : Prop := H a = some (.tup vs)
theorem TupAt.sq {g : Gc} {H : Hp} {a : Addr} {vs : List V} (h : TupAt g H a vs) : SqT g.K H a vs := by
  exact .of h
/-- a tuple whose object is known -/
def KTup (K : PySem.W.Frag) (H : Hp) (a : Addr) (vs : List V) : Prop := (∃ o : Obj, H a = some (.frz o (.tup vs)) ∧ o.cls = .type "tuple" ∧ o.dict = none) ∨
  ∃ (o : Obj) (its : Array Value) (n : Nat), K.lookup a = some o ∧ o.cls = .type "tuple" ∧ o.dict = none ∧ o.data = .seq its n ∧ its.size ≤ sizeLine ∧ Vals vs its.toList
theorem KTup.sq {K : PySem.W.Frag} {H : Hp} {a : Addr} {vs : List V} (h : KTup K H a vs) : SqT K H a vs := by
  rcases h with ⟨o, h, _⟩ | ⟨o, its, n, h1, h2, _, h4, h5, h6⟩
  · exact .inl (.inr ⟨o, h⟩)
  · exact .inr ⟨o, its, n, h1, h2, h4, h5, h6⟩
def tuO : HO → Bool
  | .tup _ => true
  | .frz _ (.tup _) => true
  | _ => false
abbrev NT (u : HO) : Prop := ∀ _ : Unit, tuO u ≠ true
abbrev Tus (H H' : Hp) : Prop := ∀ a u, tuO u = true → H a = some u → H' a = some u
theorem KTup.ext {K : PySem.W.Frag} {H H' : Hp} {a : Addr} {vs : List V} (x : Tus H H') (h : KTup K H a vs) : KTup K H' a vs := by
  rcases h with ⟨o, h, c⟩ | h
  · exact .inl ⟨o, x _ _ rfl h, c⟩
  · exact .inr h
mutual
inductive RW (g : Gc) (ρ : List Addr) (H : Hp) : W → V → Prop
  | non : RW g ρ H .non .non
  | bl (b : Bool) : RW g ρ H (.bl b) (.bl b)
  | int (i : Int) : RW g ρ H (.int i) (.int i)
  | str (x : Str) : RW g ρ H (.str x) (.str x)
  | tup {l : List W} {a : Addr} {vs : List V} : TupAt g H a vs → RWs g ρ H l vs → RW g ρ H (.tup l) (.ref a)
  | ref {n : Nat} {a : Addr} : ρ[n]? = some a → RW g ρ H (.ref n) (.ref a)
  | ty (n : String) : RW g ρ H (.ty n) (.ty n)
  | fn (i : Nat) : RW g ρ H (.fn i) (.ref (g.fad i))
  | ktup {l : List W} {a : Addr} {vs : List V} : KTup g.K H a vs → RWs g ρ H l vs → RW g ρ H (.ktup l) (.ref a)
inductive RWs (g : Gc) (ρ : List Addr) (H : Hp) : List W → List V → Prop
  | nil : RWs g ρ H [] []
  | cons {w : W} {v : V} {l : List W} {vs : List V} : RW g ρ H w v → RWs g ρ H l vs → RWs g ρ H (w :: l) (v :: vs)
end
/-- the objects of the model's heap grow and change; all else stands -/
structure Ext (ρ : List Addr) (H : Hp) (ρ' : List Addr) (H' : Hp) : Prop where
  pre : ∃ e, ρ' = ρ ++ e
  fresh : ∀ a ∈ ρ', a ∈ ρ ∨ H a = none
  frame : ∀ a o, H a = some o → a ∉ ρ → H' a = some o
  tups : Tus H H'
theorem Ext.refl {ρ : List Addr} {H : Hp} : Ext ρ H ρ H := ⟨⟨[], by simp⟩, fun _ h => .inl h, fun _ _ h _ => h, fun _ _ _ h => h⟩
theorem Ext.trans {ρ ρ1 ρ2 : List Addr} {H H1 H2 : Hp} (a : Ext ρ H ρ1 H1) (b : Ext ρ1 H1 ρ2 H2) : Ext ρ H ρ2 H2 where
  pre := by
    obtain ⟨e, h⟩ := a.pre
    obtain ⟨e2, h2⟩ := b.pre
    exact ⟨e ++ e2, by rw [h2, h, List.append_assoc]⟩
  fresh := fun x hx => by
    rcases b.fresh x hx with h | h
    · exact a.fresh x h
    · by_cases hr : x ∈ ρ
      · exact .inl hr
      · cases q : H x with
        | none => exact .inr rfl
        | some o => rw [a.frame x o q hr] at h; cases h
  frame := fun x o e hn => b.frame x o (a.frame x o e hn) fun z => by
    rcases a.fresh x z with h | h
    · exact hn h
    · rw [e] at h; cases h
  tups := fun x xs t e => b.tups x xs t (a.tups x xs t e)
theorem Ext.at {ρ ρ' : List Addr} {H H' : Hp} (x : Ext ρ H ρ' H') {n : Nat} {a : Addr} (h : ρ[n]? = some a) : ρ'[n]? = some a := by
  obtain ⟨e, rfl⟩ := x.pre
  have hl : n < ρ.length := (List.getElem?_eq_some_iff.mp h).1
  rw [List.getElem?_append_left hl]
  exact h
section
variable {g : Gc} {ρ ρ' : List Addr} {H H' : Hp}
mutual
theorem RW.ext (x : Ext ρ H ρ' H') : ∀ {w : W} {v : V}, RW g ρ H w v → RW g ρ' H' w v
  | _, _, .non => .non
  | _, _, .bl b => .bl b
  | _, _, .int i => .int i
  | _, _, .str s => .str s
  | _, _, .tup h r => .tup (x.tups _ _ rfl h) (RWs.ext x r)
  | _, _, .ktup h r => .ktup (h.ext x.tups) (RWs.ext x r)
  | _, _, .ref h => .ref (x.at h)
  | _, _, .ty n => .ty n
  | _, _, .fn i => .fn i
theorem RWs.ext (x : Ext ρ H ρ' H') : ∀ {l : List W} {vs : List V}, RWs g ρ H l vs → RWs g ρ' H' l vs
  | _, _, .nil => .nil
  | _, _, .cons h r => .cons (RW.ext x h) (RWs.ext x r)
end
theorem RWs.length : ∀ {l : List W} {vs : List V}, RWs g ρ H l vs → l.length = vs.length
  | _, _, .nil => rfl
  | _, _, .cons _ r => by simp [RWs.length r]
theorem RWs.app : ∀ {l r : List W} {vs ws : List V}, RWs g ρ H l vs → RWs g ρ H r ws → RWs g ρ H (l ++ r) (vs ++ ws)
  | _, _, _, _, .nil, q => q
  | _, _, _, _, .cons h r, q => .cons h (RWs.app r q)
theorem RWs.drop : ∀ {l : List W} {vs : List V} (n : Nat), RWs g ρ H l vs → RWs g ρ H (l.drop n) (vs.drop n)
  | _, _, 0, r => r
  | _, _, _ + 1, .nil => .nil
  | _, _, n + 1, .cons _ r => RWs.drop n r
theorem RWs.take : ∀ {l : List W} {vs : List V} (n : Nat), RWs g ρ H l vs → RWs g ρ H (l.take n) (vs.take n)
  | _, _, 0, _ => .nil
  | _, _, _ + 1, .nil => .nil
  | _, _, n + 1, .cons h r => .cons h (RWs.take n r)
theorem RWs.get : ∀ {l : List W} {vs : List V} {i : Nat} {w : W}, RWs g ρ H l vs → l[i]? = some w → ∃ v, vs[i]? = some v ∧ RW g ρ H w v
  | _, _, _, _, .nil, e => by simp at e
  | _, _, 0, _, .cons h _, e => by simp at e; subst e; exact ⟨_, rfl, h⟩
  | _, _, i + 1, _, .cons _ r, e => by
    obtain ⟨v, h1, h2⟩ := RWs.get (i := i) r (by simpa using e)
    exact ⟨v, by simpa using h1, h2⟩
theorem RWs.set {w : W} {v : V} (h : RW g ρ H w v) : ∀ {l : List W} {vs : List V} (i : Nat), RWs g ρ H l vs → RWs g ρ H (l.set i w) (vs.set i v)
  | _, _, _, .nil => .nil
  | _, _, 0, .cons _ r => .cons h r
  | _, _, i + 1, .cons q r => .cons q (RWs.set h i r)
theorem RWs.erase : ∀ {l : List W} {vs : List V} (i : Nat), RWs g ρ H l vs → RWs g ρ H (l.eraseIdx i) (vs.eraseIdx i)
  | _, _, _, .nil => .nil
  | _, _, 0, .cons _ r => r
  | _, _, i + 1, .cons q r => .cons q (RWs.erase i r)
theorem RWs.rep {l : List W} {vs : List V} (r : RWs g ρ H l vs) : ∀ n : Nat, RWs g ρ H (List.replicate n l).flatten (List.replicate n vs).flatten
  | 0 => .nil
  | n + 1 => by
    rw [List.replicate_succ, List.replicate_succ, List.flatten_cons, List.flatten_cons]
    exact r.app (RWs.rep r n)
theorem RWs.rev : ∀ {l : List W} {vs : List V}, RWs g ρ H l vs → RWs g ρ H l.reverse vs.reverse
  | _, _, .nil => .nil
  | _, _, .cons h r => by
    rw [List.reverse_cons, List.reverse_cons]
    exact (RWs.rev r).app (.cons h .nil)
/-- pairs with equal keys -/
inductive RKs {κ : Type} (g : Gc) (ρ : List Addr) (H : Hp) : List (κ × W) → List (κ × V) → Prop
  | nil : RKs g ρ H [] []
  | cons {k : κ} {w : W} {v : V} {l : List (κ × W)} {vs : List (κ × V)} : RW g ρ H w v → RKs g ρ H l vs → RKs g ρ H ((k, w) :: l) ((k, v) :: vs)
theorem RKs.ext {κ : Type} (x : Ext ρ H ρ' H') : ∀ {l : List (κ × W)} {vs : List (κ × V)}, RKs g ρ H l vs → RKs g ρ' H' l vs
  | _, _, .nil => .nil
  | _, _, .cons h r => .cons (h.ext x) (RKs.ext x r)
theorem RKs.length {κ : Type} : ∀ {l : List (κ × W)} {vs : List (κ × V)}, RKs g ρ H l vs → l.length = vs.length
  | _, _, .nil => rfl
  | _, _, .cons _ r => by simp [RKs.length r]
end
section
variable {g : Gc} {ρ ρ' : List Addr} {H H' : Hp} (hp : ∀ (n : Nat) (a : Addr), ρ[n]? = some a → ρ'[n]? = some a) (ht : Tus H H')
include hp ht
mutual
theorem RW.ext0 : ∀ {w : W} {v : V}, RW g ρ H w v → RW g ρ' H' w v
  | _, _, .non => .non
  | _, _, .bl b => .bl b
  | _, _, .int i => .int i
  | _, _, .str s => .str s
  | _, _, .tup h r => .tup (ht _ _ rfl h) (RWs.ext0 r)
  | _, _, .ktup h r => .ktup (h.ext ht) (RWs.ext0 r)
  | _, _, .ref h => .ref (hp _ _ h)
  | _, _, .ty n => .ty n
  | _, _, .fn i => .fn i
theorem RWs.ext0 : ∀ {l : List W} {vs : List V}, RWs g ρ H l vs → RWs g ρ' H' l vs
  | _, _, .nil => .nil
  | _, _, .cons h r => .cons (RW.ext0 h) (RWs.ext0 r)
end
theorem RKs.ext0 {κ : Type} : ∀ {l : List (κ × W)} {vs : List (κ × V)}, RKs g ρ H l vs → RKs g ρ' H' l vs
  | _, _, .nil => .nil
  | _, _, .cons h r => .cons (RW.ext0 hp ht h) (RKs.ext0 r)
end
/-- the model's objects stand where they stood, tuples stay -/
structure ExtW (ρ : List Addr) (H : Hp) (ρ' : List Addr) (H' : Hp) : Prop where
  pre : ∃ z, ρ' = ρ ++ z
  tups : Tus H H'
theorem Ext.w {ρ ρ' : List Addr} {H H' : Hp} (x : Ext ρ H ρ' H') : ExtW ρ H ρ' H' := ⟨x.pre, x.tups⟩
theorem ExtW.refl {ρ : List Addr} {H : Hp} : ExtW ρ H ρ H := ⟨⟨[], by simp⟩, fun _ _ _ h => h⟩
theorem ExtW.trans {ρ ρ1 ρ2 : List Addr} {H H1 H2 : Hp} (a : ExtW ρ H ρ1 H1) (b : ExtW ρ1 H1 ρ2 H2) : ExtW ρ H ρ2 H2 := by
  obtain ⟨z1, e1⟩ := a.pre
  obtain ⟨z2, e2⟩ := b.pre
  exact ⟨⟨z1 ++ z2, by rw [e2, e1, List.append_assoc]⟩, fun c xs t e => b.tups c xs t (a.tups c xs t e)⟩
theorem ExtW.at {ρ ρ' : List Addr} {H H' : Hp} (x : ExtW ρ H ρ' H') {n : Nat} {a : Addr} (h : ρ[n]? = some a) : ρ'[n]? = some a := by
  obtain ⟨z, hz⟩ := x.pre
  rw [hz, List.getElem?_append_left (List.getElem?_eq_some_iff.mp h).1]
  exact h
theorem RW.extw {g : Gc} {ρ ρ' : List Addr} {H H' : Hp} {w : W} {v : V} (r : RW g ρ H w v) (x : ExtW ρ H ρ' H') : RW g ρ' H' w v := r.ext0 (fun _ _ => x.at) x.tups
theorem RWs.extw {g : Gc} {ρ ρ' : List Addr} {H H' : Hp} {l : List W} {vs : List V} (r : RWs g ρ H l vs) (x : ExtW ρ H ρ' H') : RWs g ρ' H' l vs := r.ext0 (fun _ _ => x.at) x.tups
def RO (g : Gc) (ρ : List Addr) (H : Hp) (o : Ob) (a : Addr) : Prop := match o with
  | .lst l => ∃ vs, H a = some (.lst vs) ∧ RWs g ρ H l vs
  | .rol l => ∃ vs, SqL g.K H a vs ∧ RWs g ρ H l vs
  | .dk l => ∃ kvs : List (L2.Key × V), H a = some (.dK kvs) ∧ RKs g ρ H l kvs
  | .dt l => ∃ kvs : List (List L2.Key × V), H a = some (.dT kvs) ∧ RKs g ρ H l kvs
  | .st l => ∃ (S : Int → Bool), H a = some (SetO g.w a S l.length) ∧ ∀ k, S k = true ↔ k ∈ l
  | .rng lo hi => H a = some (.rng lo hi)
structure RH (g : Gc) (ρ : List Addr) (h : Hq) (H : Hp) : Prop where
  len : ρ.length = h.n
  le : h.n ≤ LINE
  nd : ρ.Nodup
  ob : ∀ n o a, h.get n = some o → ρ[n]? = some a → RO g ρ H o a
  nt : ∀ a ∈ ρ, ∃ o, H a = some o ∧ NT o
/-- an error: its class, its own dict -/
def RX (g : Gc) (ρ : List Addr) (H : Hp) (x : Xc) (cls : Value) (d : Option Addr) : Prop := cls = .ref (g.cad x.cls) ∧ match x.arg with
  | none => d = none
  | some w => ∃ dd v, d = some dd ∧ RW g ρ H w v ∧ H dd = some (.xd [(g.fld x.cls, v)]) ∧ dd ∉ ρ

/-- a slot that is known: what it holds, of an error what stands behind it -/
abbrev PinT := Nat × V × Option (Xc × Value × Option Addr)
def PinE (g : Gc) (ρ : List Addr) (H : Hp) : Option (Xc × Value × Option Addr) → Prop
  | none => True
  | some (x, cls, d) => RX g ρ H x cls d
theorem RX.ext {g : Gc} {ρ ρ' : List Addr} {H H' : Hp} {z : Xc} {cls : Value} {d : Option Addr} (x : Ext ρ H ρ' H') (r : RX g ρ H z cls d) : RX g ρ' H' z cls d := by
  obtain ⟨e, r⟩ := r
  cases q : z.arg with
  | none =>
    rw [q] at r
    exact ⟨e, by rw [q]; exact r⟩
  | some w =>
    rw [q] at r
    obtain ⟨dd, v, e1, r1, r2, n⟩ := r
    have n' : dd ∉ ρ' := fun m => by
      rcases x.fresh dd m with z | z
      · exact n z
      · rw [r2] at z; cases z
    exact ⟨e, by rw [q]; exact ⟨dd, v, e1, r1.ext x, x.frame dd _ r2 n, n'⟩⟩
theorem PinE.ext {g : Gc} {ρ ρ' : List Addr} {H H' : Hp} (x : Ext ρ H ρ' H') : ∀ {o : Option (Xc × Value × Option Addr)}, PinE g ρ H o → PinE g ρ' H' o
  | none, _ => True.intro
  | some (_, _, _), r => RX.ext x r
structure RE (g : Gc) (pn : List PinT) (ρ : List Addr) (H : Hp) (e : E) (σ : L2.St) : Prop where
  len : e.length = σ.length
  at_ : ∀ (i : Nat) (w : W), e[i]? = some (some w) → ∃ v, σ[i]? = some (some v) ∧ RW g ρ H w v
  pin : ∀ p ∈ pn, σ[p.1]? = some (some p.2.1) ∧ PinE g ρ H p.2.2
theorem RE.ext {g : Gc} {pn : List PinT} {ρ ρ' : List Addr} {H H' : Hp} {e : E} {σ : L2.St} (r : RE g pn ρ H e σ) (x : Ext ρ H ρ' H') : RE g pn ρ' H' e σ :=
  ⟨r.len, fun i w h => let ⟨v, h1, h2⟩ := r.at_ i w h; ⟨v, h1, h2.ext x⟩, fun p hp => ⟨(r.pin p hp).1, (r.pin p hp).2.ext x⟩⟩
theorem RE.extw {g : Gc} {ρ ρ' : List Addr} {H H' : Hp} {e : E} {σ : L2.St} (r : RE g [] ρ H e σ) (x : ExtW ρ H ρ' H') : RE g [] ρ' H' e σ :=
  ⟨r.len, fun i w h => let ⟨v, h1, h2⟩ := r.at_ i w h; ⟨v, h1, h2.extw x⟩, by simp⟩
section
variable {α β γ δ : Type}
/-- what is asked behind a result -/
def Aft (g : Gc) (rel : List Addr → Hp → α → β → Prop) (ρ : List Addr) (H : Hp) (Wx : WX) (σ : L2.St) (r : Rs α) (Q : β → Hp → Prop) : Prop := match r with
  | .ok a h' => ∀ ρ' H' b, Ext ρ H ρ' H' → RH g ρ' h' H' → rel ρ' H' a b → Q b H'
  | .ex x h' => ∀ ρ' H' cls d, Ext ρ H ρ' H' → RH g ρ' h' H' → RX g ρ' H' x cls d → Wx cls d σ H'
  | .bad => False
/-- a model's term as a reading -/
def rd (g : Gc) (pn : List PinT) (rel : List Addr → Hp → α → β → Prop) (Wx : WX) (d : E → Hq → Rs α) : L2.St → Hp → (β → Hp → Prop) → Prop := fun σ H Q =>
  ∃ ρ e h, RE g pn ρ H e σ ∧ RH g ρ h H ∧ Aft g rel ρ H Wx σ (d e h) Q
variable {g : Gc} {pn : List PinT} {rel : List Addr → Hp → α → β → Prop} {rel2 : List Addr → Hp → γ → δ → Prop} {ρ ρ' : List Addr} {H H' : Hp} {Wx : WX} {σ : L2.St}
theorem Aft.ext {r : Rs α} {Q : β → Hp → Prop} (x : Ext ρ H ρ' H') (h : Aft g rel ρ H Wx σ r Q) : Aft g rel ρ' H' Wx σ r Q := by
  cases r with
  | ok a h1 => exact fun ρ2 H2 b y => h ρ2 H2 b (x.trans y)
  | ex z h1 => exact fun ρ2 H2 c d y => h ρ2 H2 c d (x.trans y)
  | bad => exact h
theorem Aft.imp {r : Rs α} {Q Q' : β → Hp → Prop} (h : Aft g rel ρ H Wx σ r Q) (i : ∀ b H', Q b H' → Q' b H') : Aft g rel ρ H Wx σ r Q' := by
  cases r with
  | ok a h1 => exact fun ρ2 H2 b y z w => i _ _ (h ρ2 H2 b y z w)
  | ex z h1 => exact h
  | bad => exact h
theorem Aft.bind {r : Rs α} {k : α → Hq → Rs γ} {Q : δ → Hp → Prop} (h : Aft g rel2 ρ H Wx σ (r.bind k) Q) :
    Aft g rel ρ H Wx σ r (fun b H' => ∃ ρ' a h', Ext ρ H ρ' H' ∧ RH g ρ' h' H' ∧ rel ρ' H' a b ∧ Aft g rel2 ρ' H' Wx σ (k a h') Q) := by
  cases r with
  | ok a h1 => exact fun ρ2 H2 b y z w => ⟨ρ2, a, h1, y, z, w, Aft.ext y h⟩
  | ex z h1 => exact h
  | bad => exact h
theorem rd.imp {d : E → Hq → Rs α} {Q Q' : β → Hp → Prop} (h : rd g pn rel Wx d σ H Q) (i : ∀ b H', Q b H' → Q' b H') : rd g pn rel Wx d σ H Q' := by
  obtain ⟨ρ, e, h, re, rh, a⟩ := h
  exact ⟨ρ, e, h, re, rh, a.imp i⟩
/-- first d, then k -/
theorem rd.bind {d : E → Hq → Rs α} {k : E → α → Hq → Rs γ} {Q : δ → Hp → Prop} (h : rd g pn rel2 Wx (fun e h => (d e h).bind (k e)) σ H Q) :
    rd g pn rel Wx d σ H (fun b H' => ∃ ρ e a h', RE g pn ρ H' e σ ∧ RH g ρ h' H' ∧ rel ρ H' a b ∧ Aft g rel2 ρ H' Wx σ (k e a h') Q) := by
  obtain ⟨ρ, e, h, re, rh, a⟩ := h
  refine ⟨ρ, e, h, re, rh, (Aft.bind a).imp ?_⟩
  rintro b H' ⟨ρ', w, h', x, rh', rw', af⟩
  exact ⟨ρ', e, w, h', re.ext x, rh', rw', af⟩
/-- the end: the model says ok -/
theorem Aft.go {a : α} {b : β} {h : Hq} {Q : β → Hp → Prop} (f : Aft g rel ρ H Wx σ (.ok a h) Q) (x : Ext ρ H ρ' H') (rh : RH g ρ' h H') (r : rel ρ' H' a b) : Q b H' := f ρ' H' b x rh r
end

/-! ### the judgements -/
abbrev rEqB : List Addr → Hp → Bool → Bool → Prop := fun _ _ a b => a = b
abbrev rEqO : List Addr → Hp → Option Int → Option Int → Prop := fun _ _ a b => a = b
/-- what holds of the place where code runs -/
structure Cs (X : Cx) (Wx : WX) : Prop where
  calm : X.calm = true
  nd : X.N.Nodup
  pass : PassesOwn (model X.prog X.w) X.A X.env X.xe
  tk : Takes X Wx
  un : X.A.units + 70 < cLine
def SE (X : Cx) (G : G0) (pn : List PinT) (Wx : WX) (e : Expr) (d : D) : Prop := PE X e (rd (gx X G) pn (RW (gx X G)) Wx d)
def SL (X : Cx) (G : G0) (pn : List PinT) (Wx : WX) (es : List Expr) (d : DL) : Prop := PA X es (rd (gx X G) pn (RWs (gx X G)) Wx d)
def SB (X : Cx) (G : G0) (pn : List PinT) (Wx : WX) (e : Expr) (d : DB) : Prop := PT X e (rd (gx X G) pn rEqB Wx d)
def SBw (X : Cx) (G : G0) (pn : List PinT) (Wx : WX) (e : Expr) (d : DB) : Prop := L2.PW X e (rd (gx X G) pn rEqB Wx d)
def SO (X : Cx) (G : G0) (pn : List PinT) (Wx : WX) (e : Option Expr) (d : DO) : Prop := PO X e (rd (gx X G) pn rEqO Wx d)
theorem PE.imp {X : Cx} {e : Expr} {t t' : TE} (h : PE X e t) (i : ∀ σ H Q, t' σ H Q → t σ H Q) : PE X e t' := ⟨fun pins s σ H Q I q => h.run pins s σ H Q I (i σ H Q q)⟩
theorem PA.imp {X : Cx} {e : List Expr} {t t' : TA} (h : PA X e t) (i : ∀ σ H Q, t' σ H Q → t σ H Q) : PA X e t' := ⟨fun pos pins s σ H Q I q => h.run pos pins s σ H Q I (i σ H Q q)⟩
theorem PT.imp {X : Cx} {e : Expr} {t t' : TT} (h : PT X e t) (i : ∀ σ H Q, t' σ H Q → t σ H Q) : PT X e t' := ⟨fun pins s σ H Q I q => h.run pins s σ H Q I (i σ H Q q)⟩
theorem PWt.imp {X : Cx} {e : Expr} {t t' : TT} (h : L2.PW X e t) (i : ∀ σ H Q, t' σ H Q → t σ H Q) : L2.PW X e t' := ⟨fun wh pins s σ H Q I q => h.run wh pins s σ H Q I (i σ H Q q)⟩
theorem PO.imp {X : Cx} {e : Option Expr} {t t' : TO} (h : PO X e t) (i : ∀ σ H Q, t' σ H Q → t σ H Q) : PO X e t' := ⟨fun pins s σ H Q I q => h.run pins s σ H Q I (i σ H Q q)⟩
theorem PS.imp {X : Cx} {e : Stmt} {t t' : TS} (h : PS X e t) (i : ∀ D σ H, t' D σ H → t D σ H) : PS X e t' := ⟨fun pins s σ H D I q => h.run pins s σ H D I (i D σ H q)⟩
theorem PSs.imp {X : Cx} {e : List Stmt} {t t' : TS} (h : PSs X e t) (i : ∀ D σ H, t' D σ H → t D σ H) : PSs X e t' := ⟨fun pins s σ H D I q => h.run pins s σ H D I (i D σ H q)⟩

/-! ### names, constants -/
section
variable {X : Cx} {G : G0} {pn : List PinT} {Wx : WX} {pos : Pos}
theorem rd_c {w : W} {v : V} {σ : L2.St} {H : Hp} {Q : VK} (hr : ∀ ρ H, RW (gx X G) ρ H w v) (h : rd (gx X G) pn (RW (gx X G)) Wx (dC w) σ H Q) : Q v H := by
  obtain ⟨ρ, e, h, re, rh, a⟩ := h
  exact a.go .refl rh (hr _ _)
theorem se_var (i : Nat) {x : Str} (hN : X.N[i]? = some x := by rfl) (hv : Vis X.env.scope x := by first | exact Or.inl rfl | exact Or.inr (Or.inl rfl) | exact Or.inr (Or.inr rfl)) (hd : (x == ("__debug__" : Str)) = false := by decide)
    (hcd : (x == ("__classdict__" : Str)) = false := by decide) : SE X G pn Wx (.Name x pos) (dVar i) := by
  refine PE.imp (pe_var hN hv hd hcd) fun σ H Q q => ?_
  obtain ⟨ρ, e, h, re, rh, a⟩ := q
  unfold dVar at a
  rw [nthD] at a
  cases q : e[i]? with
  | none => rw [q] at a; exact a.elim
  | some o =>
    cases o with
    | none => rw [q] at a; exact a.elim
    | some w =>
      rw [q] at a
      obtain ⟨v, h1, h2⟩ := re.at_ i w q
      exact ⟨v, h1, a.go .refl rh h2⟩
theorem se_int {i : Int} {j} : SE X G pn Wx (.Constant (.int i) j pos) (dC (.int i)) := PE.imp pe_int fun _ _ _ q => rd_c (fun _ _ => .int i) q
theorem se_bl {b : Bool} {j} : SE X G pn Wx (.Constant (.bool b) j pos) (dC (.bl b)) := PE.imp pe_bl fun _ _ _ q => rd_c (fun _ _ => .bl b) q
theorem se_non {j} : SE X G pn Wx (.Constant .none j pos) (dC .non) := PE.imp pe_non fun _ _ _ q => rd_c (fun _ _ => .non) q
theorem se_str {x y : Str} {j} (e : x = y) : SE X G pn Wx (.Constant (.str x) j pos) (dC (.str y)) := by
  subst e
  exact PE.imp pe_str fun _ _ _ q => rd_c (fun _ _ => .str x) q
/-- a number, a text of the module -/
theorem se_gint {x : Str} {i : Int} (c : ∃ t, X.mg x = some (.int i t)) (hg : Gl X x := by rfl) (hd : (x == ("__debug__" : Str)) = false := by decide) : SE X G pn Wx (.Name x pos) (dC (.int i)) := by
  obtain ⟨t, c⟩ := c
  exact PE.imp (pe_glob (v := .int i) hg c ⟨t, rfl⟩ hd) fun _ _ _ q => rd_c (fun _ _ => .int i) q
theorem se_gstr {x : Str} {i : Str} (c : ∃ t, X.mg x = some (.str i t)) (hg : Gl X x := by rfl) (hd : (x == ("__debug__" : Str)) = false := by decide) : SE X G pn Wx (.Name x pos) (dC (.str i)) := by
  obtain ⟨t, c⟩ := c
  exact PE.imp (pe_glob (v := .str i) hg c ⟨t, rfl⟩ hd) fun _ _ _ q => rd_c (fun _ _ => .str i) q
theorem se_fnv {x : Str} {i : Nat} (c : X.mg x = some (.ref (G.fad i))) (hg : Gl X x := by rfl) (hd : (x == ("__debug__" : Str)) = false := by decide) : SE X G pn Wx (.Name x pos) (dC (.fn i)) :=
  PE.imp (pe_glob hg c (v := .ref (G.fad i)) rfl hd) fun _ _ _ q => rd_c (fun _ _ => RW.fn (g := gx X G) i) q
end

/-! ### operators -/
/-- an operator of the model as a reading -/
def rOp (g : Gc) (f : Op2) : R2 := fun x y H Q => ∃ ρ wx wy h, RH g ρ h H ∧ RW g ρ H wx x ∧ RW g ρ H wy y ∧ match f wx wy h with
  | .ok w h' => ∀ ρ' H' v, Ext ρ H ρ' H' → RH g ρ' h' H' → RW g ρ' H' w v → Q v H'
  | _ => False
structure OpS (X : Cx) (G : G0) (f : Value → Value → Sem Value) (op : Op2) : Prop where
  nox : ∀ x y h z h', op x y h ≠ .ex z h'
  run : OpR X f (rOp (gx X G) op)
section
variable {X : Cx} {G : G0} {pn : List PinT} {Wx : WX} {pos : Pos} {a b c : Expr} {da db dc : D} {f : Op2}
theorem rop_of {g : Gc} {ρ : List Addr} {H : Hp} {σ : L2.St} {wx wy : W} {h : Hq} {x y : V} {Q : VK} (nox : ∀ x y h z h', f x y h ≠ .ex z h') (rh : RH g ρ h H) (rx : RW g ρ H wx x) (ry : RW g ρ H wy y) (af : Aft g (RW g) ρ H Wx σ (f wx wy h) Q) :
    rOp g f x y H Q := by
  refine ⟨ρ, wx, wy, h, rh, rx, ry, ?_⟩
  cases q : f wx wy h with
  | ok w h' => rw [q] at af; exact af
  | ex z h' => exact (nox _ _ _ _ _ q).elim
  | bad => rw [q] at af; exact af
theorem rd_op {σ : L2.St} {H : Hp} {Q : VK} (nox : ∀ x y h z h', f x y h ≠ .ex z h') (q : rd (gx X G) pn (RW (gx X G)) Wx (dOp f da db) σ H Q) :
    rd (gx X G) pn (RW (gx X G)) Wx da σ H fun x H1 => rd (gx X G) pn (RW (gx X G)) Wx db σ H1 fun y H2 => rOp (gx X G) f x y H2 Q := by
  refine (rd.bind q).imp ?_
  rintro x H1 ⟨ρ, e, wx, h, re, rh, rx, af⟩
  refine ⟨ρ, e, h, re, rh, (Aft.bind af).imp ?_⟩
  rintro y H2 ⟨ρ2, wy, h2, x2, rh2, ry, af2⟩
  exact rop_of nox rh2 (rx.ext x2) ry af2
theorem se_op {op : Operator} (ho : OpS X G (binaryOp op) f) (ha : SE X G pn Wx a da) (hb : SE X G pn Wx b db) : SE X G pn Wx (.BinOp a op b pos) (dOp f da db) :=
  PE.imp (pe_op ho.run ha hb) fun _ _ _ q => rd_op ho.nox q
theorem se_cmpM {op : CmpOp} (ho : OpS X G (compareOp op) f) (hm : behindInMarks op b = false) (ha : SE X G pn Wx a da) (hb : SE X G pn Wx b db) : SE X G pn Wx (.Compare a [op] [b] pos) (dOp f da db) :=
  PE.imp (pe_cmpR ho.run ha hb hm) fun _ _ _ q => rd_op ho.nox q
theorem se_cmp {op : CmpOp} (ho : OpS X G (compareOp op) f) (ha : SE X G pn Wx a da) (hb : SE X G pn Wx b db) (hm : behindInMarks op b = false := by exact nomark _) : SE X G pn Wx (.Compare a [op] [b] pos) (dOp f da db) := se_cmpM ho hm ha hb
theorem se_cmpI {op : CmpOp} (ho : OpS X G (compareOp op) f) (ha : SE X G pn Wx a da) (hb : SE X G pn Wx b db) (hm : behindInMarks op b = false := by rfl) : SE X G pn Wx (.Compare a [op] [b] pos) (dOp f da db) := se_cmpM ho hm ha hb
theorem rd_val {σ : L2.St} {H : Hp} {Q : Bool → Hp → Prop} (q : rd (gx X G) pn rEqB Wx (tVal da) σ H Q) : rd (gx X G) pn (RW (gx X G)) Wx da σ H fun x H' => ∃ k, x = .bl k ∧ Q k H' := by
  refine (rd.bind q).imp ?_
  rintro x H1 ⟨ρ, e, wx, h, re, rh, rx, af⟩
  cases rx with
  | bl b => exact ⟨b, rfl, af.go .refl rh rfl⟩
  | _ => exact af.elim
theorem st_cmpM {op : CmpOp} (ho : OpS X G (compareOp op) f) (hm : behindInMarks op b = false) (ha : SE X G pn Wx a da) (hb : SE X G pn Wx b db) : SB X G pn Wx (.Compare a [op] [b] pos) (tVal (dOp f da db)) :=
  PT.imp (pt_cmpR ho.run ha hb hm) fun _ _ _ q => rd_op ho.nox (rd_val q)
theorem st_cmp {op : CmpOp} (ho : OpS X G (compareOp op) f) (ha : SE X G pn Wx a da) (hb : SE X G pn Wx b db) (hm : behindInMarks op b = false := by exact nomark _) : SB X G pn Wx (.Compare a [op] [b] pos) (tVal (dOp f da db)) := st_cmpM ho hm ha hb
theorem st_cmpI {op : CmpOp} (ho : OpS X G (compareOp op) f) (ha : SE X G pn Wx a da) (hb : SE X G pn Wx b db) (hm : behindInMarks op b = false := by rfl) : SB X G pn Wx (.Compare a [op] [b] pos) (tVal (dOp f da db)) := st_cmpM ho hm ha hb
theorem st_val (ha : SE X G pn Wx a da) (he : ∀ whole, isTrue a X.env whole = (do let v ← whole; standAt a.pos; holding [v] (truthy v)) := by intro _; rfl) : SB X G pn Wx a (tVal da) :=
  PT.imp (pt_val ha he) fun _ _ _ q => rd_val q
end
end PW

set_option Elab.async false
set_option linter.all false
set_option maxRecDepth 100000
set_option maxHeartbeats 1000000
/-! PW2: heaps; displays, tests, calls. -/
namespace PW
open PySem PySem.Spec PyProof.Rows L2

theorem nd_ix {l : List Addr} (nd : l.Nodup) {i j : Nat} {a : Addr} (h1 : l[i]? = some a) (h2 : l[j]? = some a) : i = j := by
  obtain ⟨p, e1⟩ := List.getElem?_eq_some_iff.mp h1
  obtain ⟨q, e2⟩ := List.getElem?_eq_some_iff.mp h2
  exact (List.getElem_inj nd).mp (e1.trans e2.symm)
theorem lim_line {n : Nat} (h : n ≤ LIM) : n ≤ sizeLine := Nat.le_trans h (by rw [sizeLine_eq]; decide)
theorem lim_lt {n : Nat} (h : n < LIM) : n < sizeLine := Nat.lt_of_lt_of_le h (by rw [sizeLine_eq]; decide)
theorem shortD {α : Type} (l : List α) : short l = decide (l.length ≤ LIM) := by unfold short; rw [bleD, lenD]
section
variable {g : Gc} {ρ : List Addr} {h : Hq} {H H' : Hp} {p a : Addr}
theorem Ext.new {o : HO} (hp : H p = none) : Ext ρ H ρ (upd H p o) :=
  ⟨⟨[], by simp⟩, fun _ h => .inl h, fun a u e _ => by rw [upd_ne (ne_of_none e hp)]; exact e, fun a u _ e => by rw [upd_ne (ne_of_none e hp)]; exact e⟩
theorem RO.ext {ρ' : List Addr} {o : Ob} (x : Ext ρ H ρ' H') (e : ∀ u, H a = some u → H' a = some u) (r : RO g ρ H o a) : RO g ρ' H' o a := by
  cases o with
  | lst l => obtain ⟨vs, h1, h2⟩ := r; exact ⟨vs, e _ h1, h2.ext x⟩
  | rol l =>
    obtain ⟨vs, h1, h2⟩ := r
    refine ⟨vs, ?_, h2.ext x⟩
    rcases h1 with (h1 | ⟨o, h1⟩) | h1
    · exact .inl (.inl (e _ h1))
    · exact .inl (.inr ⟨o, e _ h1⟩)
    · exact .inr h1
  | dk l => obtain ⟨vs, h1, h2⟩ := r; exact ⟨vs, e _ h1, h2.ext x⟩
  | dt l => obtain ⟨vs, h1, h2⟩ := r; exact ⟨vs, e _ h1, h2.ext x⟩
  | st l => obtain ⟨S, h1, h2⟩ := r; exact ⟨S, e _ h1, h2⟩
  | rng lo hi => exact e _ r
theorem RH.mem (r : RH g ρ h H) {n : Nat} {o : Ob} (e : h.get n = some o) : ∃ a, ρ[n]? = some a ∧ RO g ρ H o a := by
  have hl : n < ρ.length := by rw [r.len]; exact Hq.get_lt e
  exact ⟨ρ[n], List.getElem?_eq_getElem hl, r.ob n o _ e (List.getElem?_eq_getElem hl)⟩
/-- nothing of the model's own changes -/
theorem RH.keep (r : RH g ρ h H) (x : Ext ρ H ρ H') (e : ∀ a ∈ ρ, ∀ u, H a = some u → H' a = some u) : RH g ρ h H' :=
  ⟨r.len, r.le, r.nd, fun n o a h1 h2 => (r.ob n o a h1 h2).ext x (e a (List.mem_of_getElem? h2)), fun a ha => let ⟨o, h1, h2⟩ := r.nt a ha; ⟨o, e a ha o h1, h2⟩⟩
theorem RH.new {o : HO} (r : RH g ρ h H) (hp : H p = none) : RH g ρ h (upd H p o) :=
  r.keep (.new hp) fun a _ u e => by rw [upd_ne (ne_of_none e hp)]; exact e
theorem Ext.push {o : HO} (hp : H p = none) : Ext ρ H (ρ ++ [p]) (upd H p o) :=
  ⟨⟨[p], rfl⟩, fun a ha => by
    rcases List.mem_append.mp ha with h | h
    · exact .inl h
    · right; rw [List.mem_singleton.mp h]; exact hp, fun a u e _ => by rw [upd_ne (ne_of_none e hp)]; exact e, fun a u _ e => by rw [upd_ne (ne_of_none e hp)]; exact e⟩
theorem RH.push {o : HO} {ob : Ob} (r : RH g ρ h H) (hp : H p = none) (hl : h.n < LINE) (nt : NT o) (ro : RO g (ρ ++ [p]) (upd H p o) ob p) : RH g (ρ ++ [p]) (h.push ob) (upd H p o) := by
  have np : p ∉ ρ := fun z => by obtain ⟨u, e, _⟩ := r.nt p z; rw [hp] at e; cases e
  refine ⟨by simp [r.len, Hq.push], by show h.n + 1 ≤ LINE; omega, ?_, fun n u a h1 h2 => ?_, fun a ha => ?_⟩
  · rw [List.nodup_append]
    exact ⟨r.nd, by simp, fun x hx y hy z => np (by rw [List.mem_singleton.mp hy] at z; exact z ▸ hx)⟩
  · rw [Hq.get_push hl] at h1
    by_cases e : n = h.n
    · rw [if_pos e] at h1
      cases h1
      subst e
      rw [← r.len, List.getElem?_append_right (Nat.le_refl _)] at h2
      simp at h2
      rw [← h2]; exact ro
    · rw [if_neg e] at h1
      have hn : n < ρ.length := by rw [r.len]; exact Hq.get_lt h1
      rw [List.getElem?_append_left hn] at h2
      exact (r.ob n u a h1 h2).ext (.push hp) fun w q => by rw [upd_ne (ne_of_none q hp)]; exact q
  · rcases List.mem_append.mp ha with z | z
    · obtain ⟨u, e, t⟩ := r.nt a z
      exact ⟨u, by rw [upd_ne (ne_of_none e hp)]; exact e, t⟩
    · rw [List.mem_singleton.mp z]
      exact ⟨o, upd_same, nt⟩
theorem Ext.put {o u : HO} (ha : a ∈ ρ) (e : H a = some u) (nt : NT u) : Ext ρ H ρ (upd H a o) :=
  ⟨⟨[], by simp⟩, fun _ h => .inl h, fun b w q hb => by
    have nb : b ≠ a := fun z => hb (by rw [z]; exact ha)
    rw [upd_ne nb]; exact q, fun b xs t q => by
    rw [upd_ne (fun z => by rw [z, e] at q; cases q; exact nt () t)]; exact q⟩
theorem RH.put {o u : HO} {ob : Ob} {n : Nat} (r : RH g ρ h H) (ha : ρ[n]? = some a) (e : H a = some u) (nu : NT u) (nt : NT o) (ro : RO g ρ (upd H a o) ob a) : RH g ρ (h.put n ob) (upd H a o) := by
  have hn : n < h.n := by rw [← r.len]; exact (List.getElem?_eq_some_iff.mp ha).1
  refine ⟨r.len, r.le, r.nd, fun m w b h1 h2 => ?_, fun b hb => ?_⟩
  · rw [Hq.get_put hn r.le] at h1
    by_cases q : m = n
    · rw [if_pos q] at h1
      cases h1
      subst q
      rw [ha] at h2
      cases h2
      exact ro
    · rw [if_neg q] at h1
      have hb : b ≠ a := fun z => q (nd_ix r.nd (by rw [← z]; exact h2) ha)
      exact (r.ob m w b h1 h2).ext (.put (List.mem_of_getElem? ha) e nu) fun w q => by rw [upd_ne hb]; exact q
  · by_cases z : b = a
    · rw [z]; exact ⟨o, upd_same, nt⟩
    · obtain ⟨w, e, t⟩ := r.nt b hb
      exact ⟨w, by rw [upd_ne z]; exact e, t⟩
end
section
variable {g : Gc} {ρ : List Addr} {h : Hq} {H : Hp} {Wx : WX} {σ : L2.St} {Q : VK} {p : Addr}
/-- a new tuple -/
theorem aft_tup {l : List W} {vs : List V} (a : Aft g (RW g) ρ H Wx σ (.ok (.tup l) h) Q) (rh : RH g ρ h H) (r : RWs g ρ H l vs) (hp : H p = none) : Q (.ref p) (upd H p (.tup vs)) :=
  a.go (.new hp) (rh.new hp) (.tup upd_same (r.ext (.new hp)))
/-- a new object of the model -/
theorem aft_mk {ob : Ob} {o : HO} (a : Aft g (RW g) ρ H Wx σ (mk ob h) Q) (rh : RH g ρ h H) (hp : H p = none) (nt : NT o) (ro : RO g (ρ ++ [p]) (upd H p o) ob p) : Q (.ref p) (upd H p o) := by
  unfold mk at a
  rw [bltD] at a
  by_cases q : h.n < LINE
  · rw [decide_eq_true q] at a
    refine a.go (.push hp) (rh.push hp q nt ro) (.ref ?_)
    rw [← rh.len, List.getElem?_append_right (Nat.le_refl _)]
    simp
  · rw [decide_eq_false q] at a
    exact a.elim
theorem aft_lst {l : List W} {vs : List V} (a : Aft g (RW g) ρ H Wx σ (mk (.lst l) h) Q) (rh : RH g ρ h H) (r : RWs g ρ H l vs) (hp : H p = none) : Q (.ref p) (upd H p (.lst vs)) :=
  aft_mk a rh hp (fun _ => nofun) ⟨vs, upd_same, r.ext (.push hp)⟩
end
/-! ### displays -/
section
variable {X : Cx} {G : G0} {pn : List PinT} {Wx : WX} {pos : Pos} {a b c : Expr} {es : List Expr} {da db dc : D} {dl : DL} {ta tb tc : DB} {f f' : Op2}
theorem sl_nil : SL X G pn Wx [] lNil := PA.imp pa_nil fun σ H Q q => by
  obtain ⟨ρ, e, h, re, rh, a⟩ := q
  exact a.go .refl rh .nil
theorem sl_cons (ha : SE X G pn Wx a da) (hl : SL X G pn Wx es dl) (hs : starEach (a :: es) X.env = (false, eval a X.env) :: starEach es X.env := by rfl) : SL X G pn Wx (a :: es) (lCons da dl) := PA.imp (pa_cons ha hl hs) fun σ H Q q => by
  refine (rd.bind q).imp ?_
  rintro x H1 ⟨ρ, e, wx, h, re, rh, rx, af⟩
  refine ⟨ρ, e, h, re, rh, (Aft.bind af).imp ?_⟩
  rintro ys H2 ⟨ρ2, wy, h2, x2, rh2, ry, af2⟩
  exact af2.go .refl rh2 (.cons (rx.ext x2) ry)
theorem se_tup {x1} (hl : SL X G pn Wx es dl) : SE X G pn Wx (.Tuple es x1 pos) (dTup dl) := PE.imp (pe_tup hl) fun σ H Q q => by
  refine (rd.bind q).imp ?_
  rintro vs H1 ⟨ρ, e, l, h, re, rh, rx, af⟩
  rw [shortD] at af
  by_cases q : l.length ≤ LIM
  · rw [decide_eq_true q] at af
    exact ⟨lim_line (by rw [← rx.length]; exact q), fun p hp => aft_tup af rh rx hp⟩
  · rw [decide_eq_false q] at af
    exact af.elim
theorem se_lst (hl : SL X G pn Wx es dl) : SE X G pn Wx (.List es pos) (dLst dl) := PE.imp (pe_lst hl) fun σ H Q q => by
  refine (rd.bind q).imp ?_
  rintro vs H1 ⟨ρ, e, l, h, re, rh, rx, af⟩
  rw [shortD] at af
  by_cases q : l.length ≤ LIM
  · rw [decide_eq_true q] at af
    exact ⟨lim_line (by rw [← rx.length]; exact q), fun p hp => aft_lst af rh rx hp⟩
  · rw [decide_eq_false q] at af
    exact af.elim
theorem se_dk : SE X G pn Wx (.Dict [] [] pos) dDk := PE.imp pe_dnewK fun σ H Q q p hp => by
  obtain ⟨ρ, e, h, re, rh, a⟩ := q
  exact aft_mk a rh hp (fun _ => nofun) ⟨[], upd_same, .nil⟩
theorem se_dt : SE X G pn Wx (.Dict [] [] pos) dDt := PE.imp pe_dnewT fun σ H Q q p hp => by
  obtain ⟨ρ, e, h, re, rh, a⟩ := q
  exact aft_mk a rh hp (fun _ => nofun) ⟨[], upd_same, .nil⟩
theorem se_neg (ha : SE X G pn Wx a da) : SE X G pn Wx (.UnaryOp .USub a pos) (dNeg da) := PE.imp (pe_un un_neg ha) fun σ H Q q => by
  refine (rd.bind q).imp ?_
  rintro x H1 ⟨ρ, e, wx, h, re, rh, rx, af⟩
  cases rx with
  | int i => exact ⟨i, rfl, af.go .refl rh (.int _)⟩
  | _ => exact af.elim
/-! ### and, or, not, if -/
theorem se_one {op} (ha : SE X G pn Wx a da) : SE X G pn Wx (.BoolOp op [a] pos) da := pe_one ha
theorem se_And {rest : List Expr} (ha : SE X G pn Wx a da) (hb : SE X G pn Wx (.BoolOp .And (b :: rest) pos) db) : SE X G pn Wx (.BoolOp .And (a :: b :: rest) pos) (dAnd da db) := PE.imp (pe_and ha hb) fun σ H Q q => by
  refine (rd.bind q).imp ?_
  rintro x H1 ⟨ρ, e, wx, h, re, rh, rx, af⟩
  cases rx with
  | bl k =>
    cases k with
    | true => exact ⟨true, rfl, by rw [if_pos rfl]; exact ⟨ρ, e, h, re, rh, af⟩⟩
    | false => exact ⟨false, rfl, by rw [if_neg Bool.false_ne_true]; exact af.go .refl rh (.bl _)⟩
  | _ => exact af.elim
theorem se_Or {rest : List Expr} (ha : SE X G pn Wx a da) (hb : SE X G pn Wx (.BoolOp .Or (b :: rest) pos) db) : SE X G pn Wx (.BoolOp .Or (a :: b :: rest) pos) (dOr da db) := PE.imp (pe_or ha hb) fun σ H Q q => by
  refine (rd.bind q).imp ?_
  rintro x H1 ⟨ρ, e, wx, h, re, rh, rx, af⟩
  cases rx with
  | bl k =>
    cases k with
    | true => exact ⟨true, rfl, by rw [if_pos rfl]; exact af.go .refl rh (.bl _)⟩
    | false => exact ⟨false, rfl, by rw [if_neg Bool.false_ne_true]; exact ⟨ρ, e, h, re, rh, af⟩⟩
  | _ => exact af.elim
/-- truth -/
theorem tru_of {g : Gc} {ρ : List Addr} {h : Hq} {H : Hp} {w : W} {v : V} {k : Bool} (rh : RH g ρ h H) (r : RW g ρ H w v) (e : tru h w = some k) : TruV g.K v H k := by
  cases r with
  | non => simp only [tru, Option.some.injEq] at e; exact e.symm
  | bl b => simp only [tru, Option.some.injEq] at e; exact e.symm
  | int i =>
    simp only [tru, Option.some.injEq] at e
    rw [iEqD] at e
    show k = (i != 0)
    rw [← e]
    by_cases z : i = 0 <;> simp [z]
  | str x =>
    simp only [tru, shortD] at e
    by_cases q : x.cps.toList.length ≤ LIM
    · rw [decide_eq_true q] at e
      simp only [Option.some.injEq] at e
      obtain ⟨⟨l⟩⟩ := x
      refine ⟨lim_line q, ?_⟩
      rw [← e]
      cases l with
      | nil => rfl
      | cons c r =>
        show true = (((c :: r).length : Int) != 0)
        have : ((c :: r).length : Int) ≠ 0 := by rw [List.length_cons]; omega
        exact (bne_iff_ne.mpr this).symm
    · rw [decide_eq_false q] at e; cases e
  | tup ht rs =>
    simp only [tru, Option.some.injEq] at e
    refine .inr (.inl ⟨_, ht.sq, ?_⟩)
    rw [← e]
    cases rs <;> rfl
  | ref hn =>
    rename_i n a
    simp only [tru] at e
    cases q : h.get n with
    | none => rw [q] at e; cases e
    | some o =>
      rw [q] at e
      have ro := rh.ob n o a q hn
      cases o with
      | lst l =>
        simp only [Option.some.injEq] at e
        obtain ⟨vs, h1, h2⟩ := ro
        refine .inl ⟨vs, .of h1, ?_⟩
        rw [← e]
        cases h2 <;> rfl
      | rol l =>
        simp only [Option.some.injEq] at e
        obtain ⟨vs, h1, h2⟩ := ro
        refine .inl ⟨vs, h1, ?_⟩
        rw [← e]
        cases h2 <;> rfl
      | dk l =>
        simp only [Option.some.injEq] at e
        obtain ⟨vs, h1, h2⟩ := ro
        refine .inr (.inr ⟨vs, h1, ?_⟩)
        rw [← e]
        cases h2 <;> rfl
      | dt l => cases e
      | st l => cases e
      | rng lo hi => cases e
  | ktup ht rs =>
    simp only [tru, Option.some.injEq] at e
    refine .inr (.inl ⟨_, ht.sq, ?_⟩)
    rw [← e]
    cases rs <;> rfl
  | ty n => simp only [tru] at e; cases e
  | fn i => simp only [tru] at e; cases e
theorem se_OrT {rest : List Expr} (ha : SE X G pn Wx a da) (hb : SE X G pn Wx (.BoolOp .Or (b :: rest) pos) db) : SE X G pn Wx (.BoolOp .Or (a :: b :: rest) pos) (dOrT da db) := PE.imp (pe_orT ha hb) fun σ H Q q => by
  refine (rd.bind q).imp ?_
  rintro x H1 ⟨ρ, e, wx, h, re, rh, rx, af⟩
  cases q : tru h wx with
  | none => rw [q] at af; exact af.elim
  | some k =>
    rw [q] at af
    refine ⟨k, tru_of rh rx q, ?_⟩
    cases k with
    | true => rw [if_pos rfl]; exact af.go .refl rh rx
    | false => rw [if_neg Bool.false_ne_true]; exact ⟨ρ, e, h, re, rh, af⟩
theorem se_not (ha : SE X G pn Wx a da) : SE X G pn Wx (.UnaryOp .Not a pos) (dNot da) := PE.imp (L2.pe_not ha) fun σ H Q q => by
  refine (rd.bind q).imp ?_
  rintro x H1 ⟨ρ, e, wx, h, re, rh, rx, af⟩
  cases rx with
  | bl k => exact ⟨k, rfl, af.go .refl rh (.bl _)⟩
  | _ => exact af.elim
theorem se_if (hc : SB X G pn Wx c tc) (ha : SE X G pn Wx a da) (hb : SE X G pn Wx b db) : SE X G pn Wx (.IfExp c a b pos) (dIf tc da db) := PE.imp (pe_ifExp hc ha hb) fun σ H Q q => by
  refine (rd.bind q).imp ?_
  rintro x H1 ⟨ρ, e, wx, h, re, rh, rx, af⟩
  cases rx
  cases x with
  | true => rw [if_pos rfl]; exact ⟨ρ, e, h, re, rh, af⟩
  | false => rw [if_neg Bool.false_ne_true]; exact ⟨ρ, e, h, re, rh, af⟩
theorem st_tru (ha : SE X G pn Wx a da) (he : ∀ whole, isTrue a X.env whole = (do let v ← whole; standAt a.pos; holding [v] (truthy v)) := by intro _; rfl) : SB X G pn Wx a (tTru da) := PT.imp (pt_truth ha he) fun σ H Q q => by
  refine (rd.bind q).imp ?_
  rintro x H1 ⟨ρ, e, wx, h, re, rh, rx, af⟩
  cases q : tru h wx with
  | none => rw [q] at af; exact af.elim
  | some k =>
    rw [q] at af
    exact ⟨k, tru_of rh rx q, af.go .refl rh rfl⟩
theorem st_w (h : SBw X G pn Wx a ta) : SB X G pn Wx a ta := L2.PW.pt h
theorem sw_And1 (h : SB X G pn Wx a ta) : SBw X G pn Wx (.BoolOp .And [a] pos) ta := pw_and1 h
theorem sw_Or1 (h : SB X G pn Wx a ta) : SBw X G pn Wx (.BoolOp .Or [a] pos) ta := pw_or1 h
theorem sw_And {rest : List Expr} (ha : SB X G pn Wx a ta) (hb : SBw X G pn Wx (.BoolOp .And (b :: rest) pos) tb) : SBw X G pn Wx (.BoolOp .And (a :: b :: rest) pos) (PW.tAnd ta tb) := PWt.imp (pw_and ha hb) fun σ H Q q => by
  refine (rd.bind q).imp ?_
  rintro x H1 ⟨ρ, e, wx, h, re, rh, rx, af⟩
  cases rx
  cases x with
  | true => rw [if_pos rfl]; exact ⟨ρ, e, h, re, rh, af⟩
  | false => rw [if_neg Bool.false_ne_true]; exact af.go .refl rh rfl
theorem sw_Or {rest : List Expr} (ha : SB X G pn Wx a ta) (hb : SBw X G pn Wx (.BoolOp .Or (b :: rest) pos) tb) : SBw X G pn Wx (.BoolOp .Or (a :: b :: rest) pos) (PW.tOr ta tb) := PWt.imp (pw_or ha hb) fun σ H Q q => by
  refine (rd.bind q).imp ?_
  rintro x H1 ⟨ρ, e, wx, h, re, rh, rx, af⟩
  cases rx
  cases x with
  | true => rw [if_pos rfl]; exact af.go .refl rh rfl
  | false => rw [if_neg Bool.false_ne_true]; exact ⟨ρ, e, h, re, rh, af⟩
theorem st_not (ha : SB X G pn Wx a ta) : SB X G pn Wx (.UnaryOp .Not a pos) (PW.tNot ta) := PT.imp (pt_not ha) fun σ H Q q => by
  refine (rd.bind q).imp ?_
  rintro x H1 ⟨ρ, e, wx, h, re, rh, rx, af⟩
  cases rx
  exact af.go .refl rh rfl
/-! ### chains -/
theorem chain_rd {σ : L2.St} {H : Hp} {Q : VK} (n1 : ∀ x y h z h', f x y h ≠ .ex z h') (n2 : ∀ x y h z h', f' x y h ≠ .ex z h') (q : rd (gx X G) pn (RW (gx X G)) Wx (dChain f f' da db dc) σ H Q) :
    rd (gx X G) pn (RW (gx X G)) Wx da σ H fun x H1 => rd (gx X G) pn (RW (gx X G)) Wx db σ H1 fun y H2 => rOp (gx X G) f x y H2 fun z H3 => ∃ k, z = .bl k ∧ (if k = true then rd (gx X G) pn (RW (gx X G)) Wx dc σ H3 fun w' H4 => rOp (gx X G) f' y w' H4 Q else Q (.bl false) H3) := by
  refine (rd.bind q).imp ?_
  rintro x H1 ⟨ρ, e, wx, h, re, rh, rx, af⟩
  refine ⟨ρ, e, h, re, rh, (Aft.bind af).imp ?_⟩
  rintro y H2 ⟨ρ2, wy, h2, x2, rh2, ry, af2⟩
  refine ⟨ρ2, wx, wy, h2, rh2, rx.ext x2, ry, ?_⟩
  have b2 := Aft.bind (rel := RW (gx X G)) af2
  cases qf : f wx wy h2 with
  | ex z h' => exact (n1 _ _ _ _ _ qf).elim
  | bad => rw [qf] at b2; exact b2
  | ok r h3 =>
    rw [qf] at b2
    intro ρ3 H3 v x3 rh3 rv
    obtain ⟨ρ4, r', h4, x4, rh4, rv4, af4⟩ := b2 ρ3 H3 v x3 rh3 rv
    cases rv4 with
    | bl k =>
      cases k with
      | true =>
        refine ⟨true, rfl, ?_⟩
        rw [if_pos rfl]
        refine ⟨ρ4, e, h4, (re.ext x2).ext x4, rh4, (Aft.bind af4).imp ?_⟩
        rintro z H5 ⟨ρ5, wz, h5, x5, rh5, rz, af5⟩
        exact rop_of n2 rh5 ((ry.ext x4).ext x5) rz af5
      | false =>
        refine ⟨false, rfl, ?_⟩
        rw [if_neg Bool.false_ne_true]
        exact af4.go .refl rh4 (.bl _)
    | _ => exact af4.elim
theorem se_chain {op op' : CmpOp} (ho : OpS X G (compareOp op) f) (ho' : OpS X G (compareOp op') f') (ha : SE X G pn Wx a da) (hb : SE X G pn Wx b db) (hc : SE X G pn Wx c dc)
    (hm : lastMarks [op, op'] [b, c] = false := by with_unfolding_all rfl) : SE X G pn Wx (.Compare a [op, op'] [b, c] pos) (dChain f f' da db dc) :=
  PE.imp (pe_chain ho.run ho'.run ha hb hc hm) fun σ H Q q => chain_rd ho.nox ho'.nox q
theorem st_chain {op op' : CmpOp} (ho : OpS X G (compareOp op) f) (ho' : OpS X G (compareOp op') f') (ha : SE X G pn Wx a da) (hb : SE X G pn Wx b db) (hc : SE X G pn Wx c dc)
    (hm : lastMarks [op, op'] [b, c] = false := by with_unfolding_all rfl) : SB X G pn Wx (.Compare a [op, op'] [b, c] pos) (tVal (dChain f f' da db dc)) :=
  PT.imp (pt_chain ho.run ho'.run ha hb hc hm) fun σ H Q q => chain_rd ho.nox ho'.nox (rd_val q)
end
end PW

set_option Elab.async false
set_option linter.all false
set_option maxRecDepth 100000
set_option maxHeartbeats 1000000
/-! PW3: the operators. -/
namespace PW
open PySem PySem.Spec PyProof.Rows L2

/-! ### data -/
theorem sOk_all : ∀ l : List Nat, sOk l = true → (l.all fun x => decide (x < 1114112)) = true
  | [], _ => rfl
  | c :: r, h => by
    unfold sOk at h
    rw [bltD] at h
    by_cases q : c < 0x110000
    · rw [decide_eq_true q] at h
      have ih := sOk_all r h
      rw [List.all_cons, ih]
      simp [q]
    · rw [decide_eq_false q] at h; cases h
theorem sOk_ok (x : Str) (h : sOk x.cps.toList = true) : PyData.strOk x = true := by
  obtain ⟨⟨l⟩⟩ := x
  show (Array.mk l).all (· < 0x110000) = true
  rw [← Array.all_toList]
  exact sOk_all l h
section
variable {g : Gc} {ρ : List Addr} {h : Hq} {H : Hp}
theorem mapO_dp {k : Nat} (ih : ∀ (w : W) (v : V) (d : PyData), data k h w = some d → RW g ρ H w v → Dp g.K H v d ∧ d.canLay0 = true ∧ d.depth ≤ k) :
    ∀ (l : List W) (vs : List V) (ds : List PyData), mapO (data k h) l = some ds → RWs g ρ H l vs → DpAll g.K H vs ds ∧ PyData.canLayAll0 ds = true ∧ PyData.depthAll ds ≤ k
  | [], _, ds, e, r => by
    cases r
    simp only [mapO, Option.some.injEq] at e
    subst e
    exact ⟨.nil, by simp [PyData.canLayAll0], by simp [PyData.depthAll]⟩
  | w :: l, _, ds, e, r => by
    cases r with
    | cons h1 h2 =>
      unfold mapO at e
      cases q : data k h w with
      | none => rw [q] at e; cases e
      | some d =>
        rw [q] at e
        cases q2 : mapO (data k h) l with
        | none => rw [q2] at e; cases e
        | some ds2 =>
          rw [q2] at e
          simp only [Option.some.injEq] at e
          subst e
          obtain ⟨a1, a2, a3⟩ := ih w _ d q h1
          obtain ⟨b1, b2, b3⟩ := mapO_dp ih l _ ds2 q2 h2
          exact ⟨.cons a1 b1, by simp [PyData.canLayAll0, a2, b2], by simp only [PyData.depthAll]; omega⟩
theorem data_dp (rh : RH g ρ h H) : ∀ (k : Nat) (w : W) (v : V) (d : PyData), data k h w = some d → RW g ρ H w v → Dp g.K H v d ∧ d.canLay0 = true ∧ d.depth ≤ k
  | 0, _, _, _, e, _ => by cases e
  | k + 1, w, v, d, e, r => by
    unfold data at e
    cases r with
    | non => simp only [Option.some.injEq] at e; subst e; exact ⟨.non, by simp [PyData.canLay0], by simp [PyData.depth]⟩
    | bl b => simp only [Option.some.injEq] at e; subst e; exact ⟨.bl b, by simp [PyData.canLay0], by simp [PyData.depth]⟩
    | int i => simp only [Option.some.injEq] at e; subst e; exact ⟨.int i, by simp [PyData.canLay0], by simp [PyData.depth]⟩
    | str x =>
      simp only at e
      cases q : sOk x.cps.toList with
      | false => rw [q] at e; cases e
      | true =>
        rw [q] at e
        simp only [Option.some.injEq] at e
        subst e
        exact ⟨.str x, by simp only [PyData.canLay0]; exact sOk_ok x q, by simp [PyData.depth]⟩
    | tup ht rs =>
      rename_i l a vs
      simp only at e
      cases q : mapO (data k h) l with
      | none => rw [q] at e; cases e
      | some ds =>
        rw [q] at e
        simp only [Option.some.injEq] at e
        subst e
        obtain ⟨b1, b2, b3⟩ := mapO_dp (data_dp rh k) l _ ds q rs
        exact ⟨.tup ht.sq b1, by simp only [PyData.canLay0]; exact b2, by simp only [PyData.depth]; omega⟩
    | ref hn =>
      rename_i n a
      simp only at e
      unfold Hq.seq at e
      cases q0 : h.get n with
      | none => rw [q0] at e; cases e
      | some o =>
        rw [q0] at e
        have ro := rh.ob n o a q0 hn
        cases o with
        | lst l =>
          simp only at e
          obtain ⟨vs, h1, h2⟩ := ro
          cases q : mapO (data k h) l with
          | none => rw [q] at e; cases e
          | some ds =>
            rw [q] at e
            simp only [Option.some.injEq] at e
            subst e
            obtain ⟨b1, b2, b3⟩ := mapO_dp (data_dp rh k) l _ ds q h2
            exact ⟨.lst (.of h1) b1, by simp only [PyData.canLay0]; exact b2, by simp only [PyData.depth]; omega⟩
        | rol l =>
          simp only at e
          obtain ⟨vs, h1, h2⟩ := ro
          cases q : mapO (data k h) l with
          | none => rw [q] at e; cases e
          | some ds =>
            rw [q] at e
            simp only [Option.some.injEq] at e
            subst e
            obtain ⟨b1, b2, b3⟩ := mapO_dp (data_dp rh k) l _ ds q h2
            exact ⟨.lst h1 b1, by simp only [PyData.canLay0]; exact b2, by simp only [PyData.depth]; omega⟩
        | dk l => cases e
        | dt l => cases e
        | st l => cases e
        | rng lo hi => cases e
    | ty n => cases e
    | fn i => cases e
    | ktup ht rs =>
      rename_i l a vs
      simp only at e
      cases q : mapO (data k h) l with
      | none => rw [q] at e; cases e
      | some ds =>
        rw [q] at e
        simp only [Option.some.injEq] at e
        subst e
        obtain ⟨b1, b2, b3⟩ := mapO_dp (data_dp rh k) l _ ds q rs
        exact ⟨.tup ht.sq b1, by simp only [PyData.canLay0]; exact b2, by simp only [PyData.depth]; omega⟩
theorem data_sh (rh : RH g ρ h H) {w : W} {v : V} {d : PyData} (e : data 60 h w = some d) (r : RW g ρ H w v) : Dp g.K H v d ∧ SeqAt.shaped d = true := by
  obtain ⟨a, b, c⟩ := data_dp rh 60 w v d e r
  refine ⟨a, ?_⟩
  unfold SeqAt.shaped
  rw [Bool.and_eq_true]
  exact ⟨b, decide_eq_true (by omega)⟩
end
theorem bEqD (a b : Bool) : bEq a b = (a == b) := by cases a <;> cases b <;> rfl
theorem iEqB (a b : Int) : iEq a b = (a == b) := by rw [iEqD]; by_cases h : a = b <;> simp [h]
theorem sEqB (a b : Str) : sEq a b = (a == b) := by rw [sEqD]; by_cases h : a = b <;> simp [h]
theorem b2iD (b : Bool) : b2i b = if b then 1 else 0 := by cases b <;> rfl
theorem eqL_eqv {k : Nat} (ih : ∀ d e b, eqP k d e = some b → PyData.eqv d e = b) : ∀ (l r : List PyData) (b : Bool), eqL (eqP k) l r = some b → PyData.eqvAll l r = b
  | [], [], b, h => by simp only [eqL, Option.some.injEq] at h; subst h; simp [PyData.eqvAll]
  | [], _ :: _, b, h => by simp only [eqL, Option.some.injEq] at h; subst h; simp [PyData.eqvAll]
  | _ :: _, [], b, h => by simp only [eqL, Option.some.injEq] at h; subst h; simp [PyData.eqvAll]
  | x :: l, y :: r, b, h => by
    unfold eqL at h
    cases q : eqP k x y with
    | none => rw [q] at h; cases h
    | some c =>
      rw [q] at h
      have e := ih x y c q
      cases c with
      | true =>
        have e2 := eqL_eqv ih l r b h
        simp [PyData.eqvAll, e, e2]
      | false =>
        simp only [Option.some.injEq] at h
        subst h
        simp [PyData.eqvAll, e]
theorem eqP_eqv : ∀ (k : Nat) (d e : PyData) (b : Bool), eqP k d e = some b → PyData.eqv d e = b
  | 0, _, _, _, h => by cases h
  | k + 1, d, e, b, h => by
    unfold eqP at h
    cases d <;> cases e <;> simp only [Option.some.injEq] at h <;> first
      | cases h; done
      | (subst h; simp only [PyData.eqv, bEqD, iEqB, sEqB, b2iD])
      | (simp only [PyData.eqv]; exact eqL_eqv (eqP_eqv k) _ _ _ h)
section
variable {g : Gc} {ρ : List Addr} {h : Hq} {H : Hp}
theorem eqG_dp (rh : RH g ρ h H) {wx wy : W} {x y : V} {b : Bool} (rx : RW g ρ H wx x) (ry : RW g ρ H wy y) (e : eqG h wx wy = some b) :
    ∃ d e, Dp g.K H x d ∧ Dp g.K H y e ∧ SeqAt.shaped d = true ∧ SeqAt.shaped e = true ∧ PyData.eqv d e = b := by
  unfold eqG at e
  cases q : data 60 h wx with
  | none => rw [q] at e; cases e
  | some d =>
    rw [q] at e
    cases q2 : data 60 h wy with
    | none => rw [q2] at e; cases e
    | some d2 =>
      rw [q2] at e
      obtain ⟨a1, a2⟩ := data_sh rh q rx
      obtain ⟨b1, b2⟩ := data_sh rh q2 ry
      exact ⟨d, d2, a1, b1, a2, b2, eqP_eqv _ _ _ _ e⟩
theorem eqW_dp (rh : RH g ρ h H) {wx wy : W} {x y : V} {b : Bool} (rx : RW g ρ H wx x) (ry : RW g ρ H wy y) (e : eqW h wx wy = some b) :
    ∃ d e, Dp g.K H x d ∧ Dp g.K H y e ∧ SeqAt.shaped d = true ∧ SeqAt.shaped e = true ∧ PyData.eqv d e = b := by
  cases wx with
  | int i =>
    cases wy with
    | int j =>
      simp only [eqW, Option.some.injEq] at e
      cases rx
      cases ry
      exact ⟨.int i, .int j, .int i, .int j, by simp [SeqAt.shaped, PyData.canLay0, PyData.depth], by simp [SeqAt.shaped, PyData.canLay0, PyData.depth], by rw [← e, iEqB]; simp only [PyData.eqv]⟩
    | _ => exact eqG_dp rh rx ry e
  | _ => exact eqG_dp rh rx ry e
end
theorem bo_ok {o : Option Bool} {h : Hq} : (∃ b, o = some b ∧ bo o h = .ok (.bl b) h) ∨ (o = none ∧ bo o h = .bad) := by
  cases o with
  | none => exact .inr ⟨rfl, rfl⟩
  | some b => exact .inl ⟨b, rfl, rfl⟩
theorem bn_ok {o : Option Bool} {h : Hq} : (∃ b, o = some b ∧ bn o h = .ok (.bl (!b)) h) ∨ (o = none ∧ bn o h = .bad) := by
  cases o with
  | none => exact .inr ⟨rfl, rfl⟩
  | some b => exact .inl ⟨b, rfl, rfl⟩
theorem bo_nox (o : Option Bool) (h : Hq) (z : Xc) (h' : Hq) : bo o h ≠ .ex z h' := by cases o <;> exact nofun
theorem bn_nox (o : Option Bool) (h : Hq) (z : Xc) (h' : Hq) : bn o h ≠ .ex z h' := by cases o <;> exact nofun
theorem mk_nox (o : Ob) (h : Hq) (z : Xc) (h' : Hq) : mk o h ≠ .ex z h' := by
  unfold mk
  split <;> exact nofun
section
variable {X : Cx} {G : G0} {Wx : WX}
abbrev rest (g : Gc) (ρ : List Addr) (H : Hp) (r : R) (Q : VK) : Prop := match r with
  | .ok w h' => ∀ ρ' H' v, Ext ρ H ρ' H' → RH g ρ' h' H' → RW g ρ' H' w v → Q v H'
  | _ => False
theorem osEq (C : Cs X Wx) : OpS X G (compareOp .Eq) oEq := ⟨fun _ _ _ _ _ => bo_nox _ _ _ _, by
  intro pins s σ H x y v u Q I rx ry h
  obtain ⟨ρ, wx, wy, h, rh, a, b, m⟩ := h
  have m : rest (gx X G) ρ H (bo (eqW h wx wy) h) Q := m
  rcases bo_ok (o := eqW h wx wy) (h := h) with ⟨k, e, e2⟩ | ⟨_, e2⟩
  · rw [e2] at m
    obtain ⟨d, d2, p1, p2, p3, p4, p5⟩ := eqW_dp rh a b e
    exact op_eqD (by have := C.un; omega) pins s σ H x y v u Q I rx ry ⟨d, d2, p1, p2, p3, p4, by rw [p5]; exact m _ _ _ .refl rh (.bl _)⟩
  · rw [e2] at m; exact m.elim⟩
theorem osNe (C : Cs X Wx) : OpS X G (compareOp .NotEq) oNe := ⟨fun _ _ _ _ _ => bn_nox _ _ _ _, by
  intro pins s σ H x y v u Q I rx ry h
  obtain ⟨ρ, wx, wy, h, rh, a, b, m⟩ := h
  have m : rest (gx X G) ρ H (bn (eqW h wx wy) h) Q := m
  rcases bn_ok (o := eqW h wx wy) (h := h) with ⟨k, e, e2⟩ | ⟨_, e2⟩
  · rw [e2] at m
    obtain ⟨d, d2, p1, p2, p3, p4, p5⟩ := eqW_dp rh a b e
    exact op_neD (by have := C.un; omega) pins s σ H x y v u Q I rx ry ⟨d, d2, p1, p2, p3, p4, by rw [p5]; exact m _ _ _ .refl rh (.bl _)⟩
  · rw [e2] at m; exact m.elim⟩
theorem isNonD {g : Gc} {ρ : List Addr} {H : Hp} {w : W} {v : V} (r : RW g ρ H w v) : isNon w = decide (v = .non) := by
  cases r <;> simp [isNon]
theorem osIsN : OpS X G (compareOp .Is) oIsN := ⟨fun x y h z h' => by cases y <;> exact nofun, by
  intro pins s σ H x y v u Q I rx ry h
  obtain ⟨ρ, wx, wy, h, rh, a, b, m⟩ := h
  cases b with
  | non => exact op_isN pins s σ H x .non v u Q I rx ry ⟨rfl, m _ _ _ .refl rh (by rw [isNonD a]; exact .bl _)⟩
  | _ => exact m.elim⟩
theorem osNotN : OpS X G (compareOp .IsNot) oNotN := ⟨fun x y h z h' => by cases y <;> exact nofun, by
  intro pins s σ H x y v u Q I rx ry h
  obtain ⟨ρ, wx, wy, h, rh, a, b, m⟩ := h
  cases b with
  | non => exact op_notN pins s σ H x .non v u Q I rx ry ⟨rfl, m _ _ _ .refl rh (by rw [isNonD a]; exact .bl _)⟩
  | _ => exact m.elim⟩
/-- two ints -/
theorem int2 {f : Value → Value → Sem Value} {op : Op2} {cnd : Int → Int → Bool} {gv : Int → Int → W} {gV : Int → Int → V} {C : Int → Int → Prop}
    (hop : ∀ x y h, op x y h = match x, y with | .int i, .int j => (match cnd i j with | true => .ok (gv i j) h | false => .bad) | _, _ => .bad)
    (rel : ∀ g ρ H i j, RW g ρ H (gv i j) (gV i j)) (hc : ∀ i j, cnd i j = true → C i j) (run : OpR X f (rI C gV)) : OpS X G f op := ⟨fun x y h z h' => by
    rw [hop]
    cases x <;> cases y <;> first | (intro e; cases e; done) | (dsimp only; split <;> (intro e; cases e)), by
  intro pins s σ H x y v u Q I rx ry h
  obtain ⟨ρ, wx, wy, h, rh, a, b, m⟩ := h
  rw [hop] at m
  cases a <;> first | exact m.elim | skip
  cases b <;> first | exact m.elim | skip
  rename_i i j
  dsimp only at m
  cases q : cnd i j with
  | false => rw [q] at m; exact m.elim
  | true =>
    rw [q] at m
    exact run pins s σ H _ _ v u Q I rx ry ⟨i, j, rfl, rfl, hc i j q, m _ _ _ .refl rh (rel _ _ _ i j)⟩⟩
theorem osSub : OpS X G (binaryOp .Sub) oSub := int2 (cnd := fun _ _ => true) (gv := fun i j => .int (i - j)) (C := fun _ _ => True) (fun x y h => by cases x <;> cases y <;> rfl) (fun _ _ _ i j => .int _) (fun _ _ _ => trivial) (by
  intro pins s σ H x y v u Q I rx ry ⟨i, j, e1, e2, _, q⟩
  exact op_sub pins s σ H x y v u Q I rx ry ⟨i, j, e1, e2, q⟩)
theorem osMod : OpS X G (binaryOp .Mod) oMod := int2 (cnd := fun _ j => iLt 0 j) (gv := fun i j => .int (i % j)) (fun x y h => by cases x <;> cases y <;> rfl) (fun _ _ _ i j => .int _) (fun _ _ h => of_decide_eq_true (by rw [← iLtD]; exact h)) op_mod
theorem osDiv : OpS X G (binaryOp .FloorDiv) oDiv := int2 (cnd := fun _ j => iLt 0 j && iLt j 1073741824) (gv := fun i j => .int (i / j)) (fun x y h => by cases x <;> cases y <;> rfl) (fun _ _ _ i j => .int _) (fun i j h => by
  rw [iLtD, iLtD, Bool.and_eq_true] at h
  exact ⟨of_decide_eq_true h.1, of_decide_eq_true h.2⟩) op_fdiv
theorem smallD {i : Int} (h : small i = true) : -(2 ^ 64) < i ∧ i < 2 ^ 64 := by
  unfold small at h
  rw [iLtD, iLtD, Bool.and_eq_true] at h
  exact ⟨of_decide_eq_true h.1, of_decide_eq_true h.2⟩
theorem osPow : OpS X G (binaryOp .Pow) oPow := int2 (cnd := fun i j => iLt (-1) j && iLt j 1000001 && small i) (gv := fun i j => .int (i ^ j.toNat)) (fun x y h => by cases x <;> cases y <;> rfl) (fun _ _ _ i j => .int _) (fun i j h => by
  rw [iLtD, iLtD, Bool.and_eq_true, Bool.and_eq_true] at h
  have h1 : -1 < j := of_decide_eq_true h.1.1
  have h2 : j < 1000001 := of_decide_eq_true h.1.2
  have h3 := smallD h.2
  exact ⟨by omega, by omega, by omega⟩) op_pow
theorem osLe : OpS X G (compareOp .LtE) oLe := int2 (cnd := fun _ _ => true) (gv := fun i j => .bl (!iLt j i)) (gV := fun i j => .bl (decide (i ≤ j))) (C := fun _ _ => True) (fun x y h => by cases x <;> cases y <;> rfl) (fun g ρ H i j => by
  rw [iLtD]
  have : (!decide (j < i)) = decide (i ≤ j) := by by_cases q : j < i <;> simp [q] <;> omega
  rw [this]; exact .bl _) (fun _ _ _ => trivial) (by
  intro pins s σ H x y v u Q I rx ry ⟨i, j, e1, e2, _, q⟩
  exact op_le pins s σ H x y v u Q I rx ry ⟨i, j, e1, e2, q⟩)
theorem osGt : OpS X G (compareOp .Gt) oGt := int2 (cnd := fun _ _ => true) (gv := fun i j => .bl (iLt j i)) (gV := fun i j => .bl (decide (j < i))) (C := fun _ _ => True) (fun x y h => by cases x <;> cases y <;> rfl) (fun g ρ H i j => by
  rw [iLtD]; exact .bl _) (fun _ _ _ => trivial) (by
  intro pins s σ H x y v u Q I rx ry ⟨i, j, e1, e2, _, q⟩
  exact op_gt pins s σ H x y v u Q I rx ry ⟨i, j, e1, e2, q⟩)
theorem osGe : OpS X G (compareOp .GtE) oGe := int2 (cnd := fun _ _ => true) (gv := fun i j => .bl (!iLt i j)) (gV := fun i j => .bl (decide (j ≤ i))) (C := fun _ _ => True) (fun x y h => by cases x <;> cases y <;> rfl) (fun g ρ H i j => by
  rw [iLtD]
  have : (!decide (i < j)) = decide (j ≤ i) := by by_cases q : i < j <;> simp [q] <;> omega
  rw [this]; exact .bl _) (fun _ _ _ => trivial) (by
  intro pins s σ H x y v u Q I rx ry ⟨i, j, e1, e2, _, q⟩
  exact op_ge pins s σ H x y v u Q I rx ry ⟨i, j, e1, e2, q⟩)
/-! < -/
theorem intsO_vs {g : Gc} {ρ : List Addr} {H : Hp} : ∀ {l : List W} {vs : List V} {is : List Int}, RWs g ρ H l vs → intsO l = some is → l = is.map W.int ∧ vs = is.map V.int
  | _, _, _, .nil, e => by
    simp only [intsO, mapO, Option.some.injEq] at e
    subst e
    exact ⟨rfl, rfl⟩
  | w :: l, _, is, .cons h r, e => by
    unfold intsO mapO at e
    cases w with
    | int i =>
      simp only [intO] at e
      cases q : mapO intO l with
      | none => rw [q] at e; cases e
      | some js =>
        rw [q] at e
        simp only [Option.some.injEq] at e
        subst e
        obtain ⟨e1, e2⟩ := intsO_vs (is := js) r q
        cases h
        exact ⟨by rw [e1]; rfl, by rw [e2]; rfl⟩
    | _ => cases e
theorem lexLtD : ∀ a b : List Int, lexLt a b = HT.lexLt a b
  | [], [] => rfl
  | [], _ :: _ => rfl
  | _ :: _, [] => rfl
  | x :: xs, y :: ys => by
    rw [HT.lexLt_cons, ← lexLtD xs ys]
    show (match iEq x y with | true => lexLt xs ys | false => iLt x y) = _
    rw [iEqD, iLtD]
    by_cases q : x = y <;> simp [q]
theorem osLt (C : Cs X Wx) : OpS X G (compareOp .Lt) oLt := ⟨fun x y h z h' => by
    cases x <;> cases y <;> first | (intro e; cases e; done) | (unfold oLt; dsimp only; (repeat' split) <;> (intro e; cases e)), by
  intro pins s σ H x y v u Q I rx ry h
  obtain ⟨ρ, wx, wy, h, rh, a, b, m⟩ := h
  unfold oLt at m
  cases a <;> first | exact m.elim | skip
  case int i =>
    cases b <;> first | exact m.elim | skip
    rename_i j
    exact op_lt pins s σ H _ _ v u Q I rx ry ⟨i, j, rfl, rfl, m _ _ _ .refl rh (by rw [iLtD]; exact .bl _)⟩
  case tup l p vs ht rs =>
    cases b <;> first | exact m.elim | skip
    rename_i r q ws hu rs2
    dsimp only at m
    cases q1 : intsO l with
    | none => rw [q1] at m; exact m.elim
    | some ns =>
      rw [q1] at m
      dsimp only at m
      cases q2 : intsO r with
      | none => rw [q2] at m; exact m.elim
      | some ms =>
        rw [q2] at m
        have e1 := (intsO_vs rs q1).2
        have e2 := (intsO_vs rs2 q2).2
        subst e1 e2
        exact op_ltT (by have := C.un; omega) pins s σ H _ _ v u Q I rx ry ⟨p, q, ns, ms, rfl, rfl, ht.sq, hu.sq, by rw [← lexLtD]; exact m _ _ _ .refl rh (.bl _)⟩⟩
end
end PW

set_option Elab.async false
set_option linter.all false
set_option maxRecDepth 100000
set_option maxHeartbeats 1000000
/-! PW4: + and *, in, a[b], slices. -/
namespace PW
open PySem PySem.Spec PyProof.Rows L2
section
variable {X : Cx} {G : G0} {Wx : WX}
theorem OpR.pick {f : Value → Value → Sem Value} {r : R2} (h : ∀ x y : V, ∃ r', OpR X f r' ∧ ∀ H Q, r x y H Q → r' x y H Q) : OpR X f r := by
  intro pins s σ H x y v u Q I rx ry q
  obtain ⟨r', h1, h2⟩ := h x y
  exact h1 pins s σ H x y v u Q I rx ry (h2 H Q q)
theorem lim2 {a b : Nat} (h1 : a ≤ LIM) (h2 : b ≤ LIM) : a + b ≤ sizeLine := by
  rw [sizeLine_eq]
  have : LIM = 100000 := rfl
  omega
theorem osAdd : OpS X G (binaryOp .Add) oAdd := ⟨fun x y h z h' => by
    cases x <;> cases y <;> first | (intro e; cases e; done) | (unfold oAdd; dsimp only; (repeat' split) <;> first | exact mk_nox _ _ _ _ | (intro e; cases e)), by
  intro pins s σ H x y v u Q I rx ry h
  obtain ⟨ρ, wx, wy, h, rh, a, b, m⟩ := h
  unfold oAdd at m
  cases a <;> first | exact m.elim | skip
  case int i =>
    cases b <;> first | exact m.elim | skip
    rename_i j
    exact op_add pins s σ H _ _ v u Q I rx ry ⟨i, j, rfl, rfl, m _ _ _ .refl rh (.int _)⟩
  case str z =>
    cases b <;> first | exact m.elim | skip
    rename_i z2
    dsimp only at m
    rw [shortD, shortD] at m
    by_cases q : z.cps.toList.length ≤ LIM ∧ z2.cps.toList.length ≤ LIM
    · rw [decide_eq_true q.1, decide_eq_true q.2] at m
      refine op_add_str pins s σ H _ _ v u Q I rx ry ⟨z, z2, rfl, rfl, lim2 q.1 q.2, ?_⟩
      have e : z ++ z2 = ⟨⟨app z.cps.toList z2.cps.toList⟩⟩ := by
        rw [appD]
        obtain ⟨⟨l⟩⟩ := z
        obtain ⟨⟨r⟩⟩ := z2
        show (⟨(Array.mk l) ++ (Array.mk r)⟩ : Str) = _
        simp
      rw [e]
      exact m _ _ _ .refl rh (.str _)
    · have : (decide (z.cps.toList.length ≤ LIM) && decide (z2.cps.toList.length ≤ LIM)) = false := by
        rw [Bool.eq_false_iff]; intro h; rw [Bool.and_eq_true, decide_eq_true_iff, decide_eq_true_iff] at h; exact q h
      rw [this] at m; exact m.elim
  case tup l p vs ht rs =>
    cases b <;> first | exact m.elim | skip
    rename_i r p2 ws hu rs2
    dsimp only at m
    rw [shortD, shortD] at m
    by_cases q : l.length ≤ LIM ∧ r.length ≤ LIM
    · rw [decide_eq_true q.1, decide_eq_true q.2, appD] at m
      refine op_catA pins s σ H _ _ v u Q I rx ry ⟨p, p2, vs, ws, rfl, rfl, ht.sq, hu.sq, lim2 (by rw [← rs.length]; exact q.1) (by rw [← rs2.length]; exact q.2), fun z => ?_, fun _ z => ?_, fun _ _ t ht' => ?_⟩
      · subst z
        have e : l = [] := by have := rs.length; simpa using this
        subst e
        exact m _ _ _ .refl rh (.tup hu rs2)
      · subst z
        have e : r = [] := by have := rs2.length; simpa using this
        subst e
        exact m _ _ _ .refl rh (.tup ht (by simpa using rs))
      · exact m _ _ _ (.new ht') (rh.new ht') (.tup upd_same ((rs.app rs2).ext (.new ht')))
    · have : (decide (l.length ≤ LIM) && decide (r.length ≤ LIM)) = false := by
        rw [Bool.eq_false_iff]; intro h; rw [Bool.and_eq_true, decide_eq_true_iff, decide_eq_true_iff] at h; exact q h
      rw [this] at m; exact m.elim
  case ref n p hn =>
    cases b <;> first | exact m.elim | skip
    rename_i n2 p2 hn2
    dsimp only at m
    cases q1 : h.get n with
    | none => rw [q1] at m; exact m.elim
    | some o =>
      rw [q1] at m
      cases o <;> first | exact m.elim | skip
      rename_i l
      dsimp only at m
      cases q2 : h.get n2 with
      | none => rw [q2] at m; exact m.elim
      | some o2 =>
        rw [q2] at m
        cases o2 <;> first | exact m.elim | skip
        rename_i r
        dsimp only at m
        obtain ⟨vs, e1, rs⟩ := rh.ob n _ p q1 hn
        obtain ⟨ws, e2, rs2⟩ := rh.ob n2 _ p2 q2 hn2
        rw [shortD, shortD] at m
        by_cases q : l.length ≤ LIM ∧ r.length ≤ LIM
        · rw [decide_eq_true q.1, decide_eq_true q.2, appD] at m
          refine op_cat pins s σ H _ _ v u Q I rx ry ⟨p, p2, vs, ws, rfl, rfl, e1, e2, lim2 (by rw [← rs.length]; exact q.1) (by rw [← rs2.length]; exact q.2), fun t ht' => ?_⟩
          have m2 : rest (gx X G) ρ H (mk (.lst (l ++ r)) h) Q := m
          refine aft_lst (Wx := fun _ _ _ _ => False) (σ := σ) ?_ rh (rs.app rs2) ht'
          revert m2
          cases mk (.lst (l ++ r)) h with
          | ok w h' => exact fun z => z
          | ex z h' => exact fun z => z.elim
          | bad => exact fun z => z
        · have : (decide (l.length ≤ LIM) && decide (r.length ≤ LIM)) = false := by
            rw [Bool.eq_false_iff]; intro h; rw [Bool.and_eq_true, decide_eq_true_iff, decide_eq_true_iff] at h; exact q h
          rw [this] at m; exact m.elim⟩
theorem aft_of {g : Gc} {ρ : List Addr} {H : Hp} {r : R} {Q : VK} {σ : L2.St} (m : rest g ρ H r Q) : Aft g (RW g) ρ H (fun _ _ _ _ => False) σ r Q := by
  cases r with
  | ok w h' => exact m
  | ex z h' => exact m.elim
  | bad => exact m
theorem repN_D {α : Type} (l : List α) : ∀ n, repN n l = (List.replicate n l).flatten
  | 0 => rfl
  | n + 1 => by
    show app l (repN n l) = _
    rw [appD, repN_D l n, List.replicate_succ, List.flatten_cons]
theorem osMul : OpS X G (binaryOp .Mult) oMul := ⟨fun x y h z h' => by
    cases x <;> cases y <;> first | (intro e; cases e; done) | (unfold oMul; dsimp only; (repeat' split) <;> first | exact mk_nox _ _ _ _ | (intro e; cases e)), by
  intro pins s σ H x y v u Q I rx ry h
  obtain ⟨ρ, wx, wy, h, rh, a, b, m⟩ := h
  unfold oMul at m
  cases a <;> first | exact m.elim | skip
  case int i =>
    cases b <;> first | exact m.elim | skip
    rename_i j
    dsimp only at m
    cases q : (small i || small j) with
    | false => rw [q] at m; exact m.elim
    | true =>
      rw [q] at m
      rw [Bool.or_eq_true] at q
      exact op_mul pins s σ H _ _ v u Q I rx ry ⟨i, j, rfl, rfl, q.imp smallD smallD, m _ _ _ .refl rh (.int _)⟩
  case tup l t vs ht rs =>
    cases b <;> first | exact m.elim | skip
    rename_i k
    dsimp only at m
    rw [bltD, bleD, lenD, iLtD, iLtD] at m
    by_cases q : (0 < l.length ∧ l.length ≤ 1000) ∧ k < 1001 ∧ 1 < k
    · rw [decide_eq_true q.1.1, decide_eq_true q.1.2, decide_eq_true q.2.1, decide_eq_true q.2.2] at m
      have m2 : ∀ ρ' H' v, Ext ρ H ρ' H' → RH (gx X G) ρ' h H' → RW (gx X G) ρ' H' (.tup (repN k.toNat l)) v → Q v H' := m
      rw [repN_D] at m2
      refine op_repT pins s σ H _ _ v u Q I rx ry ⟨t, k, vs, rfl, rfl, ht.sq, fun z => ?_, by omega, by omega, by rw [← rs.length]; exact q.1.2, fun p hp => ?_⟩
      · have := rs.length
        rw [z, List.length_nil] at this
        omega
      · exact m2 _ _ _ (.new hp) (rh.new hp) (.tup upd_same ((rs.rep _).ext (.new hp)))
    · have : (decide (0 < l.length) && decide (l.length ≤ 1000) && (decide (k < 1001) && decide (1 < k))) = false := by
        rw [Bool.eq_false_iff]; intro h; rw [Bool.and_eq_true, Bool.and_eq_true, Bool.and_eq_true, decide_eq_true_iff, decide_eq_true_iff, decide_eq_true_iff, decide_eq_true_iff] at h; exact q h
      rw [this] at m; exact m.elim
  case ref n p hn =>
    cases b <;> first | exact m.elim | skip
    rename_i k
    dsimp only at m
    cases q1 : h.get n with
    | none => rw [q1] at m; exact m.elim
    | some o =>
      rw [q1] at m
      cases o <;> first | exact m.elim | skip
      rename_i l
      dsimp only at m
      obtain ⟨vs, e1, rs⟩ := rh.ob n _ p q1 hn
      rw [bleD, lenD, iLtD] at m
      rw [iLtD] at m
      by_cases q : l.length ≤ 1000 ∧ k < 10001 ∧ -10001 < k
      · rw [decide_eq_true q.1, decide_eq_true q.2.1, decide_eq_true q.2.2] at m
        have m2 : rest (gx X G) ρ H (mk (.lst (repN k.toNat l)) h) Q := m
        rw [repN_D] at m2
        refine op_rep pins s σ H _ _ v u Q I rx ry ⟨p, k, vs, rfl, rfl, e1, by omega, by omega, ?_, fun t ht' => aft_lst (aft_of (σ := σ) m2) rh (rs.rep _) ht'⟩
        rw [sizeLine_eq, ← rs.length]
        have h1 : k.toNat ≤ 10000 := by omega
        calc l.length * k.toNat ≤ 1000 * 10000 := Nat.mul_le_mul q.1 h1
          _ ≤ 16777216 := by decide
      · have : (decide (l.length ≤ 1000) && (decide (k < 10001) && decide (-10001 < k))) = false := by
          rw [Bool.eq_false_iff]; intro h; rw [Bool.and_eq_true, Bool.and_eq_true, decide_eq_true_iff, decide_eq_true_iff, decide_eq_true_iff] at h; exact q h
        rw [this] at m; exact m.elim⟩
end
end PW

set_option Elab.async false
set_option linter.all false
set_option maxRecDepth 100000
set_option maxHeartbeats 1000000
/-! PW5: in, a[b], slices. -/
namespace PW
open PySem PySem.Spec PyProof.Rows L2
section
variable {X : Cx} {G : G0} {Wx : WX}
/-! ### dicts -/
theorem kEqD (a b : Key) : kEq a b = decide (a = b) := by
  cases a <;> cases b <;> simp [kEq, iEqD, sEqD]
theorem kEqLD : ∀ a b : List Key, kEqL a b = decide (a = b)
  | [], [] => by simp [kEqL]
  | [], _ :: _ => by simp [kEqL]
  | _ :: _, [] => by simp [kEqL]
  | a :: l, b :: r => by
    show (match kEq a b with | true => kEqL l r | false => false) = _
    rw [kEqD, kEqLD l r]
    by_cases e : a = b <;> simp [e]
theorem keyO_v {g : Gc} {ρ : List Addr} {H : Hp} {w : W} {v : V} {k : Key} (r : RW g ρ H w v) (e : keyO w = some k) : v = kV k := by
  cases r <;> simp only [keyO, Option.some.injEq] at e <;> first | (subst e; rfl) | cases e
theorem mapO_keys {g : Gc} {ρ : List Addr} {H : Hp} : ∀ {l : List W} {vs : List V} {ks : List Key}, RWs g ρ H l vs → mapO keyO l = some ks → vs = ks.map kV
  | _, _, _, .nil, e => by simp only [mapO, Option.some.injEq] at e; subst e; rfl
  | w :: l, _, ks, .cons h r, e => by
    unfold mapO at e
    cases q : keyO w with
    | none => rw [q] at e; cases e
    | some k =>
      rw [q] at e
      cases q2 : mapO keyO l with
      | none => rw [q2] at e; cases e
      | some k2 =>
        rw [q2] at e
        simp only [Option.some.injEq] at e
        subst e
        rw [keyO_v h q, mapO_keys r q2]; rfl
section
variable {κ : Type} [DecidableEq κ] {eq : κ → κ → Bool} (hq : ∀ a b, eq a b = decide (a = b)) {g : Gc} {ρ : List Addr} {H : Hp}
include hq
theorem valG_v : ∀ {l : List (κ × W)} {vs : List (κ × V)} (k : κ), RKs g ρ H l vs → match valG eq l k with | some w => ∃ v, valV vs k = some v ∧ RW g ρ H w v | none => valV vs k = none
  | _, _, k, .nil => rfl
  | (k0, w) :: l, _, k, .cons (v := v) (vs := vs) h r => by
    have ih := valG_v k r
    unfold valG
    rw [hq]
    by_cases e : k0 = k
    · rw [decide_eq_true e]
      exact ⟨v, valV_pos e, h⟩
    · rw [decide_eq_false e]
      rw [valV_neg (p := (k0, v)) e]
      exact ih
theorem repG_v {w : W} {v : V} (hw : RW g ρ H w v) : ∀ {l : List (κ × W)} {vs : List (κ × V)} (k : κ), RKs g ρ H l vs → RKs g ρ H (repG eq l k w) (vs.map fun (kv : κ × V) => if kv.1 = k then (kv.1, v) else kv)
  | _, _, k, .nil => .nil
  | (k0, w0) :: l, _, k, .cons (v := v0) (vs := vs) h r => by
    have ih := repG_v hw k r
    unfold repG
    rw [hq]
    by_cases e : k0 = k
    · rw [decide_eq_true e, List.map_cons, if_pos (show (k0, v0).1 = k from e)]
      exact .cons hw ih
    · rw [decide_eq_false e, List.map_cons, if_neg (show ¬ (k0, v0).1 = k from e)]
      exact .cons h ih
theorem putG_v {w : W} {v : V} (hw : RW g ρ H w v) {l : List (κ × W)} {vs : List (κ × V)} (k : κ) (r : RKs g ρ H l vs) : RKs g ρ H (putG eq l k w) (putK vs k v) := by
  have hv := valG_v hq k r
  unfold putG putK
  cases q : valG eq l k with
  | some w0 =>
    rw [q] at hv
    obtain ⟨v0, e, _⟩ := hv
    have : (vs.any fun kv => decide (kv.1 = k)) = true := by
      unfold valV at e
      rw [Option.map_eq_some_iff] at e
      obtain ⟨p, e, _⟩ := e
      exact List.any_eq_true.mpr ⟨p, List.mem_of_find?_eq_some e, List.find?_some (p := fun (kv : κ × V) => decide (kv.1 = k)) e⟩
    rw [if_pos this]
    exact repG_v hq hw k r
  | none =>
    rw [q] at hv
    have : ¬ (vs.any fun kv => decide (kv.1 = k)) = true := fun z => by
      obtain ⟨p, h1, h2⟩ := List.any_eq_true.mp z
      have hv : valV vs k = none := hv
      unfold valV at hv
      rw [Option.map_eq_none_iff, List.find?_eq_none] at hv
      exact hv p h1 h2
    rw [if_neg this]
    show RKs g ρ H (app l [(k, w)]) (vs ++ [(k, v)])
    rw [appD]
    clear q hv this
    induction r with
    | nil => exact .cons hw .nil
    | cons h r ih => exact .cons h ih
end
theorem opt_v {g : Gc} {ρ : List Addr} {H : Hp} {r : Option W} {rv : Option V} (h : match r with | some w => ∃ v, rv = some v ∧ RW g ρ H w v | none => rv = none) : r = none ∧ rv = none ∨ ∃ w v, r = some w ∧ rv = some v ∧ RW g ρ H w v := by
  cases r with
  | none => exact .inl ⟨rfl, h⟩
  | some w => obtain ⟨v, h1, h2⟩ := h; exact .inr ⟨w, v, rfl, h1, h2⟩
theorem dGet_v {g : Gc} {ρ : List Addr} {h : Hq} {H : Hp} {n : Nat} {a : Addr} {o : Ob} {wy : W} {y : V} {r : Option W} (rh : RH g ρ h H) (e : h.get n = some o) (hn : ρ[n]? = some a) (ry : RW g ρ H wy y) (d : dGet o wy = some r) :
    ∃ rv, DGet H a y rv ∧ (r = none ∧ rv = none ∨ ∃ w v, r = some w ∧ rv = some v ∧ RW g ρ H w v) := by
  have ro := rh.ob n o a e hn
  cases o with
  | dk l =>
    simp only [dGet] at d
    cases q : keyO wy with
    | none => rw [q] at d; cases d
    | some k =>
      rw [q] at d
      simp only [Option.some.injEq] at d
      obtain ⟨kvs, h1, h2⟩ := ro
      have hv := valG_v kEqD k h2
      rw [keyO_v ry q]
      subst d
      exact ⟨_, .k h1, opt_v hv⟩
  | dt l =>
    simp only [dGet] at d
    cases ry <;> first | cases d; done | skip
    rename_i ws b us ht rs
    dsimp only at d
    cases q : mapO keyO ws with
    | none => rw [q] at d; cases d
    | some k =>
      rw [q] at d
      simp only [Option.some.injEq] at d
      obtain ⟨kvs, h1, h2⟩ := ro
      have hv := valG_v kEqLD k h2
      have eu := mapO_keys rs q
      subst eu
      subst d
      exact ⟨_, .t h1 ht, opt_v hv⟩
  | _ => cases d
/-! ### in -/
theorem anyO_dp {g : Gc} {ρ : List Addr} {h : Hq} {H : Hp} (rh : RH g ρ h H) {d : PyData} : ∀ {l : List W} {vs : List V} {b : Bool}, RWs g ρ H l vs →
    anyO (fun z => match data 60 h z with | some e => eqP 62 e d | none => none) l = some b → ∃ ds, DpAll g.K H vs ds ∧ PyData.canLayAll0 ds = true ∧ PyData.depthAll ds ≤ 60 ∧ (ds.any fun z => PyData.eqv z d) = b
  | _, _, b, .nil, e => by
    simp only [anyO, Option.some.injEq] at e
    subst e
    exact ⟨[], .nil, by simp [PyData.canLayAll0], by simp [PyData.depthAll], rfl⟩
  | w :: l, _, b, .cons h1 r, e => by
    unfold anyO at e
    cases q : data 60 h w with
    | none => rw [q] at e; cases e
    | some c =>
      rw [q] at e
      obtain ⟨c1, c2, c3⟩ := data_dp rh 60 w _ c q h1
      dsimp only at e
      cases q2 : eqP 62 c d with
      | none => rw [q2] at e; cases e
      | some k =>
        rw [q2] at e
        have ek := eqP_eqv _ _ _ _ q2
        cases k with
        | true =>
          dsimp only at e
          split at e
          · rename_i b2 q3
            simp only [Option.some.injEq] at e
            obtain ⟨ds, a1, a2, a3, a4⟩ := anyO_dp rh r q3
            exact ⟨c :: ds, .cons c1 a1, by simp [PyData.canLayAll0, c2, a2], by simp only [PyData.depthAll]; omega, by rw [List.any_cons, ek, ← e]; rfl⟩
          · cases e
        | false =>
          obtain ⟨ds, a1, a2, a3, a4⟩ := anyO_dp rh r e
          exact ⟨c :: ds, .cons c1 a1, by simp [PyData.canLayAll0, c2, a2], by simp only [PyData.depthAll]; omega, by rw [List.any_cons, ek, a4]; rfl⟩
theorem inL_dp {g : Gc} {ρ : List Addr} {h : Hq} {H : Hp} (rh : RH g ρ h H) {wx : W} {x : V} {l : List W} {vs : List V} {b : Bool} (rx : RW g ρ H wx x) (rs : RWs g ρ H l vs) (e : inL h wx l = some b) :
    ∃ d ds, Dp g.K H x d ∧ DpAll g.K H vs ds ∧ SeqAt.shaped d = true ∧ PyData.canLayAll0 ds = true ∧ PyData.depthAll ds ≤ 60 ∧ (ds.any fun z => PyData.eqv z d) = b := by
  unfold inL at e
  cases q : data 60 h wx with
  | none => rw [q] at e; cases e
  | some d =>
    rw [q] at e
    obtain ⟨d1, d2⟩ := data_sh rh q rx
    obtain ⟨ds, a1, a2, a3, a4⟩ := anyO_dp rh rs e
    exact ⟨d, ds, d1, a1, d2, a2, a3, a4⟩
theorem shaped_list {ds : List PyData} (h1 : PyData.canLayAll0 ds = true) (h2 : PyData.depthAll ds ≤ 60) : SeqAt.shaped (.list ds) = true := by
  unfold SeqAt.shaped
  rw [Bool.and_eq_true]
  exact ⟨by simp only [PyData.canLay0]; exact h1, decide_eq_true (by simp only [PyData.depth]; omega)⟩
/-- in a tuple -/
def rInT (K : PySem.W.Frag) (neg : Bool) : R2 := fun x y H Q => ∃ d ds, Dp K H x d ∧ Dp K H y (.tuple ds) ∧ SeqAt.shaped d = true ∧ PyData.canLayAll0 ds = true ∧ Q (.bl (if neg then !ds.any fun z => PyData.eqv z d else ds.any fun z => PyData.eqv z d)) H
theorem op_inT (hu : X.A.units + 65 < cLine) : OpR X (compareOp .In) (rInT X.K false) := by
  intro pins s σ H x y v u Q I rx ry h
  obtain ⟨d, ds, hd, he, sd, se, q⟩ := h
  obtain ⟨as, r1⟩ := Dp.reads I d x v hd rx
  obtain ⟨bs, r2⟩ := Dp.reads I (.tuple ds) y u he ry
  exact SeqAt.in_tuple_reads r2 r1 se (SeqAt.canLay_of_shaped sd) (room_in_shaped sd hu) ⟨.bl _, H, I, rfl, q⟩
theorem op_notInT (hu : X.A.units + 65 < cLine) : OpR X (compareOp .NotIn) (rInT X.K true) := by
  intro pins s σ H x y v u Q I rx ry h
  obtain ⟨d, ds, hd, he, sd, se, q⟩ := h
  obtain ⟨as, r1⟩ := Dp.reads I d x v hd rx
  obtain ⟨bs, r2⟩ := Dp.reads I (.tuple ds) y u he ry
  exact SeqAt.notIn_tuple_reads r2 r1 se (SeqAt.canLay_of_shaped sd) (room_in_shaped sd hu) ⟨.bl _, H, I, rfl, q⟩
end
end PW

set_option Elab.async false
set_option linter.all false
set_option maxRecDepth 100000
set_option maxHeartbeats 1000000
/-! PW6: in, a[b], slices (ends). -/
namespace PW
open PySem PySem.Spec PyProof.Rows L2
section
variable {X : Cx} {G : G0} {Wx : WX} {pn : List PinT} {pos : Pos} {a b : Expr} {da db : D}
theorem op_inDict (hu : X.A.units + 1 < cLine) : OpR X (compareOp .In) (fun x y H Q => ∃ a ov, y = .ref a ∧ DGet H a x ov ∧ Q (.bl ov.isSome) H) := by
  intro pins s σ H x y v u Q I rx ry h
  obtain ⟨a, ov, rfl, g, q⟩ := h
  obtain rfl : u = Value.ref a := ry
  exact d_in hu I g rx fun s3 I3 => ⟨.bl ov.isSome, H, I3, rfl, q⟩
theorem op_notInDict (hu : X.A.units + 1 < cLine) : OpR X (compareOp .NotIn) (fun x y H Q => ∃ a ov, y = .ref a ∧ DGet H a x ov ∧ Q (.bl (!ov.isSome)) H) := by
  intro pins s σ H x y v u Q I rx ry h
  obtain ⟨a, ov, rfl, g, q⟩ := h
  obtain rfl : u = Value.ref a := ry
  exact d_notIn hu I g rx fun s3 I3 => ⟨.bl (!ov.isSome), H, I3, rfl, q⟩
theorem ix_dict (hu : X.A.units + 1 < cLine) : IxR X (fun x y H Q => ∃ a v, x = .ref a ∧ DGet H a y (some v) ∧ Q v H) := by
  intro value slice pins s σ H x y v u Q I rx ry h hs
  obtain ⟨a, w, rfl, g, q⟩ := h
  obtain rfl : v = Value.ref a := rx
  have hT := dict_typeIs I g
  unfold subscriptTail
  refine wpAny_bind ?_
  rw [getitemInPython_of_ne hT.not_modules]
  refine wpAny_bind (wpAny_specialOf hT PySem.F.slot_dict_getitem.lookup ?_)
  have fin : wpAny (model X.prog X.w) X.A (subscripted slice false (.ref a) u) (fun r s₃ => wpAny (model X.prog X.w) X.A (letTemporaryGo value (.ref a) r >>= fun _ => pure r) (EP X pins σ Q) X.xe s₃) X.xe s := by
    rw [hs]
    exact wpAny_operating (d_getItem hu I g ry fun w' s3 I3 rw' => wpAny_bind (wpAny_letTemporaryGo (wpAny_pure ⟨w, H, I3, rw', q⟩)))
  first
    | exact wpAny_pure (wpAny_bind fin)
    | exact wpAny_bind (wpAny_pure (wpAny_bind fin))
    | exact wpAny_bind fin
theorem memND (c : Nat) : ∀ l : List Nat, memN l c = decide (c ∈ l)
  | [] => by simp [memN]
  | a :: r => by
    show (match Nat.beq a c with | true => true | false => memN r c) = _
    rw [beqD, memND c r]
    by_cases e : a = c
    · subst e; simp
    · have : ¬ c = a := fun z => e z.symm
      simp [e, this]
theorem in_cases (g : Gc) {ρ : List Addr} {h : Hq} {H : Hp} (rh : RH g ρ h H) {wx wy : W} {x y : V} {b : Bool} (rx : RW g ρ H wx x) (ry : RW g ρ H wy y) (e : inW h wx wy = some b) :
    (∃ d ds, Dp g.K H x d ∧ Dp g.K H y (.list ds) ∧ SeqAt.shaped d = true ∧ SeqAt.shaped (.list ds) = true ∧ (ds.any fun z => PyData.eqv z d) = b) ∨
    (∃ d ds, Dp g.K H x d ∧ Dp g.K H y (.tuple ds) ∧ SeqAt.shaped d = true ∧ PyData.canLayAll0 ds = true ∧ (ds.any fun z => PyData.eqv z d) = b) ∨
    (∃ a ov, y = .ref a ∧ DGet H a x ov ∧ ov.isSome = b) ∨
    (∃ (c : Nat) (z : Str), x = .str ⟨#[c]⟩ ∧ y = .str z ∧ decide (c ∈ z.cps.toList) = b) := by
  unfold inW at e
  cases ry <;> first | cases e; done | skip
  case str z =>
    dsimp only at e
    cases rx <;> first | cases e; done | skip
    rename_i t
    dsimp only at e
    obtain ⟨⟨cs⟩⟩ := t
    split at e
    · rename_i c q
      have q : cs = [c] := q
      subst q
      simp only [Option.some.injEq] at e
      exact .inr (.inr (.inr ⟨c, z, rfl, rfl, by rw [← memND]; exact e⟩))
    · cases e
  case tup l p vs ht rs =>
    obtain ⟨d, ds, a1, a2, a3, a4, a5, a6⟩ := inL_dp rh rx rs e
    exact .inr (.inl ⟨d, ds, a1, .tup ht.sq a2, a3, a4, a6⟩)
  case ktup l p vs ht rs =>
    obtain ⟨d, ds, a1, a2, a3, a4, a5, a6⟩ := inL_dp rh rx rs e
    exact .inr (.inl ⟨d, ds, a1, .tup ht.sq a2, a3, a4, a6⟩)
  case ref n p hn =>
    dsimp only at e
    cases q : h.get n with
    | none => rw [q] at e; cases e
    | some o =>
      rw [q] at e
      have dict : ∀ r, dGet o wx = some r → r.isSome = b → ∃ a ov, V.ref p = .ref a ∧ DGet H a x ov ∧ ov.isSome = b := fun r hr hb => by
        obtain ⟨rv, h1, h2⟩ := dGet_v rh q hn rx hr
        refine ⟨p, rv, rfl, h1, ?_⟩
        rcases h2 with ⟨z1, z2⟩ | ⟨w, v, z1, z2, _⟩
        · rw [z2, ← hb, z1]; rfl
        · rw [z2, ← hb, z1]; rfl
      cases o with
      | lst l =>
        obtain ⟨vs, h1, rs⟩ := rh.ob n _ p q hn
        obtain ⟨d, ds, a1, a2, a3, a4, a5, a6⟩ := inL_dp rh rx rs e
        exact .inl ⟨d, ds, a1, .lst (.of h1) a2, a3, shaped_list a4 a5, a6⟩
      | rol l =>
        obtain ⟨vs, h1, rs⟩ := rh.ob n _ p q hn
        obtain ⟨d, ds, a1, a2, a3, a4, a5, a6⟩ := inL_dp rh rx rs e
        exact .inl ⟨d, ds, a1, .lst h1 a2, a3, shaped_list a4 a5, a6⟩
      | dk l =>
        dsimp only at e
        split at e
        · rename_i r hr
          simp only [Option.some.injEq] at e
          exact .inr (.inr (.inl (dict r hr e)))
        · cases e
      | dt l =>
        dsimp only at e
        split at e
        · rename_i r hr
          simp only [Option.some.injEq] at e
          exact .inr (.inr (.inl (dict r hr e)))
        · cases e
      | st l => cases e
      | rng lo hi => cases e
theorem osIn (C : Cs X Wx) : OpS X G (compareOp .In) oIn := ⟨fun _ _ _ _ _ => bo_nox _ _ _ _, by
  intro pins s σ H x y v u Q I rx ry h
  obtain ⟨ρ, wx, wy, h, rh, a, b, m⟩ := h
  have m : rest (gx X G) ρ H (bo (inW h wx wy) h) Q := m
  have hu := C.un
  rcases bo_ok (o := inW h wx wy) (h := h) with ⟨k, e, e2⟩ | ⟨_, e2⟩
  · rw [e2] at m
    have fin : Q (.bl k) H := m _ _ _ .refl rh (.bl _)
    rcases in_cases _ rh a b e with ⟨d, ds, p1, p2, p3, p4, p5⟩ | ⟨d, ds, p1, p2, p3, p4, p5⟩ | ⟨p, ov, p1, p2, p3⟩ | ⟨c, z, p1, p2, p3⟩
    · exact op_inD (by omega) pins s σ H x y v u Q I rx ry ⟨d, ds, p1, p2, p3, p4, by rw [p5]; exact fin⟩
    · exact op_inT (by omega) pins s σ H x y v u Q I rx ry ⟨d, ds, p1, p2, p3, p4, by rw [p5]; exact fin⟩
    · exact op_inDict (by omega) pins s σ H x y v u Q I rx ry ⟨p, ov, p1, p2, by rw [p3]; exact fin⟩
    · exact op_inS pins s σ H x y v u Q I rx ry ⟨c, z, p1, p2, by rw [p3]; exact fin⟩
  · rw [e2] at m; exact m.elim⟩
theorem osNotIn (C : Cs X Wx) : OpS X G (compareOp .NotIn) oNotIn := ⟨fun _ _ _ _ _ => bn_nox _ _ _ _, by
  intro pins s σ H x y v u Q I rx ry h
  obtain ⟨ρ, wx, wy, h, rh, a, b, m⟩ := h
  have m : rest (gx X G) ρ H (bn (inW h wx wy) h) Q := m
  have hu := C.un
  rcases bn_ok (o := inW h wx wy) (h := h) with ⟨k, e, e2⟩ | ⟨_, e2⟩
  · rw [e2] at m
    have fin : Q (.bl (!k)) H := m _ _ _ .refl rh (.bl _)
    rcases in_cases _ rh a b e with ⟨d, ds, p1, p2, p3, p4, p5⟩ | ⟨d, ds, p1, p2, p3, p4, p5⟩ | ⟨p, ov, p1, p2, p3⟩ | ⟨c, z, p1, p2, p3⟩
    · exact op_notInD (by omega) pins s σ H x y v u Q I rx ry ⟨d, ds, p1, p2, p3, p4, by rw [p5]; exact fin⟩
    · exact op_notInT (by omega) pins s σ H x y v u Q I rx ry ⟨d, ds, p1, p2, p3, p4, by rw [p5]; exact fin⟩
    · exact op_notInDict (by omega) pins s σ H x y v u Q I rx ry ⟨p, ov, p1, p2, by rw [p3]; exact fin⟩
    · exact op_notInS pins s σ H x y v u Q I rx ry ⟨c, z, p1, p2, by rw [p3]; exact fin⟩
  · rw [e2] at m; exact m.elim⟩
/-! ### a[b] -/
theorem atW_at {α : Type} (l : List α) (i : Int) : atW l i = atI l i := by
  unfold atW atI ixN
  cases i with
  | ofNat n =>
    dsimp only
    rw [nthD, if_pos (show (0 : Int) ≤ Int.ofNat n from Int.natCast_nonneg n)]
    by_cases h : Int.ofNat n < (l.length : Int)
    · rw [if_pos h]; rfl
    · rw [if_neg h]
      have : l.length ≤ n := by
        have h2 : ¬ ((n : Nat) : Int) < (l.length : Int) := h
        omega
      rw [List.getElem?_eq_none this]; rfl
  | negSucc m =>
    dsimp only
    rw [bltD, lenD, if_neg (show ¬ (0 : Int) ≤ Int.negSucc m by omega)]
    by_cases h : m < l.length
    · rw [decide_eq_true h, if_pos (show -(l.length : Int) ≤ Int.negSucc m by omega)]
      dsimp only
      rw [nthD]
      have : (Int.negSucc m + (l.length : Int)).toNat = l.length - (m + 1) := by omega
      rw [this]; rfl
    · rw [decide_eq_false h, if_neg (show ¬ -(l.length : Int) ≤ Int.negSucc m by omega)]
      rfl
theorem RWs.atI {g : Gc} {ρ : List Addr} {H : Hp} {l : List W} {vs : List V} {i : Int} {w : W} (r : RWs g ρ H l vs) (e : L2.atI l i = some w) : ∃ v, L2.atI vs i = some v ∧ RW g ρ H w v := by
  unfold L2.atI at e ⊢
  rw [← r.length]
  cases q : ixN l.length i with
  | none => rw [q] at e; cases e
  | some j =>
    rw [q] at e
    exact r.get e
def rIxM (g : Gc) : R2 := rOp g oIx
theorem oIx_nox (x y : W) (h : Hq) (z : Xc) (h' : Hq) : oIx x y h ≠ .ex z h' := by
  unfold oIx
  (repeat' split) <;> (intro e; cases e)
theorem ix_all (C : Cs X Wx) : IxR X (rOp (gx X G) oIx) := by
  intro value slice pins s σ H x y v u Q I rx ry h hs
  obtain ⟨ρ, wx, wy, h, rh, a, b, m⟩ := h
  have hu := C.un
  unfold oIx at m
  cases a <;> first | exact m.elim | skip
  case tup l p vs ht rs =>
    dsimp only at m
    cases b <;> first | exact m.elim | skip
    rename_i i
    dsimp only at m
    cases q : atW l i with
    | none => rw [q] at m; exact m.elim
    | some w =>
      rw [q] at m
      rw [atW_at] at q
      obtain ⟨z, h1, h2⟩ := rs.atI q
      exact ix_tup value slice pins s σ H _ _ v u Q I rx ry ⟨p, vs, i, z, rfl, rfl, ht.sq, h1, m _ _ _ .refl rh h2⟩ hs
  case ktup l p vs ht rs =>
    dsimp only at m
    cases b <;> first | exact m.elim | skip
    rename_i i
    dsimp only at m
    cases q : atW l i with
    | none => rw [q] at m; exact m.elim
    | some w =>
      rw [q] at m
      rw [atW_at] at q
      obtain ⟨z, h1, h2⟩ := rs.atI q
      exact ix_tup value slice pins s σ H _ _ v u Q I rx ry ⟨p, vs, i, z, rfl, rfl, ht.sq, h1, m _ _ _ .refl rh h2⟩ hs
  case str t =>
    dsimp only at m
    cases b <;> first | exact m.elim | skip
    rename_i i
    dsimp only at m
    rw [shortD] at m
    by_cases ql : t.cps.toList.length ≤ LIM
    · rw [decide_eq_true ql] at m
      dsimp only at m
      cases q : atW t.cps.toList i with
      | none => rw [q] at m; exact m.elim
      | some c =>
        rw [q] at m
        rw [atW_at] at q
        exact ix_str value slice pins s σ H _ _ v u Q I rx ry ⟨t, i, c, rfl, rfl, lim_line ql, q, m _ _ _ .refl rh (.str _)⟩ hs
    · rw [decide_eq_false ql] at m; exact m.elim
  case ref n p hn =>
    dsimp only at m
    cases q : h.get n with
    | none => rw [q] at m; exact m.elim
    | some o =>
      rw [q] at m
      have dict : (match dGet o wy with | some (some w) => (Rs.ok w h : R) | _ => .bad) = oIx (.ref n) wy h → True := fun _ => trivial
      cases o with
      | lst l =>
        dsimp only at m
        cases b <;> first | exact m.elim | skip
        rename_i i
        dsimp only at m
        obtain ⟨vs, e1, rs⟩ := rh.ob n _ p q hn
        cases q2 : atW l i with
        | none => rw [q2] at m; exact m.elim
        | some w =>
          rw [q2] at m
          rw [atW_at] at q2
          obtain ⟨z, h1, h2⟩ := rs.atI q2
          exact ix_list value slice pins s σ H _ _ v u Q I rx ry ⟨p, vs, i, z, rfl, rfl, .of e1, h1, m _ _ _ .refl rh h2⟩ hs
      | rol l =>
        dsimp only at m
        cases b <;> first | exact m.elim | skip
        rename_i i
        dsimp only at m
        obtain ⟨vs, e1, rs⟩ := rh.ob n _ p q hn
        cases q2 : atW l i with
        | none => rw [q2] at m; exact m.elim
        | some w =>
          rw [q2] at m
          rw [atW_at] at q2
          obtain ⟨z, h1, h2⟩ := rs.atI q2
          exact ix_list value slice pins s σ H _ _ v u Q I rx ry ⟨p, vs, i, z, rfl, rfl, e1, h1, m _ _ _ .refl rh h2⟩ hs
      | dk l =>
        dsimp only at m
        cases q2 : dGet (.dk l) wy with
        | none => rw [q2] at m; exact m.elim
        | some r =>
          rw [q2] at m
          obtain ⟨rv, h1, h2⟩ := dGet_v rh q hn b q2
          rcases h2 with ⟨z1, z2⟩ | ⟨w, z, z1, z2, z3⟩
          · subst z1; exact m.elim
          · subst z1 z2
            exact ix_dict (by omega) value slice pins s σ H _ _ v u Q I rx ry ⟨p, z, rfl, h1, m _ _ _ .refl rh z3⟩ hs
      | dt l =>
        dsimp only at m
        cases q2 : dGet (.dt l) wy with
        | none => rw [q2] at m; exact m.elim
        | some r =>
          rw [q2] at m
          obtain ⟨rv, h1, h2⟩ := dGet_v rh q hn b q2
          rcases h2 with ⟨z1, z2⟩ | ⟨w, z, z1, z2, z3⟩
          · subst z1; exact m.elim
          · subst z1 z2
            exact ix_dict (by omega) value slice pins s σ H _ _ v u Q I rx ry ⟨p, z, rfl, h1, m _ _ _ .refl rh z3⟩ hs
      | st l => exact m.elim
      | rng lo hi => exact m.elim
theorem se_ix (C : Cs X Wx) (ha : SE X G pn Wx a da) (hb : SE X G pn Wx b db) (hs : PlainIx b := by exact fun _ _ => rfl) : SE X G pn Wx (.Subscript a b pos) (dOp oIx da db) :=
  PE.imp (pe_ix (ix_all C) ha hb hs) fun _ _ _ q => rd_op oIx_nox q
/-! ### slices -/
theorem drpD {α : Type} : ∀ (n : Nat) (l : List α), drp n l = l.drop n
  | 0, l => rfl
  | n + 1, [] => rfl
  | n + 1, _ :: r => drpD n r
theorem takD {α : Type} : ∀ (n : Nat) (l : List α), tak n l = l.take n
  | 0, l => rfl
  | n + 1, [] => rfl
  | n + 1, a :: r => by
    show a :: tak n r = _
    rw [takD n r]; rfl
theorem sIxD (n d : Nat) (o : Option Int) : PW.sIx n d o = HT.sIx n d o := by
  cases o with
  | none => rfl
  | some v =>
    cases v with
    | ofNat k =>
      show (match Nat.ble k n with | true => k | false => n) = _
      rw [show HT.sIx n d (some (Int.ofNat k)) = min k n from HT.sIx_nat n d k, bleD]
      by_cases h : k ≤ n
      · rw [decide_eq_true h, Nat.min_eq_left h]
      · rw [decide_eq_false h, Nat.min_eq_right (by omega)]
    | negSucc m =>
      show n - (m + 1) = (if Int.negSucc m < 0 then (Int.negSucc m + (n : Int)).toNat else _)
      rw [if_pos (by omega)]
      omega
theorem cutD {α : Type} (l : List α) (lo hi : Option Int) : cut l lo hi = (l.drop (HT.sIx l.length 0 lo)).take (HT.sIx l.length l.length hi - HT.sIx l.length 0 lo) := by
  unfold cut
  rw [drpD, takD, lenD, sIxD, sIxD]
theorem RWs.cut {g : Gc} {ρ : List Addr} {H : Hp} {l : List W} {vs : List V} (r : RWs g ρ H l vs) (lo hi : Option Int) : RWs g ρ H (PW.cut l lo hi) (cutV vs lo hi) := by
  rw [cutD]
  unfold cutV
  rw [r.length]
  exact (r.drop _).take _
end
end PW

set_option Elab.async false
set_option linter.all false
set_option maxRecDepth 100000
set_option maxHeartbeats 1000000
/-! PWs: sorted(t), t a tuple of ints. -/
namespace PyProof.Rows
open PySem PySem.Spec PySem.Calls
section
variable {prog : Program} {w : World} {A : Around} {E : Value → Shared → Prop} {s : Shared}
theorem pw_collect_tuple {l : Addr} {vs : List Value} {Q : List Value → Shared → Prop} (hl : s.heap.IsTuple l vs.toArray)
    (h : Q vs { s with heap := (s.heap.push (seqObj "list" #[] 0)).update s.heap.objs.size (Obj.mapSeq (· ++ vs.toArray)) }) (hsz : vs.length ≤ sizeLine) :
    wpAny (model prog w) A (collect (.ref l)) Q E s := by
  obtain ⟨o, ho, hc, n, hd⟩ := id hl
  unfold collect
  refine wpAny_bind (wpAny_runValue (codeAny_builtin entry_proto_collect' ?_))
  show wpAny _ _ (do again (.builtin "list.__iadd__" ⟨[← newList [], .ref l], []⟩)) _ _ s
  refine wpAny_bind (wpAny_newList (wpAny_pure ⟨Code.quiet_builtin _ (by decide +kernel), codeAny_builtin entry_list_iadd' ?_⟩))
  show wpAny _ _ (Builtin.List.listExtendWith (.ref s.heap.objs.size) (.ref l) (.ref s.heap.objs.size)) _ _ { s with heap := s.heap.push (seqObj "list" #[] 0) }
  unfold Builtin.List.listExtendWith
  have ho' : (s.heap.push (seqObj "list" #[] 0)).get? l = some o := Heap.get?_push_of_some _ ho
  refine wpAny_bind (wpAny_typeOf (T := "tuple") ⟨o, ho', hc⟩ ?_)
  have ht : (Value.type "tuple" == Value.type "tuple") = true := by rfl
  rw [if_pos (by rw [ht]; simp)]
  refine wpAny_bind (listItems_at ho' hd ?_)
  refine wpAny_bind (listItems_at (xs := #[]) (n := 0) (Heap.get?_push_size _ rfl) rfl ?_)
  rw [if_neg (by simp)]
  refine wpAny_bind (listUpdate_at (xs := #[]) (n := 0) (Heap.get?_push_size _ rfl) rfl ?_ (Nat.zero_le _) (by show (#[] ++ vs.toArray).size ≤ sizeLine + 1; simp only [Array.size_append, List.size_toArray, List.length_nil]; omega))
  refine wpAny_pure ?_
  show wpAny (model prog w) A (do
      let o ← load s.heap.objs.size
      match o.data with
      | .seq xs _ => pure xs.toList
      | _ => unsupported "internal:collect") Q E { s with heap := (s.heap.push (seqObj "list" #[] 0)).update s.heap.objs.size (Obj.mapSeq (· ++ vs.toArray)) }
  refine wpAny_bind (wpAny_load (get?_update_seq (Heap.get?_push_size _ rfl) _) ?_)
  show wpAny _ _ (pure ((#[] : Array Value) ++ vs.toArray).toList) Q E _
  rw [show ((#[] : Array Value) ++ vs.toArray).toList = vs by simp]
  exact wpAny_pure h
end
end PyProof.Rows
namespace SrtO
open PySem PySem.Spec PySem.Calls PyProof.Rows
section
variable {prog : Program} {w : World} {A : Around} {E : Value → Shared → Prop} {s : Shared}
theorem pw_sorted_ordT {l : Addr} {vs : List Value} {ltv : Value → Value → Bool} {Q : Value → Shared → Prop} (O : Swo ltv) (hl : s.heap.IsTuple l vs.toArray) (hz : vs.length ≤ sizeLine)
    (hS : 2 ≤ vs.length → ∀ (h₁ : Heap) (a : Addr), h₁.get? a = some (seqObj "list" vs.toArray 0) → (∀ b o, s.heap.get? b = some o → b ≠ a ∧ h₁.get? b = some o) → SortableO prog w A.in1.in1 { s with heap := h₁ } a vs ltv)
    (h : ∀ out : List Value, Srtd ltv out → Stb ltv out vs → Q (.ref (s.heap.objs.size + 1)) { s with heap := sortedAll s.heap vs out.toArray }) :
    wpAny (model prog w) A (call (.builtin "sorted") [.ref l]) Q E s := by
  refine Calls.call_function_entry kind_sorted plain_sorted entry_sorted (args_sorted1 _) ?_
  unfold Builtin.«sorted»
  refine wpAny_bind (m := checkCount "sorted" 1 1 _) (wpAny_pure ?_)
  refine wpAny_bind (pw_collect_tuple hl ?_ hz)
  refine wpAny_bind (wpAny_newList ?_ hz)
  have hsz : ((s.heap.push (seqObj "list" #[] 0)).update s.heap.objs.size (Obj.mapSeq (· ++ vs.toArray))).objs.size = s.heap.objs.size + 1 := by
    rw [Heap.size_update, size_push']
  have hoL : (((s.heap.push (seqObj "list" #[] 0)).update s.heap.objs.size (Obj.mapSeq (· ++ vs.toArray))).push (seqObj "list" vs.toArray 0)).get? (s.heap.objs.size + 1) = some (seqObj "list" vs.toArray 0) := by
    rw [← hsz]; exact Heap.get?_push_size _ rfl
  have keep : ∀ b o, s.heap.get? b = some o → b ≠ s.heap.objs.size + 1 ∧ (((s.heap.push (seqObj "list" #[] 0)).update s.heap.objs.size (Obj.mapSeq (· ++ vs.toArray))).push (seqObj "list" vs.toArray 0)).get? b = some o := fun b o q => by
    have hlt : b < s.heap.objs.size := Heap.lt_size q
    refine ⟨Nat.ne_of_lt (Nat.lt_succ_of_lt hlt), Heap.get?_push_of_some _ ?_⟩
    rw [Heap.get?_update_ne _ _ _ _ (Nat.ne_of_lt hlt)]
    exact Heap.get?_push_of_some _ q
  show wpAny _ _ _ _ _ { s with heap := ((s.heap.push (seqObj "list" #[] 0)).update s.heap.objs.size (Obj.mapSeq (· ++ vs.toArray))).push (seqObj "list" vs.toArray 0) }
  rw [hsz]
  refine wpAny_bind (wpAny_holding (wpAny_call_entry slot_list_sort ⟨_, hoL, rfl⟩ entry_list_sort (list_sort_ord O hoL hz (fun h2 => hS h2 _ _ hoL keep) fun out hs hb => ⟨_, rfl, ?_⟩) (args_list_sort _)))
  exact wpAny_pure ⟨_, rfl, h out hs hb⟩
end
end SrtO
namespace PW
open PySem PySem.Spec PyProof.Rows L2
section
variable {X : Cx}
def rSortedIT (K : PySem.W.Frag) : List V → Hp → VK → Prop := fun vs H Q => ∃ (a : Addr) (ns : List Int), vs = [V.ref a] ∧ SqT K H a (ns.map V.int) ∧
  ∀ (ns' : List Int) (p : Addr), ns'.Perm ns → ns'.Pairwise (· ≤ ·) → H p = none → Q (.ref p) (upd H p (.lst (ns'.map V.int)))
theorem cr_sortedIT : CallR X (.builtin "sorted") (rSortedIT X.K) := by
  intro pins s σ H vs us Q I r h
  obtain ⟨a, ns, rfl, hs, q⟩ := h
  obtain ⟨its, rv, hl, hz⟩ := I.tuple hs
  obtain ⟨u, rfl, rx⟩ := vals1 r
  cases rx
  have hi := rv.ints
  refine SrtO.pw_sorted_ordT SrtO.swo_int hl (by rw [← rv.length]; exact hz) (fun h2 h₁ a' _ _ => SrtO.ints_sortable hi h2) fun out h1 h2 => ?_
  obtain ⟨k1, k2, k3⟩ := SrtO.ints_out hi h1 h2
  obtain ⟨ep, he'⟩ := PyProof.Rows.sortedAll_at s.heap its out.toArray
  have hlen : ((out.map SrtO.iv).map V.int).length ≤ sizeLine := by
    rw [List.length_map, k2.length_eq]
    rw [List.length_map] at hz
    exact hz
  exact ⟨.ref _, upd H (s.heap.objs.size + 1) (.lst ((out.map SrtO.iv).map V.int)), I.laid (t' := s.toks) (fun _ _ => PyProof.Rows.sortedAll_old) (Nat.le_succ _) ⟨hlen, out, ep, vals_of_ints k1, he'⟩, rfl, q _ _ k2 k3 (I.hok.fresh (Nat.le_succ _))⟩
end
end PW

set_option Elab.async false
set_option linter.all false
set_option maxRecDepth 100000
set_option maxHeartbeats 1000000
/-! PW7: slices, built-ins. -/
namespace PW
open PySem PySem.Spec PyProof.Rows L2
section
variable {X : Cx} {G : G0} {Wx : WX} {pn : List PinT} {pos p p2 : Pos} {a b : Expr} {es : List Expr} {da db : D} {dl : DL}
theorem so_none : SO X G pn Wx none oNone := PO.imp po_none fun σ H Q q => by
  obtain ⟨ρ, e, h, re, rh, a⟩ := q
  exact a.go .refl rh rfl
theorem so_some (ha : SE X G pn Wx a da) : SO X G pn Wx (some a) (oSome da) := PO.imp (po_some ha) fun σ H Q q => by
  refine (rd.bind q).imp ?_
  rintro x H1 ⟨ρ, e, wx, h, re, rh, rx, af⟩
  cases rx with
  | int i => exact ⟨i, rfl, af.go .refl rh rfl⟩
  | _ => exact af.elim
def rSlM (K : PySem.W.Frag) : V → Option Int → Option Int → Hp → VK → Prop := fun x lo hi H Q => rSlA K x lo hi H Q ∨ (rSlL K x lo hi H Q ∨ rSlS x lo hi H Q)
theorem cut_whole {α : Type} (l : List α) (lo hi : Option Int) (h : HT.sIx l.length 0 lo = 0 ∧ HT.sIx l.length l.length hi = l.length) : cut l lo hi = l := by
  rw [cutD, h.1, h.2]; simp
theorem se_sl {lo hi : Option Expr} {dlo dhi : DO} (ha : SE X G pn Wx a da) (hl : SO X G pn Wx lo dlo) (hh : SO X G pn Wx hi dhi) : SE X G pn Wx (.Subscript a (.Slice lo hi none p2) pos) (dSl da dlo dhi) :=
  PE.imp (pe_slice (r := rSlM X.K) (sl_tupA.or (sl_list.or sl_str)) ha hl hh) fun σ H Q q => by
  refine (rd.bind q).imp ?_
  rintro x H1 ⟨ρ, e, wx, h, re, rh, rx, af⟩
  refine ⟨ρ, e, h, re, rh, (Aft.bind af).imp ?_⟩
  rintro l H2 ⟨ρ2, l', h2, x2, rh2, el, af2⟩
  cases el
  refine ⟨ρ2, e, h2, re.ext x2, rh2, (Aft.bind af2).imp ?_⟩
  rintro u H3 ⟨ρ3, u', h3, x3, rh3, eu, af3⟩
  cases eu
  have rx3 := (rx.ext x2).ext x3
  unfold slW at af3
  cases rx3 <;> first | exact af3.elim | skip
  case str z =>
    dsimp only at af3
    rw [shortD] at af3
    by_cases ql : z.cps.toList.length ≤ LIM
    · rw [decide_eq_true ql] at af3
      refine .inr (.inr ⟨z, rfl, lim_line ql, ?_⟩)
      have e : cutS z l u = ⟨⟨cut z.cps.toList l u⟩⟩ := by rw [cutD]; rfl
      rw [e]
      exact af3.go .refl rh3 (.str _)
    · rw [decide_eq_false ql] at af3; exact af3.elim
  case tup ws a vs ht rs =>
    dsimp only at af3
    rw [shortD] at af3
    by_cases ql : ws.length ≤ LIM
    · rw [decide_eq_true ql] at af3
      refine .inl ⟨_, _, rfl, ht.sq, fun z => ?_, fun _ t ht' => aft_tup af3 rh3 (rs.cut l u) ht'⟩
      rw [← rs.length] at z
      exact af3.go .refl rh3 (.tup ht (by rw [cut_whole _ _ _ z]; exact rs))
    · rw [decide_eq_false ql] at af3; exact af3.elim
  case ktup ws a vs ht rs =>
    dsimp only at af3
    rw [shortD, bltD, lenD, lenD] at af3
    by_cases ql : ws.length ≤ LIM ∧ (cut ws l u).length < ws.length
    · rw [decide_eq_true ql.1, decide_eq_true ql.2] at af3
      refine .inl ⟨_, _, rfl, ht.sq, fun z => ?_, fun _ t ht' => aft_tup af3 rh3 (rs.cut l u) ht'⟩
      rw [← rs.length] at z
      have := ql.2
      rw [cut_whole _ _ _ z] at this
      omega
    · have : (decide (ws.length ≤ LIM) && decide ((cut ws l u).length < ws.length)) = false := by
        rw [Bool.eq_false_iff]; intro h; rw [Bool.and_eq_true, decide_eq_true_iff, decide_eq_true_iff] at h; exact ql h
      rw [this] at af3; exact af3.elim
  case ref n a hn =>
    dsimp only at af3
    unfold Hq.seq at af3
    cases q0 : h3.get n with
    | none => rw [q0] at af3; exact af3.elim
    | some o =>
      rw [q0] at af3
      have ro := rh3.ob n o a q0 hn
      cases o <;> first | exact af3.elim | skip
      case lst ws =>
        obtain ⟨vs, e1, rs⟩ := ro
        dsimp only at af3
        rw [shortD] at af3
        by_cases ql : ws.length ≤ LIM
        · rw [decide_eq_true ql] at af3
          exact .inr (.inl ⟨_, _, rfl, .of e1, fun t ht' => aft_lst af3 rh3 (rs.cut l u) ht'⟩)
        · rw [decide_eq_false ql] at af3; exact af3.elim
      case rol ws =>
        obtain ⟨vs, e1, rs⟩ := ro
        dsimp only at af3
        rw [shortD] at af3
        by_cases ql : ws.length ≤ LIM
        · rw [decide_eq_true ql] at af3
          exact .inr (.inl ⟨_, _, rfl, e1, fun t ht' => aft_lst af3 rh3 (rs.cut l u) ht'⟩)
        · rw [decide_eq_false ql] at af3; exact af3.elim
/-! ### built-ins -/
/-- what a built-in's rule must give -/
def BiS (X : Cx) (G : G0) (r : List V → Hp → VK → Prop) (bi : Bi) : Prop := ∀ (Wx : WX) (σ : L2.St) ρ H h ws vs Q, RH (gx X G) ρ h H → RWs (gx X G) ρ H ws vs → Aft (gx X G) (RW (gx X G)) ρ H Wx σ (bi ws h) Q → r vs H Q
theorem rd_bi {r : List V → Hp → VK → Prop} {bi : Bi} (hb : BiS X G r bi) {σ : L2.St} {H : Hp} {Q : VK} (q : rd (gx X G) pn (RW (gx X G)) Wx (dB bi dl) σ H Q) : tCB r (rd (gx X G) pn (RWs (gx X G)) Wx dl) σ H Q := by
  refine (rd.bind q).imp ?_
  rintro vs H1 ⟨ρ, e, ws, h, re, rh, rx, af⟩
  exact hb Wx σ ρ H1 h ws vs Q rh rx af
theorem rw1 {g : Gc} {ρ : List Addr} {H : Hp} {ws : List W} {vs : List V} (r : RWs g ρ H ws vs) {bi : Bi} {h : Hq} {Wx : WX} {σ : L2.St} {Q : VK} (hne : ∀ ws h, (∀ w, ws ≠ [w]) → bi ws h = .bad) (af : Aft g (RW g) ρ H Wx σ (bi ws h) Q) : ∃ w v, ws = [w] ∧ vs = [v] ∧ RW g ρ H w v := by
  cases r with
  | nil => rw [hne _ _ (by simp)] at af; exact af.elim
  | cons h1 h2 =>
    cases h2 with
    | nil => exact ⟨_, _, rfl, rfl, h1⟩
    | cons h3 h4 => rw [hne _ _ (by simp)] at af; exact af.elim
/-- a list or a tuple -/
theorem lstOf_v {g : Gc} {ρ : List Addr} {h : Hq} {H : Hp} {w : W} {v : V} {l : List W} (rh : RH g ρ h H) (r : RW g ρ H w v) (e : lstOf h w = some l) : ∃ a vs, v = .ref a ∧ RWs g ρ H l vs ∧ ((w = .tup l ∧ TupAt g H a vs) ∨ ((∃ n, w = .ref n) ∧ SqL g.K H a vs)) := by
  cases r <;> first | cases e; done | skip
  case tup ws a vs ht rs =>
    simp only [lstOf, Option.some.injEq] at e
    subst e
    exact ⟨a, vs, rfl, rs, .inl ⟨rfl, ht⟩⟩
  case ref n a hn =>
    simp only [lstOf] at e
    unfold Hq.seq at e
    cases q : h.get n with
    | none => rw [q] at e; cases e
    | some o =>
      rw [q] at e
      have ro := rh.ob n o a q hn
      cases o with
      | lst ws =>
        simp only [Option.some.injEq] at e
        subst e
        obtain ⟨vs, e1, rs⟩ := ro
        exact ⟨a, vs, rfl, rs, .inr ⟨⟨n, rfl⟩, .of e1⟩⟩
      | rol ws =>
        simp only [Option.some.injEq] at e
        subst e
        obtain ⟨vs, e1, rs⟩ := ro
        exact ⟨a, vs, rfl, rs, .inr ⟨⟨n, rfl⟩, e1⟩⟩
      | dk l => cases e
      | dt l => cases e
      | st l => cases e
      | rng lo hi => cases e
theorem bLen_s : BiS X G (fun xs H Q => (∃ p ys, xs = [.ref p] ∧ (SqL X.K H p ys ∨ SqT X.K H p ys) ∧ Q (.int ys.length) H) ∨ (∃ z, xs = [.str z] ∧ z.length ≤ sizeLine ∧ Q (.int z.length) H) ∨ ∃ p kvs, xs = [.ref p] ∧ H p = some (.dK kvs) ∧ Q (.int (kvs.length : Nat)) H) bLen := by
  intro Wx σ ρ H h ws vs Q rh rs0 af
  obtain ⟨w, v, rfl, rfl, r⟩ := rw1 rs0 (fun ws h hn => by
    unfold bLen
    split <;> first | exact (hn _ rfl).elim | rfl) af
  unfold bLen at af
  cases r <;> first | exact af.elim | skip
  case str z =>
    dsimp only at af
    rw [shortD] at af
    by_cases ql : z.cps.toList.length ≤ LIM
    · rw [decide_eq_true ql] at af
      refine .inr (.inl ⟨z, rfl, lim_line ql, ?_⟩)
      exact af.go .refl rh (by rw [lenD]; exact .int _)
    · rw [decide_eq_false ql] at af; exact af.elim
  case ktup l a vs ht rs =>
    refine .inl ⟨_, _, rfl, .inr ht.sq, ?_⟩
    dsimp only at af
    rw [lenD] at af
    rw [← rs.length]
    exact af.go .refl rh (.int _)
  case tup l a vs ht rs =>
    refine .inl ⟨_, _, rfl, .inr ht.sq, ?_⟩
    rw [← rs.length]
    exact af.go .refl rh (by rw [lenD]; exact .int _)
  case ref n a hn =>
    dsimp only at af
    cases q : h.get n with
    | none => rw [q] at af; exact af.elim
    | some o =>
      rw [q] at af
      have ro := rh.ob n o a q hn
      cases o with
      | lst l =>
        obtain ⟨vs, e1, rs⟩ := ro
        refine .inl ⟨_, _, rfl, .inl (.of e1), ?_⟩
        rw [← rs.length]
        exact af.go .refl rh (by rw [lenD]; exact .int _)
      | rol l =>
        obtain ⟨vs, e1, rs⟩ := ro
        refine .inl ⟨_, _, rfl, .inl e1, ?_⟩
        rw [← rs.length]
        exact af.go .refl rh (by rw [lenD]; exact .int _)
      | dk l =>
        obtain ⟨vs, e1, rs⟩ := ro
        refine .inr (.inr ⟨a, vs, rfl, e1, ?_⟩)
        rw [← rs.length]
        exact af.go .refl rh (by rw [lenD]; exact .int _)
      | dt l => exact af.elim
      | st l => exact af.elim
      | rng lo hi => exact af.elim
theorem call_lenM : CallR X (.builtin "len") (fun xs H Q => (∃ p ys, xs = [.ref p] ∧ (SqL X.K H p ys ∨ SqT X.K H p ys) ∧ Q (.int ys.length) H) ∨ (∃ z, xs = [.str z] ∧ z.length ≤ sizeLine ∧ Q (.int z.length) H) ∨ ∃ p kvs, xs = [.ref p] ∧ H p = some (.dK kvs) ∧ Q (.int (kvs.length : Nat)) H) := by
  intro pins s σ H xs us Q I r h
  rcases h with h | h | h
  · exact call_len_seq pins s σ H xs us Q I r h
  · exact call_len_str pins s σ H xs us Q I r h
  · obtain ⟨p, kvs, rfl, e, q⟩ := h
    exact call_lenD pins s σ H _ us Q I r ⟨p, kvs, rfl, e, q⟩
theorem se_bLen (g : X.mg "len" = none) (hl : SL X G pn Wx (a :: es) dl) (hg : Gl X "len" := by rfl) (he : starEach (a :: es) X.env = (false, eval a X.env) :: starEach es X.env := by rfl) (hpl : (backTo pos (starEach es X.env)).any (·.1) = false := by rfl) :
    SE X G pn Wx (.Call (.Name "len" p) (a :: es) [] pos) (dB bLen dl) := PE.imp (pe_callB call_lenM hg g PySem.boot_len hl (by decide) (by decide) he hpl) fun σ H Q q => rd_bi bLen_s q
theorem bAbs_s : BiS X G (fun xs H Q => ∃ i, xs = [.int i] ∧ Q (.int (if i < 0 then -i else i)) H) bAbs := by
  intro Wx σ ρ H h ws vs Q rh rs0 af
  obtain ⟨w, v, rfl, rfl, r⟩ := rw1 rs0 (fun ws h hn => by unfold bAbs; split <;> first | exact (hn _ rfl).elim | rfl) af
  unfold bAbs at af
  cases r <;> first | exact af.elim | skip
  rename_i i
  refine ⟨i, rfl, af.go .refl rh ?_⟩
  rw [iLtD]
  by_cases q : i < 0
  · rw [decide_eq_true q, if_pos q]; exact .int _
  · rw [decide_eq_false q, if_neg q]; exact .int _
theorem se_bAbs (g : X.mg "abs" = none) (hl : SL X G pn Wx (a :: es) dl) (hg : Gl X "abs" := by rfl) (he : starEach (a :: es) X.env = (false, eval a X.env) :: starEach es X.env := by rfl) (hpl : (backTo pos (starEach es X.env)).any (·.1) = false := by rfl) :
    SE X G pn Wx (.Call (.Name "abs" p) (a :: es) [] pos) (dB bAbs dl) := PE.imp (pe_callB call_abs hg g PyProof.Rows.boot_abs hl (by decide) (by decide) he hpl) fun σ H Q q => rd_bi bAbs_s q
theorem rw2 {g : Gc} {ρ : List Addr} {H : Hp} {ws : List W} {vs : List V} (r : RWs g ρ H ws vs) {bi : Bi} {h : Hq} {Wx : WX} {σ : L2.St} {Q : VK} (hne : ∀ ws h, (∀ w w', ws ≠ [w, w']) → bi ws h = .bad) (af : Aft g (RW g) ρ H Wx σ (bi ws h) Q) : ∃ w w' v v', ws = [w, w'] ∧ vs = [v, v'] ∧ RW g ρ H w v ∧ RW g ρ H w' v' := by
  cases r with
  | nil => rw [hne _ _ (by simp)] at af; exact af.elim
  | cons h1 h2 =>
    cases h2 with
    | nil => rw [hne _ _ (by simp)] at af; exact af.elim
    | cons h3 h4 =>
      cases h4 with
      | nil => exact ⟨_, _, _, _, rfl, rfl, h1, h3⟩
      | cons h5 h6 => rw [hne _ _ (by simp)] at af; exact af.elim
theorem bMin_s : BiS X G (fun xs H Q => ∃ i j, xs = [.int i, .int j] ∧ Q (.int (if j < i then j else i)) H) bMin := by
  intro Wx σ ρ H h ws vs Q rh rs0 af
  obtain ⟨w, w', v, v', rfl, rfl, r, r'⟩ := rw2 rs0 (fun ws h hn => by unfold bMin; split <;> first | exact (hn _ _ rfl).elim | rfl) af
  unfold bMin at af
  cases r <;> first | exact af.elim | skip
  rename_i i
  cases r' <;> first | exact af.elim | skip
  rename_i j
  refine ⟨i, j, rfl, af.go .refl rh ?_⟩
  rw [iLtD]
  by_cases q : j < i
  · rw [decide_eq_true q, if_pos q]; exact .int _
  · rw [decide_eq_false q, if_neg q]; exact .int _
theorem se_bMin (C : Cs X Wx) (g : X.mg "min" = none) (hl : SL X G pn Wx (a :: es) dl) (hg : Gl X "min" := by rfl) (he : starEach (a :: es) X.env = (false, eval a X.env) :: starEach es X.env := by rfl) (hpl : (backTo pos (starEach es X.env)).any (·.1) = false := by rfl) :
    SE X G pn Wx (.Call (.Name "min" p) (a :: es) [] pos) (dB bMin dl) := PE.imp (pe_callB (call_min2 C.calm) hg g PyProof.Rows.boot_min hl (by decide) (by decide) he hpl) fun σ H Q q => rd_bi bMin_s q
theorem bMax_s : BiS X G (fun xs H Q => ∃ i j, xs = [.int i, .int j] ∧ Q (.int (if j > i then j else i)) H) bMax := by
  intro Wx σ ρ H h ws vs Q rh rs0 af
  obtain ⟨w, w', v, v', rfl, rfl, r, r'⟩ := rw2 rs0 (fun ws h hn => by unfold bMax; split <;> first | exact (hn _ _ rfl).elim | rfl) af
  unfold bMax at af
  cases r <;> first | exact af.elim | skip
  rename_i i
  cases r' <;> first | exact af.elim | skip
  rename_i j
  refine ⟨i, j, rfl, af.go .refl rh ?_⟩
  rw [iLtD]
  by_cases q : i < j
  · rw [decide_eq_true q, if_pos q]; exact .int _
  · rw [decide_eq_false q, if_neg q]; exact .int _
theorem se_bMax (C : Cs X Wx) (g : X.mg "max" = none) (hl : SL X G pn Wx (a :: es) dl) (hg : Gl X "max" := by rfl) (he : starEach (a :: es) X.env = (false, eval a X.env) :: starEach es X.env := by rfl) (hpl : (backTo pos (starEach es X.env)).any (·.1) = false := by rfl) :
    SE X G pn Wx (.Call (.Name "max" p) (a :: es) [] pos) (dB bMax dl) := PE.imp (pe_callB (call_max2 C.calm) hg g PyProof.Rows.boot_max hl (by decide) (by decide) he hpl) fun σ H Q q => rd_bi bMax_s q
theorem bInt_s : BiS X G (fun xs H Q => (∃ i, xs = [.int i] ∧ Q (.int i) H) ∨ ∃ k, xs = [.bl k] ∧ Q (.int (if k then 1 else 0)) H) bInt := by
  intro Wx σ ρ H h ws vs Q rh rs0 af
  obtain ⟨w, v, rfl, rfl, r⟩ := rw1 rs0 (fun ws h hn => by unfold bInt; split <;> first | exact (hn _ rfl).elim | rfl) af
  unfold bInt at af
  cases r <;> first | exact af.elim | skip
  case int i => exact .inl ⟨i, rfl, af.go .refl rh (.int _)⟩
  case bl k => exact .inr ⟨k, rfl, af.go .refl rh (by rw [b2iD]; exact .int _)⟩
theorem se_bInt (g : X.mg "int" = none) (hl : SL X G pn Wx (a :: es) dl) (hg : Gl X "int" := by rfl) (he : starEach (a :: es) X.env = (false, eval a X.env) :: starEach es X.env := by rfl) (hpl : (backTo pos (starEach es X.env)).any (·.1) = false := by rfl) :
    SE X G pn Wx (.Call (.Name "int" p) (a :: es) [] pos) (dB bInt dl) := PE.imp (pe_callTy call_int1 hg g PyProof.Rows.boot_int hl (by decide) (by decide) he hpl) fun σ H Q q => rd_bi bInt_s q
theorem bList_s : BiS X G (fun xs H Q => ∃ p ys, xs = [.ref p] ∧ (SqL X.K H p ys ∨ SqT X.K H p ys) ∧ ∀ l, H l = none → Q (.ref l) (upd H l (.lst ys))) bList := by
  intro Wx σ ρ H h ws vs Q rh rs0 af
  obtain ⟨w, v, rfl, rfl, r⟩ := rw1 rs0 (fun ws h hn => by unfold bList; split <;> first | exact (hn _ rfl).elim | rfl) af
  unfold bList at af
  cases r <;> first | exact af.elim | skip
  case tup l a vs ht rs => exact ⟨a, vs, rfl, .inr ht.sq, fun t ht' => aft_lst af rh rs ht'⟩
  case ref n a hn =>
    dsimp only at af
    cases q : h.seq n with
    | none => rw [q] at af; exact af.elim
    | some l =>
      rw [q] at af
      obtain ⟨a', vs, e1, rs, h2⟩ := lstOf_v (w := .ref n) rh (.ref hn) q
      cases e1
      rcases h2 with ⟨z, _⟩ | ⟨_, h2⟩
      · cases z
      · exact ⟨a, vs, rfl, .inl h2, fun t ht' => aft_lst af rh rs ht'⟩
theorem se_bList (g : X.mg "list" = none) (hl : SL X G pn Wx (a :: es) dl) (hg : Gl X "list" := by rfl) (he : starEach (a :: es) X.env = (false, eval a X.env) :: starEach es X.env := by rfl) (hpl : (backTo pos (starEach es X.env)).any (·.1) = false := by rfl) :
    SE X G pn Wx (.Call (.Name "list" p) (a :: es) [] pos) (dB bList dl) := PE.imp (pe_callTy call_list_of hg g PyProof.Rows.boot_list hl (by decide) (by decide) he hpl) fun σ H Q q => rd_bi bList_s q
theorem bTup_s : BiS X G (fun xs H Q => ∃ p ys, xs = [.ref p] ∧ ((SqL X.K H p ys ∧ ∀ l, H l = none → Q (.ref l) (upd H l (.tup ys))) ∨ (SqT X.K H p ys ∧ Q (.ref p) H))) bTup := by
  intro Wx σ ρ H h ws vs Q rh rs0 af
  obtain ⟨w, v, rfl, rfl, r⟩ := rw1 rs0 (fun ws h hn => by unfold bTup; split <;> first | exact (hn _ rfl).elim | rfl) af
  unfold bTup at af
  cases r <;> first | exact af.elim | skip
  case tup l a vs ht rs => exact ⟨a, vs, rfl, .inr ⟨ht.sq, af.go .refl rh (.tup ht rs)⟩⟩
  case ref n a hn =>
    dsimp only at af
    cases q : h.seq n with
    | none => rw [q] at af; exact af.elim
    | some l =>
      rw [q] at af
      obtain ⟨a', vs, e1, rs, h2⟩ := lstOf_v (w := .ref n) rh (.ref hn) q
      cases e1
      rcases h2 with ⟨z, _⟩ | ⟨_, h2⟩
      · cases z
      · exact ⟨a, vs, rfl, .inl ⟨h2, fun t ht' => aft_tup af rh rs ht'⟩⟩
theorem se_bTup (g : X.mg "tuple" = none) (hl : SL X G pn Wx (a :: es) dl) (hg : Gl X "tuple" := by rfl) (he : starEach (a :: es) X.env = (false, eval a X.env) :: starEach es X.env := by rfl) (hpl : (backTo pos (starEach es X.env)).any (·.1) = false := by rfl) :
    SE X G pn Wx (.Call (.Name "tuple" p) (a :: es) [] pos) (dB bTup dl) := PE.imp (pe_callTy call_tuple_of hg g PyProof.Rows.boot_tuple hl (by decide) (by decide) he hpl) fun σ H Q q => rd_bi bTup_s q
/-! sorted of a list of ints -/
theorem mpI_D (l : List Int) : mpI l = l.map W.int := by
  induction l with
  | nil => rfl
  | cons i r ih => show W.int i :: mpI r = _; rw [ih]; rfl
theorem insI_perm (x : Int) : ∀ l, (insI x l).Perm (x :: l)
  | [] => .refl _
  | y :: r => by
    unfold insI
    cases iLt x y with
    | true => exact .refl _
    | false => exact ((insI_perm x r).cons y).trans (.swap x y r)
theorem insI_sorted (x : Int) : ∀ l, l.Pairwise (· ≤ ·) → (insI x l).Pairwise (· ≤ ·)
  | [], _ => by simp [insI]
  | y :: r, h => by
    unfold insI
    rw [iLtD]
    have h1 := List.pairwise_cons.mp h
    by_cases q : x < y
    · rw [decide_eq_true q]
      refine List.pairwise_cons.mpr ⟨fun z hz => ?_, h⟩
      rcases List.mem_cons.mp hz with e | hz
      · rw [e]; omega
      · have := h1.1 z hz; omega
    · rw [decide_eq_false q]
      refine List.pairwise_cons.mpr ⟨fun z hz => ?_, insI_sorted x r h1.2⟩
      rcases List.mem_cons.mp ((insI_perm x r).mem_iff.mp hz) with e | hz
      · rw [e]; omega
      · exact h1.1 z hz
theorem srtI_perm : ∀ l a, (srtI l a).Perm (l ++ a)
  | [], a => .refl _
  | x :: r, a => by
    show (srtI r (insI x a)).Perm _
    refine (srtI_perm r (insI x a)).trans ?_
    refine ((insI_perm x a).append_left r).trans ?_
    exact List.perm_middle
theorem srtI_sorted : ∀ l a, a.Pairwise (· ≤ ·) → (srtI l a).Pairwise (· ≤ ·)
  | [], a, h => h
  | x :: r, a, h => srtI_sorted r _ (insI_sorted x a h)
theorem sorted_one {l r : List Int} (h1 : l.Perm r) (h2 : l.Pairwise (· ≤ ·)) (h3 : r.Pairwise (· ≤ ·)) : l = r :=
  h1.eq_of_pairwise (fun a b _ _ x y => Int.le_antisymm x y) h2 h3
theorem bSrt_s : BiS X G (fun xs H Q => rSortedI X.K xs H Q ∨ rSortedIT X.K xs H Q) bSrt := by
  intro Wx σ ρ H h ws vs Q rh rs0 af
  obtain ⟨w, v, rfl, rfl, r⟩ := rw1 rs0 (fun ws h hn => by unfold bSrt; split <;> first | exact (hn _ rfl).elim | rfl) af
  unfold bSrt at af
  dsimp only at af
  cases q : lstOf h w with
  | none => rw [q] at af; exact af.elim
  | some l =>
    rw [q] at af
    dsimp only at af
    rw [bleD, lenD] at af
    by_cases ql : l.length ≤ 60
    · rw [decide_eq_true ql] at af
      dsimp only at af
      cases q2 : intsO l with
      | none => rw [q2] at af; exact af.elim
      | some ns =>
        rw [q2] at af
        dsimp only at af
        obtain ⟨a, vs, e1, rs, h2⟩ := lstOf_v rh r q
        obtain ⟨z1, z2⟩ := intsO_vs rs q2
        subst z1 z2 e1
        have fin : ∀ (ns' : List Int) (p : Addr), ns'.Perm ns → ns'.Pairwise (· ≤ ·) → H p = none → Q (.ref p) (upd H p (.lst (ns'.map V.int))) := fun ns' p hp hs hn => by
          have e : ns' = srtI ns [] := sorted_one (hp.trans (by have := srtI_perm ns []; rw [List.append_nil] at this; exact this.symm)) hs (srtI_sorted ns [] .nil)
          rw [e]
          rw [mpI_D] at af
          refine aft_lst af rh ?_ hn
          generalize srtI ns [] = l
          clear af q q2 rs h2 e hs hp ql
          induction l with
          | nil => exact .nil
          | cons i r ih => exact .cons (.int i) ih
        rcases h2 with ⟨_, h2⟩ | ⟨_, h2⟩
        · exact .inr ⟨a, ns, rfl, h2.sq, fin⟩
        · exact .inl ⟨a, ns, rfl, h2, fin⟩
    · rw [decide_eq_false ql] at af; exact af.elim
theorem se_bSrt (g : X.mg "sorted" = none) (hl : SL X G pn Wx (a :: es) dl) (hg : Gl X "sorted" := by rfl) (he : starEach (a :: es) X.env = (false, eval a X.env) :: starEach es X.env := by rfl) (hpl : (backTo pos (starEach es X.env)).any (·.1) = false := by rfl) :
    SE X G pn Wx (.Call (.Name "sorted" p) (a :: es) [] pos) (dB bSrt dl) := PE.imp (pe_callB (cr_sortedI.or cr_sortedIT) hg g PyProof.Rows.boot_sorted hl (by decide) (by decide) he hpl) fun σ H Q q => rd_bi bSrt_s q
/-! all of a list of bools -/
theorem allB_v {g : Gc} {ρ : List Addr} {H : Hp} : ∀ {l : List W} {vs : List V} {b : Bool}, RWs g ρ H l vs → allB l = some b → ∃ bs : List Bool, vs = bs.map V.bl ∧ bs.all id = b
  | _, _, b, .nil, e => by simp only [allB, Option.some.injEq] at e; subst e; exact ⟨[], rfl, rfl⟩
  | w :: l, _, b, .cons h r, e => by
    unfold allB at e
    cases h <;> first | cases e; done | skip
    rename_i k
    dsimp only at e
    cases q : allB l with
    | none => rw [q] at e; cases e
    | some c =>
      rw [q] at e
      simp only [Option.some.injEq] at e
      obtain ⟨bs, h1, h2⟩ := allB_v r q
      exact ⟨k :: bs, by rw [h1]; rfl, by rw [List.all_cons, h2]; exact e⟩
theorem bAll_s : BiS X G (rAll X.K) bAll := by
  intro Wx σ ρ H h ws vs Q rh rs0 af
  obtain ⟨w, v, rfl, rfl, r⟩ := rw1 rs0 (fun ws h hn => by unfold bAll; split <;> first | exact (hn _ rfl).elim | rfl) af
  unfold bAll at af
  cases r <;> first | exact af.elim | skip
  case ref n a hn =>
    dsimp only at af
    cases q : h.seq n with
    | none => rw [q] at af; exact af.elim
    | some l =>
      rw [q] at af
      obtain ⟨a', vs, e1, rs, h2⟩ := lstOf_v (w := .ref n) rh (.ref hn) q
      cases e1
      dsimp only at af
      cases q3 : allB l with
      | none => rw [q3] at af; exact af.elim
      | some b =>
        rw [q3] at af
        obtain ⟨bs, h4, h5⟩ := allB_v rs q3
        subst h4
        rcases h2 with ⟨z, _⟩ | ⟨_, h2⟩
        · cases z
        · exact ⟨a, bs, rfl, h2, by rw [h5]; exact af.go .refl rh (.bl _)⟩
theorem se_bAll (C : Cs X Wx) (g : X.mg "all" = none) (hl : SL X G pn Wx (a :: es) dl) (hg : Gl X "all" := by rfl) (he : starEach (a :: es) X.env = (false, eval a X.env) :: starEach es X.env := by rfl) (hpl : (backTo pos (starEach es X.env)).any (·.1) = false := by rfl) :
    SE X G pn Wx (.Call (.Name "all" p) (a :: es) [] pos) (dB bAll dl) := PE.imp (pe_callB (cr_all C.calm) hg g PyProof.Rows.boot_all hl (by decide) (by decide) he hpl) fun σ H Q q => rd_bi bAll_s q
end
end PW

set_option Elab.async false
set_option linter.all false
set_option maxRecDepth 100000
set_option maxHeartbeats 1000000
/-! PW8: what is walked, targets, for, while, statements. -/
namespace PW
open PySem PySem.Spec PyProof.Rows L2
/-! ### sources -/
def SrcR (g : Gc) (ρ : List Addr) (H : Hp) (s : Src) (J : It) : Prop := ∀ ρ' H' h' (i : Nat), ExtW ρ H ρ' H' → RH g ρ' h' H' → match next s i h' with
  | some (some w) => J.go i H' ∧ ∀ x H'', J.yld i H' x H'' → Ext ρ' H' ρ' H'' ∧ RH g ρ' h' H'' ∧ RW g ρ' H'' w x
  | some none => J.stop i H'
  | none => True
theorem SrcR.ext {g : Gc} {ρ ρ' : List Addr} {H H' : Hp} {s : Src} {J : It} (x : Ext ρ H ρ' H') (h : SrcR g ρ H s J) : SrcR g ρ' H' s J := fun ρ2 H2 h2 i y => h ρ2 H2 h2 i (x.w.trans y)
section
variable {g : Gc} {ρ : List Addr} {H : Hp} {h : Hq}
theorem RWs.at_none {l : List W} {vs : List V} (r : RWs g ρ H l vs) {i : Nat} (e : l[i]? = none) : vs.length ≤ i := by
  rw [← r.length]; exact List.getElem?_eq_none_iff.mp e
/-- a tuple, known or not -/
def TupA (g : Gc) (H : Hp) (a : Addr) (vs : List V) : Prop := TupAt g H a vs ∨ KTup g.K H a vs
theorem TupA.sq {a : Addr} {vs : List V} (h : TupA g H a vs) : SqT g.K H a vs := by
  rcases h with h | h
  · exact h.sq
  · exact h.sq
theorem TupA.extw {H' : Hp} {ρ ρ' : List Addr} {a : Addr} {vs : List V} (h : TupA g H a vs) (x : ExtW ρ H ρ' H') : TupA g H' a vs := by
  rcases h with h | h
  · exact .inl (x.tups _ _ rfl h)
  · exact .inr (h.ext x.tups)
theorem src_tup {l : List W} {a : Addr} {vs : List V} (ht : TupA g H a vs) (rs : RWs g ρ H l vs) : SrcR g ρ H (.tup l) (Itt g.K a) := by
  intro ρ' H' h' i x rh
  have ht' : SqT g.K H' a vs := (ht.extw x).sq
  have rs' := rs.extw x
  unfold next
  rw [nthD]
  cases q : l[i]? with
  | none => exact ⟨vs, ht', rs'.at_none q⟩
  | some w =>
    obtain ⟨v, e1, r1⟩ := rs'.get q
    refine ⟨⟨vs, v, ht', e1⟩, fun y H'' ⟨z1, z2⟩ => ?_⟩
    subst z1
    have := z2 vs ht'
    rw [e1] at this
    cases this
    exact ⟨.refl, rh, r1⟩
theorem seq_at (rh : RH g ρ h H) {n : Nat} {a : Addr} {l : List W} (hn : ρ[n]? = some a) (e : h.seq n = some l) : ∃ vs, SqL g.K H a vs ∧ RWs g ρ H l vs := by
  obtain ⟨a', vs, e1, rs, h2⟩ := lstOf_v (w := .ref n) rh (.ref hn) e
  cases e1
  rcases h2 with ⟨z, _⟩ | ⟨_, h2⟩
  · cases z
  · exact ⟨vs, h2, rs⟩
theorem src_lst {n : Nat} {a : Addr} (hn : ρ[n]? = some a) : SrcR g ρ H (.lst n) (Itl g.K a) := by
  intro ρ' H' h' i x rh
  unfold next
  cases q : h'.seq n with
  | none => trivial
  | some l =>
    dsimp only
    obtain ⟨vs, hs, rs⟩ := seq_at rh (x.at hn) q
    rw [nthD]
    cases q2 : l[i]? with
    | none => exact ⟨vs, hs, rs.at_none q2⟩
    | some w =>
      obtain ⟨v, e1, r1⟩ := rs.get q2
      refine ⟨⟨vs, v, hs, e1⟩, fun y H'' ⟨z1, z2⟩ => ?_⟩
      subst z1
      have := z2 vs hs
      rw [e1] at this
      cases this
      exact ⟨.refl, rh, r1⟩
theorem src_rng {lo : Int} {c : Nat} : SrcR g ρ H (.rng lo c) (Itr lo c) := by
  intro ρ' H' h' i x rh
  unfold next
  rw [bltD]
  by_cases q : i < c
  · rw [decide_eq_true q]
    refine ⟨q, fun y H'' ⟨z1, z2⟩ => ?_⟩
    subst z1 z2
    exact ⟨.refl, rh, .int _⟩
  · rw [decide_eq_false q]
    show c ≤ i
    omega
theorem src_str {z : Str} : SrcR g ρ H (.str z.cps.toList) (Its z) := by
  intro ρ' H' h' i x rh
  have wk := walk_str (z := z)
  unfold next
  rw [nthD]
  have hsz : z.cps.toList.length = z.cps.size := by simp
  cases q : z.cps.toList[i]? with
  | none =>
    have h1 := List.getElem?_eq_none_iff.mp q
    show z.cps.size ≤ i
    omega
  | some c =>
    have h1 := (List.getElem?_eq_some_iff.mp q).1
    have hi : i < z.cps.size := by omega
    refine ⟨wk.goes i H' hi trivial, fun y H'' hy => ?_⟩
    obtain ⟨z1, c', z2, z3⟩ := wk.yields i H' y H'' hi trivial hy
    subst z1 z3
    have : c' = c := by
      have q' : z.cps[i]? = some c := by rw [← Array.getElem?_toList]; exact q
      rw [z2] at q'; exact Option.some.inj q'
    subst this
    exact ⟨.refl, rh, .str _⟩
theorem pair_new {T : Addr} {w w' : W} {x x' : V} (rh : RH g ρ h H) (hT : H T = none) (r : RW g ρ H w x) (r' : RW g ρ H w' x') :
    Ext ρ H ρ (upd H T (.tup [x, x'])) ∧ RH g ρ h (upd H T (.tup [x, x'])) ∧ RW g ρ (upd H T (.tup [x, x'])) (.tup [w, w']) (.ref T) :=
  ⟨.new hT, rh.new hT, .tup upd_same (.cons (r.ext (.new hT)) (.cons (r'.ext (.new hT)) .nil))⟩
theorem src_zipT {l r : List W} {a b : Addr} {vs ws : List V} (ht : TupA g H a vs) (rs : RWs g ρ H l vs) (hu : TupA g H b ws) (rs2 : RWs g ρ H r ws) : SrcR g ρ H (.zip (.tup l) (.tup r)) (RZ.ItzT g.K a b) := by
  intro ρ' H' h' i x rh
  have ht' : SqT g.K H' a vs := (ht.extw x).sq
  have hu' : SqT g.K H' b ws := (hu.extw x).sq
  have rs' := rs.extw x
  have rs2' := rs2.extw x
  simp only [next, nthD]
  cases q : l[i]? with
  | none => exact ⟨vs, ws, ht', hu', .inl (rs'.at_none q)⟩
  | some w =>
    cases q2 : r[i]? with
    | none => exact ⟨vs, ws, ht', hu', .inr (rs2'.at_none q2)⟩
    | some w' =>
      obtain ⟨v, e1, r1⟩ := rs'.get q
      obtain ⟨v', e2, r2⟩ := rs2'.get q2
      refine ⟨⟨vs, ws, v, v', ht', hu', e1, e2⟩, fun y H'' ⟨T, y1, y2, z1, z2, z3, z4, z5⟩ => ?_⟩
      subst z1 z3
      have k1 := z4 vs ht'
      rw [e1] at k1
      cases k1
      have k2 := z5 ws hu'
      rw [e2] at k2
      cases k2
      exact pair_new rh z2 r1 r2
theorem src_zipL {n m : Nat} {a b : Addr} (hn : ρ[n]? = some a) (hm : ρ[m]? = some b) : SrcR g ρ H (.zip (.lst n) (.lst m)) (Itz g.K a b) := by
  intro ρ' H' h' i x rh
  simp only [next]
  cases q : h'.seq n with
  | none => trivial
  | some l =>
    obtain ⟨vs, hs, rs⟩ := seq_at rh (x.at hn) q
    dsimp only
    rw [nthD]
    cases q0 : h'.seq m with
    | none => trivial
    | some r =>
      obtain ⟨ws, hs2, rs2⟩ := seq_at rh (x.at hm) q0
      dsimp only
      rw [nthD]
      cases q1 : l[i]? with
      | none => exact ⟨vs, ws, hs, hs2, .inl (rs.at_none q1)⟩
      | some w =>
        cases q2 : r[i]? with
        | none => exact ⟨vs, ws, hs, hs2, .inr (rs2.at_none q2)⟩
        | some w' =>
          obtain ⟨v, e1, r1⟩ := rs.get q1
          obtain ⟨v', e2, r2⟩ := rs2.get q2
          refine ⟨⟨vs, ws, v, v', hs, hs2, e1, e2⟩, fun y H'' ⟨T, y1, y2, z1, z2, z3, z4, z5⟩ => ?_⟩
          subst z1 z3
          have k1 := z4 vs hs
          rw [e1] at k1
          cases k1
          have k2 := z5 ws hs2
          rw [e2] at k2
          cases k2
          exact pair_new rh z2 r1 r2
theorem src_enmL {n : Nat} {a : Addr} (hn : ρ[n]? = some a) : SrcR g ρ H (.enm (.lst n)) (Ite g.K a) := by
  intro ρ' H' h' i x rh
  simp only [next]
  cases q : h'.seq n with
  | none => trivial
  | some l =>
    obtain ⟨vs, hs, rs⟩ := seq_at rh (x.at hn) q
    dsimp only
    rw [nthD]
    cases q1 : l[i]? with
    | none => exact ⟨vs, hs, rs.at_none q1⟩
    | some w =>
      obtain ⟨v, e1, r1⟩ := rs.get q1
      refine ⟨⟨vs, v, hs, e1⟩, fun y H'' ⟨T, y1, z1, z2, z3, z4⟩ => ?_⟩
      subst z1 z3
      have k1 := z4 vs hs
      rw [e1] at k1
      cases k1
      exact pair_new rh z2 (.int _) r1
end
def SI (X : Cx) (G : G0) (pn : List PinT) (Wx : WX) (tg iter : Expr) (d : DI) : Prop := PI X tg iter (rd (gx X G) pn (SrcR (gx X G)) Wx d)
theorem PI.imp {X : Cx} {tg e : Expr} {t t' : TI} (h : PI X tg e t) (i : ∀ σ H Q, t' σ H Q → t σ H Q) : PI X tg e t' := ⟨fun pins s σ H Q I q => h.run pins s σ H Q I (i σ H Q q)⟩
section
variable {X : Cx} {G : G0} {pn : List PinT} {Wx : WX} {pos p tpos : Pos} {tg a b : Expr} {da db : D} {elts : List Expr} {kk : Nat}
/-- a list, a tuple, a text -/
def iAny (K : PySem.W.Frag) (te : TE) : TI := fun σ H R => te σ H fun x H1 => (∃ a xs, x = .ref a ∧ SqL K H1 a xs ∧ R (Itl K a) H1) ∨ (∃ a xs, x = .ref a ∧ SqT K H1 a xs ∧ R (Itt K a) H1) ∨ (∃ z, x = .str z ∧ R (Its z) H1) ∨ ∃ a lo hi, x = .ref a ∧ H1 a = some (.rng lo hi) ∧ (-(2 ^ 62) ≤ lo ∧ lo < 2 ^ 62 ∧ -(2 ^ 62) ≤ hi ∧ hi < 2 ^ 62) ∧ R (Itr lo (hi - lo).toNat) H1
theorem pi_any {te : TE} (he : PE X a te) : PI X tg a (iAny X.K te) := by
  refine ⟨fun pins s σ H R I h => ?_⟩
  refine thn (he.run pins s σ H _ I h) fun v s1 ⟨x, H1, I1, r1, q1⟩ => ?_
  rcases q1 with ⟨a, xs, e, hq, q⟩ | ⟨a, xs, e, hq, q⟩ | ⟨z, e, q⟩ | ⟨a, lo, hi, e, hq, ⟨b1, b2, b3, b4⟩, q⟩
  · subst e
    cases r1
    obtain ⟨its, rv, p, hz⟩ := I1.list hq
    refine wpAny_pyIter_list p.isList ?_
    refine ⟨s1.heap.objs.size, [s1.heap.objs.size], _, _, H1, rfl, I1.kept (t' := s1.toks) fun b o e => Heap.get?_push_of_some _ e, turn_list a _, ⟨_, Heap.get?_push_size _ rfl, rfl, rfl⟩, fun b hb => ?_, q⟩
    have e : b = s1.heap.objs.size := by simpa using hb
    subst e
    exact I1.fpOk (Nat.le_refl _) (I1.hok.fresh (Nat.le_refl _))
  · subst e
    cases r1
    obtain ⟨its, rv, p, hz⟩ := I1.tuple hq
    refine wpAny_pyIter_tuple (show s1.heap.IsTuple a its.toArray from p) ?_
    refine ⟨s1.heap.objs.size, [s1.heap.objs.size], _, _, H1, rfl, I1.kept (t' := s1.toks) fun b o e => Heap.get?_push_of_some _ e, turn_tuple a _, ⟨_, Heap.get?_push_size _ rfl, rfl, rfl⟩, fun b hb => ?_, q⟩
    have e : b = s1.heap.objs.size := by simpa using hb
    subst e
    exact I1.fpOk (Nat.le_refl _) (I1.hok.fresh (Nat.le_refl _))
  · subst e
    obtain ⟨t, rfl⟩ := r1
    cases ha : z.cps.all (· < 128)
    · exact wpAny_pyIter_wide ha (pi_one (tk := s1.toks) I1 _ (turn_str _ z t "str_iterator" (.inr rfl)) ⟨_, Heap.get?_push_size _ rfl, rfl, rfl⟩ q)
    · exact wpAny_pyIter_ascii ha (pi_one (tk := s1.toks) I1 _ (turn_str _ z t "str_ascii_iterator" (.inl rfl)) ⟨_, Heap.get?_push_size _ rfl, rfl, rfl⟩ q)
  · subst e
    cases r1
    obtain ⟨t, u, v, ho⟩ := I1.hok a _ hq
    refine wpAny_pyIter_range (show IsRange s1.heap a lo hi 1 t u v from ho) (small_one b1 b2 b3 b4) ?_
    refine ⟨s1.heap.objs.size, [s1.heap.objs.size], _, _, H1, rfl, I1.kept (t' := s1.toks) fun b o e => Heap.get?_push_of_some _ e, turn_range _ lo (hi - lo).toNat, ?_, fun b hb => ?_, q⟩
    · have e1 : lo + ((0 : Nat) : Int) * 1 = lo := by simp
      have e2 : (((hi - lo).toNat : Nat) : Int) - ((0 : Nat) : Int) = Builtin.Range.rangeSize lo hi 1 := by rw [rangeSize_one]; split <;> omega
      show IsRangeIter _ _ (lo + ((0 : Nat) : Int) * 1) ((((hi - lo).toNat : Nat) : Int) - ((0 : Nat) : Int)) 1
      rw [e1, e2]
      exact Heap.get?_push_size _ rfl
    · have e : b = s1.heap.objs.size := by simpa using hb
      subst e
      exact I1.fpOk (Nat.le_refl _) (I1.hok.fresh (Nat.le_refl _))
theorem si_val (ha : SE X G pn Wx a da) : SI X G pn Wx tg a (iVal da) := PI.imp (pi_any ha) fun σ H R q => by
  refine (rd.bind q).imp ?_
  rintro x H1 ⟨ρ, e, wx, h, re, rh, rx, af⟩
  cases rx <;> first | exact af.elim | skip
  case str z =>
    simp only [srcOf, shortD] at af
    by_cases ql : z.cps.toList.length ≤ LIM
    · rw [decide_eq_true ql] at af
      exact .inr (.inr (.inl ⟨z, rfl, af.go .refl rh src_str⟩))
    · rw [decide_eq_false ql] at af; exact af.elim
  case tup l a vs ht rs => exact .inr (.inl ⟨_, _, rfl, ht.sq, Aft.go (rel := SrcR (gx X G)) af .refl rh (src_tup (.inl ht) rs)⟩)
  case ktup l a vs ht rs => exact .inr (.inl ⟨_, _, rfl, ht.sq, Aft.go (rel := SrcR (gx X G)) af .refl rh (src_tup (.inr ht) rs)⟩)
  case ref n a hn =>
    simp only [srcOf] at af
    cases q : h.seq n with
    | none =>
      rw [q] at af
      dsimp only at af
      cases q2 : h.get n with
      | none => rw [q2] at af; exact False.elim af
      | some o =>
        rw [q2] at af
        have ro := rh.ob n o a q2 hn
        cases o <;> first | exact False.elim af | skip
        rename_i lo hi
        dsimp only at af
        rw [iLtD, iLtD, iLtD, iLtD] at af
        by_cases ql : (-1000000000 < lo ∧ lo < 1000000000) ∧ -1000000000 < hi ∧ hi < 1000000000
        · rw [decide_eq_true ql.1.1, decide_eq_true ql.1.2, decide_eq_true ql.2.1, decide_eq_true ql.2.2] at af
          exact .inr (.inr (.inr ⟨a, lo, hi, rfl, ro, ⟨by omega, by omega, by omega, by omega⟩, Aft.go (rel := SrcR (gx X G)) af .refl rh src_rng⟩))
        · have : (decide (-1000000000 < lo) && decide (lo < 1000000000) && (decide (-1000000000 < hi) && decide (hi < 1000000000))) = false := by
            rw [Bool.eq_false_iff]; intro h; rw [Bool.and_eq_true, Bool.and_eq_true, Bool.and_eq_true, decide_eq_true_iff, decide_eq_true_iff, decide_eq_true_iff, decide_eq_true_iff] at h; exact ql h
          rw [this] at af; exact False.elim af
    | some l =>
      rw [q] at af
      obtain ⟨vs, hs, rs⟩ := seq_at rh hn q
      exact .inl ⟨a, vs, rfl, hs, Aft.go (rel := SrcR (gx X G)) af .refl rh (src_lst hn)⟩
theorem rd_l1 {γ : Type} {δ : Type} {rel2 : List Addr → Hp → γ → δ → Prop} {k : W → Hq → Rs γ} {σ : L2.St} {H : Hp} {Q : δ → Hp → Prop} (q : rd (gx X G) pn rel2 Wx (fun e h => (da e h).bind fun x h1 => k x h1) σ H Q) :
    rd (gx X G) pn (RWs (gx X G)) Wx (lCons da lNil) σ H fun vs H1 => ∃ v ρ e wx h, vs = [v] ∧ RE (gx X G) pn ρ H1 e σ ∧ RH (gx X G) ρ h H1 ∧ RW (gx X G) ρ H1 wx v ∧ Aft (gx X G) rel2 ρ H1 Wx σ (k wx h) Q := by
  obtain ⟨ρ, e, h, re, rh, a⟩ := q
  refine ⟨ρ, e, h, re, rh, ?_⟩
  show Aft (gx X G) (RWs (gx X G)) ρ H Wx σ ((da e h).bind fun x h1 => .ok [x] h1) _
  have a : Aft (gx X G) rel2 ρ H Wx σ ((da e h).bind fun x h1 => k x h1) Q := a
  cases qd : da e h with
  | bad => rw [qd] at a; exact a
  | ex z h1 => rw [qd] at a; exact a
  | ok wx h1 =>
    rw [qd] at a
    intro ρ' H' b x rh' rb
    cases rb with
    | cons r1 r2 =>
      cases r2
      exact ⟨_, ρ', e, wx, h1, rfl, re.ext x, rh', r1, Aft.ext x a⟩
theorem rd_l2 {γ : Type} {δ : Type} {rel2 : List Addr → Hp → γ → δ → Prop} {k : W → W → Hq → Rs γ} {σ : L2.St} {H : Hp} {Q : δ → Hp → Prop} (q : rd (gx X G) pn rel2 Wx (fun e h => (da e h).bind fun x h1 => (db e h1).bind fun y h2 => k x y h2) σ H Q) :
    rd (gx X G) pn (RWs (gx X G)) Wx (lCons da (lCons db lNil)) σ H fun vs H1 => ∃ v v' ρ e wx wy h, vs = [v, v'] ∧ RE (gx X G) pn ρ H1 e σ ∧ RH (gx X G) ρ h H1 ∧ RW (gx X G) ρ H1 wx v ∧ RW (gx X G) ρ H1 wy v' ∧ Aft (gx X G) rel2 ρ H1 Wx σ (k wx wy h) Q := by
  obtain ⟨ρ, e, h, re, rh, a⟩ := q
  refine ⟨ρ, e, h, re, rh, ?_⟩
  show Aft (gx X G) (RWs (gx X G)) ρ H Wx σ ((da e h).bind fun x h1 => ((db e h1).bind fun y h2 => .ok [y] h2).bind fun xs h2 => .ok (x :: xs) h2) _
  have a : Aft (gx X G) rel2 ρ H Wx σ ((da e h).bind fun x h1 => (db e h1).bind fun y h2 => k x y h2) Q := a
  cases qd : da e h with
  | bad => rw [qd] at a; exact a
  | ex z h1 => rw [qd] at a; exact a
  | ok wx h1 =>
    rw [qd] at a
    show Aft (gx X G) (RWs (gx X G)) ρ H Wx σ (((db e h1).bind fun y h2 => .ok [y] h2).bind fun xs h2 => .ok (wx :: xs) h2) _
    have a : Aft (gx X G) rel2 ρ H Wx σ ((db e h1).bind fun y h2 => k wx y h2) Q := a
    cases qd2 : db e h1 with
    | bad => rw [qd2] at a; exact a
    | ex z h2 => rw [qd2] at a; exact a
    | ok wy h2 =>
      rw [qd2] at a
      intro ρ' H' b x rh' rb
      cases rb with
      | cons r1 r2 =>
        cases r2 with
        | cons r3 r4 =>
          cases r4
          exact ⟨_, _, ρ', e, wx, wy, h2, rfl, re.ext x, rh', r1, r3, Aft.ext x a⟩
theorem si_rng1 (g : X.mg "range" = none) (ha : SE X G pn Wx a da) (hg : Gl X "range" := by rfl) (hs1 : starEach [a] X.env = [(false, eval a X.env)] := by rfl) (hs0 : starEach (a :: []) X.env = (false, eval a X.env) :: starEach [] X.env := by rfl) :
    SI X G pn Wx tg (.Call (.Name "range" p) [a] [] pos) (iRng1 da) := PI.imp (pi_range1 hg g (sl_cons ha sl_nil hs0) hs1) fun σ H R q => by
  refine (rd_l1 q).imp ?_
  rintro vs H1 ⟨v, ρ, e, wx, h, rfl, re, rh, rx, af⟩
  cases rx <;> first | exact af.elim | skip
  rename_i j
  dsimp only at af
  rw [iLtD, iLtD] at af
  by_cases ql : -SM < j ∧ j < SM
  · rw [decide_eq_true ql.1, decide_eq_true ql.2] at af
    have e1 : SM = 1000000000 := rfl
    exact ⟨j, rfl, by omega, by omega, Aft.go (rel := SrcR (gx X G)) af .refl rh src_rng⟩
  · have : (decide (-SM < j) && decide (j < SM)) = false := by
      rw [Bool.eq_false_iff]; intro h; rw [Bool.and_eq_true, decide_eq_true_iff, decide_eq_true_iff] at h; exact ql h
    rw [this] at af; exact af.elim
theorem si_rng2 (g : X.mg "range" = none) (ha : SE X G pn Wx a da) (hb : SE X G pn Wx b db) (hg : Gl X "range" := by rfl) (hs1 : starEach [a, b] X.env = [(false, eval a X.env), (false, eval b X.env)] := by rfl) (hs2 : starEach [b] X.env = [(false, eval b X.env)] := by rfl)
    (hs0 : starEach (a :: [b]) X.env = (false, eval a X.env) :: starEach [b] X.env := by rfl) (hs3 : starEach (b :: []) X.env = (false, eval b X.env) :: starEach [] X.env := by rfl) :
    SI X G pn Wx tg (.Call (.Name "range" p) [a, b] [] pos) (iRng2 da db) := PI.imp (pi_range2 hg g (sl_cons ha (sl_cons hb sl_nil hs3) hs0) hs1 hs2) fun σ H R q => by
  refine (rd_l2 q).imp ?_
  rintro vs H1 ⟨v, v', ρ, e, wx, wy, h, rfl, re, rh, rx, ry, af⟩
  cases rx <;> first | exact af.elim | skip
  rename_i i
  cases ry <;> first | exact af.elim | skip
  rename_i j
  dsimp only at af
  rw [iLtD, iLtD, iLtD, iLtD] at af
  by_cases ql : (-SM < i ∧ i < SM) ∧ -SM < j ∧ j < SM
  · rw [decide_eq_true ql.1.1, decide_eq_true ql.1.2, decide_eq_true ql.2.1, decide_eq_true ql.2.2] at af
    have e1 : SM = 1000000000 := rfl
    exact ⟨i, j, rfl, ⟨by omega, by omega, by omega, by omega⟩, Aft.go (rel := SrcR (gx X G)) af .refl rh src_rng⟩
  · have : (decide (-SM < i) && decide (i < SM) && (decide (-SM < j) && decide (j < SM))) = false := by
      rw [Bool.eq_false_iff]; intro h; rw [Bool.and_eq_true, Bool.and_eq_true, Bool.and_eq_true, decide_eq_true_iff, decide_eq_true_iff, decide_eq_true_iff, decide_eq_true_iff] at h; exact ql h
    rw [this] at af; exact af.elim
theorem seqOf_cases {g : Gc} {ρ : List Addr} {h : Hq} {H : Hp} {w : W} {v : V} {s : Src} (rh : RH g ρ h H) (r : RW g ρ H w v) (e : seqOf h w = some s) :
    (∃ l a vs, s = .tup l ∧ v = .ref a ∧ TupA g H a vs ∧ RWs g ρ H l vs) ∨ ∃ n a vs, s = .lst n ∧ v = .ref a ∧ ρ[n]? = some a ∧ SqL g.K H a vs := by
  cases r <;> first | cases e; done | skip
  case tup l a vs ht rs =>
    simp only [seqOf, Option.some.injEq] at e
    exact .inl ⟨l, a, vs, e.symm, rfl, .inl ht, rs⟩
  case ktup l a vs ht rs =>
    simp only [seqOf, Option.some.injEq] at e
    exact .inl ⟨l, a, vs, e.symm, rfl, .inr ht, rs⟩
  case ref n a hn =>
    simp only [seqOf] at e
    cases q : h.seq n with
    | none => rw [q] at e; cases e
    | some l =>
      rw [q] at e
      simp only [Option.some.injEq] at e
      obtain ⟨vs, hs, _⟩ := seq_at rh hn q
      exact .inr ⟨n, a, vs, e.symm, rfl, hn, hs⟩
theorem si_zip (g : X.mg "zip" = none) (ha : SE X G pn Wx a da) (hb : SE X G pn Wx b db) (hg : Gl X "zip" := by rfl) (hs : starEach [a, b] X.env = (false, eval a X.env) :: starEach [b] X.env := by rfl) (hpl : (backTo pos (starEach [b] X.env)).any (·.1) = false := by rfl)
    (hs3 : starEach (b :: []) X.env = (false, eval b X.env) :: starEach [] X.env := by rfl) :
    SI X G pn Wx (.Tuple elts kk tpos) (.Call (.Name "zip" p) [a, b] [] pos) (PW.iZip da db) := PI.imp (RZ.pi_zipA hg g (sl_cons ha (sl_cons hb sl_nil hs3) hs) hs hpl) fun σ H R q => by
  refine (rd_l2 q).imp ?_
  rintro vs H1 ⟨v, v', ρ, e, wx, wy, h, rfl, re, rh, rx, ry, af⟩
  cases q1 : seqOf h wx with
  | none => rw [q1] at af; exact af.elim
  | some s =>
    rw [q1] at af
    dsimp only at af
    cases q2 : seqOf h wy with
    | none => rw [q2] at af; exact af.elim
    | some t =>
      rw [q2] at af
      rcases seqOf_cases rh rx q1 with ⟨l, a1, vs1, rfl, rfl, ht, rs⟩ | ⟨n, a1, vs1, rfl, rfl, hn, hs1⟩ <;> rcases seqOf_cases rh ry q2 with ⟨r, a2, vs2, rfl, rfl, ht2, rs2⟩ | ⟨m, a2, vs2, rfl, rfl, hm, hs2⟩
      · exact ⟨a1, a2, vs1, vs2, rfl, .inr ⟨ht.sq, ht2.sq, Aft.go (rel := SrcR (gx X G)) af .refl rh (src_zipT ht rs ht2 rs2)⟩⟩
      · exact af.elim
      · exact af.elim
      · exact ⟨a1, a2, vs1, vs2, rfl, .inl ⟨hs1, hs2, Aft.go (rel := SrcR (gx X G)) af .refl rh (src_zipL hn hm)⟩⟩
end
end PW

set_option Elab.async false
set_option linter.all false
set_option maxRecDepth 100000
set_option maxHeartbeats 1000000
/-! PW9: targets, statements. -/
namespace PW
open PySem PySem.Spec PyProof.Rows L2
/-! ### targets -/
def TgA (g : Gc) (pn : List PinT) (sl : List Nat) (ρ : List Addr) (H : Hp) (σ : L2.St) (r : Rs E) (Q : L2.St → Hp → Prop) : Prop := match r with
  | .ok e' h' => ∀ ρ' H' σ', Ext ρ H ρ' H' → RH g ρ' h' H' → RE g pn ρ' H' e' σ' → (∀ j, j ∉ sl → σ'[j]? = σ[j]?) → σ'.length = σ.length → Q σ' H'
  | _ => False
def rdT (g : Gc) (pn : List PinT) (sl : List Nat) (t : TGW) : TG := fun v σ H Q => ∃ ρ w e h, RE g pn ρ H e σ ∧ RH g ρ h H ∧ RW g ρ H w v ∧ TgA g pn sl ρ H σ (t w e h) Q
def rdTL (g : Gc) (pn : List PinT) (sl : List Nat) (t : TGL) : TGs := fun vs σ H Q => ∃ ρ ws e h, RE g pn ρ H e σ ∧ RH g ρ h H ∧ RWs g ρ H ws vs ∧ TgA g pn sl ρ H σ (t ws e h) Q
def SG (X : Cx) (G : G0) (pn : List PinT) (sl : List Nat) (tg : Expr) (t : TGW) : Prop := PG X tg (rdT (gx X G) pn sl t)
def SGL (X : Cx) (G : G0) (pn : List PinT) (sl : List Nat) (tg : List Expr) (t : TGL) : Prop := PGs X tg (rdTL (gx X G) pn sl t)
theorem PG.imp {X : Cx} {tg : Expr} {t t' : TG} (h : PG X tg t) (i : ∀ v σ H Q, t' v σ H Q → t v σ H Q) : PG X tg t' := ⟨fun pins s σ H v u Q I r q => h.run pins s σ H v u Q I r (i v σ H Q q)⟩
theorem PGs.imp {X : Cx} {tg : List Expr} {t t' : TGs} (h : PGs X tg t) (i : ∀ v σ H Q, t' v σ H Q → t v σ H Q) : PGs X tg t' := ⟨fun pins s σ H v u Q I r q => h.run pins s σ H v u Q I r (i v σ H Q q)⟩
section
variable {X : Cx} {G : G0} {pn : List PinT} {Wx : WX} {pos pos' p2 : Pos} {a b : Expr} {da db : D}
theorem RE.set {g : Gc} {ρ : List Addr} {H : Hp} {e : E} {σ : L2.St} {w : W} {v : V} {i : Nat} (re : RE g pn ρ H e σ) (r : RW g ρ H w v) (hp : ∀ p ∈ pn, p.1 ≠ i) : RE g pn ρ H (setN e i (some w)) (σ.set i (some v)) := by
  rw [setND]
  refine ⟨by rw [List.length_set, List.length_set]; exact re.len, fun j w' h => ?_, fun p hm => ?_⟩
  · by_cases q : j = i
    · subst q
      have hj : j < e.length := by
        have := (List.getElem?_eq_some_iff.mp h).1
        rw [List.length_set] at this; exact this
      rw [List.getElem?_set_self hj] at h
      cases h
      exact ⟨v, List.getElem?_set_self (by rw [← re.len]; exact hj), r⟩
    · rw [List.getElem?_set_ne (Ne.symm q)] at h
      obtain ⟨v', h1, h2⟩ := re.at_ j w' h
      exact ⟨v', by rw [List.getElem?_set_ne (Ne.symm q)]; exact h1, h2⟩
  · rw [List.getElem?_set_ne (Ne.symm (hp p hm))]
    exact re.pin p hm
theorem sg_n (i : Nat) (C : Cs X Wx) {x : Str} (hi : X.N[i]? = some x := by rfl) (hx : Loc X.env.scope x := by first | exact Or.inl rfl | exact Or.inr rfl) (hf : X.fn x = true ∨ X.env.scope.names.lookup x = some .local := by first | exact .inl rfl | exact .inr rfl)
    (hp : ∀ p ∈ pn, p.1 ≠ i := by simp) : SG X G pn [i] (.Name x pos) (tN i) := PG.imp (pg_name C.nd hi hx hf) fun v σ H Q q => by
  obtain ⟨ρ, w, e, h, re, rh, r, f⟩ := q
  exact f ρ H _ .refl rh (re.set r hp) (fun j hj => by rw [List.getElem?_set_ne (by simp at hj; exact fun z => hj z.symm)]) (by rw [List.length_set])
theorem sgl_nil : SGL X G pn [] [] tLn := PGs.imp pgs_nil fun vs σ H Q q => by
  obtain ⟨ρ, ws, e, h, re, rh, r, f⟩ := q
  cases r with
  | nil => exact ⟨rfl, f ρ H _ .refl rh re (fun _ _ => rfl) rfl⟩
  | cons _ _ => exact f.elim
theorem sgl_cons {sl sl2 : List Nat} {t : TGW} {u : TGL} {tg : Expr} {ts : List Expr} (h1 : SG X G pn sl tg t) (h2 : SGL X G pn sl2 ts u) (hs : (assignEach (tg :: ts) X.env).map (·.2) = assign tg X.env :: (assignEach ts X.env).map (·.2) := by rfl) : SGL X G pn (sl ++ sl2) (tg :: ts) (tLc t u) :=
  PGs.imp (pgs_cons h1 h2 hs) fun vs σ H Q q => by
  obtain ⟨ρ, ws, e, h, re, rh, r, f⟩ := q
  cases r with
  | nil => exact f.elim
  | cons r1 r2 =>
    rename_i w v l vl
    refine ⟨v, vl, rfl, ρ, w, e, h, re, rh, r1, ?_⟩
    have f : TgA (gx X G) pn (sl ++ sl2) ρ H σ ((t w e h).bind fun e1 h1 => u l e1 h1) Q := f
    cases q : t w e h with
    | ex z h' => rw [q] at f; exact f.elim
    | bad => rw [q] at f; exact f.elim
    | ok e1 hh =>
      rw [q] at f
      intro ρ1 H1 σ1 x1 rh1 re1 s1 l1
      refine ⟨ρ1, l, e1, hh, re1, rh1, r2.ext x1, ?_⟩
      have f : TgA (gx X G) pn (sl ++ sl2) ρ H σ (u l e1 hh) Q := f
      cases q2 : u l e1 hh with
      | ex z h' => rw [q2] at f; exact f.elim
      | bad => rw [q2] at f; exact f.elim
      | ok e2 h2 =>
        rw [q2] at f
        intro ρ2 H2 σ2 x2 rh2 re2 s2 l2
        refine f ρ2 H2 σ2 (x1.trans x2) rh2 re2 (fun j hj => ?_) (l2.trans l1)
        rw [List.mem_append] at hj
        rw [s2 j (fun z => hj (.inr z)), s1 j (fun z => hj (.inl z))]
theorem sg_t {k n : Nat} {sl : List Nat} {u : TGL} {ts : List Expr} (C : Cs X Wx) (h : SGL X G pn sl ts u) (hn : (assignEach ts X.env).length = n := by rfl) (hst : (assignEach ts X.env).findIdx? (·.1) = none := by rfl) : SG X G pn sl (.Tuple ts k pos) (tT n u) :=
  PG.imp (pg_tup C.calm h hn hst) fun v σ H Q q => by
  obtain ⟨ρ, w, e, h, re, rh, r, f⟩ := q
  cases r <;> first | exact f.elim | skip
  rename_i l a vs ht rs
  have f : TgA (gx X G) pn sl ρ H σ (match Nat.beq (len l) n with | true => u l e h | false => .bad) Q := f
  rw [beqD, lenD] at f
  by_cases q : l.length = n
  · rw [decide_eq_true q] at f
    exact ⟨a, vs, rfl, ht.sq, by rw [← rs.length]; exact q, ρ, l, e, h, re, rh, rs, f⟩
  · rw [decide_eq_false q] at f; exact f.elim
/-! o[i] = w -/
def rSetM : TSet := fun o i v H Q => rSetL o i v H Q ∨ rSetD o i v H Q
theorem set_any (hu : X.A.units + 1 < cLine) : PSet X rSetM := by
  intro pins s σ H o i v ov iv u Q I ro ri rv h
  rcases h with h | h
  · exact set_list pins s σ H o i v ov iv u Q I ro ri rv h
  · exact set_dict hu pins s σ H o i v ov iv u Q I ro ri rv h
theorem ixN_nat {n k : Nat} (h : k < n) : ixN n (Int.ofNat k) = some k := by
  unfold ixN
  rw [if_pos (show (0 : Int) ≤ Int.ofNat k from Int.natCast_nonneg k), if_pos (show Int.ofNat k < (n : Int) by have : Int.ofNat k = (k : Int) := rfl; omega)]
  rfl
theorem ixN_neg {n m : Nat} (h : m < n) : ixN n (Int.negSucc m) = some (n - (m + 1)) := by
  unfold ixN
  rw [if_neg (by omega), if_pos (by omega)]
  congr 1
  omega
theorem stW_v {g : Gc} {ρ : List Addr} {h h' : Hq} {H : Hp} {wx wy w : W} {x y v : V} {Q : Hp → Prop} (rh : RH g ρ h H) (rx : RW g ρ H wx x) (ry : RW g ρ H wy y) (r : RW g ρ H w v) (e : stW wx wy w h = some h')
    (q : ∀ H', Ext ρ H ρ H' → RH g ρ h' H' → Q H') : rSetM x y v H Q := by
  unfold stW at e
  cases rx <;> first | cases e; done | skip
  rename_i n a hn
  have ha : a ∈ ρ := List.mem_of_getElem? hn
  dsimp only at e
  cases q0 : h.get n with
  | none => rw [q0] at e; cases e
  | some o =>
    rw [q0] at e
    have ro := rh.ob n o a q0 hn
    have lst : ∀ l k j, o = .lst l → y = .int k → ixN l.length k = some j → h' = h.put n (.lst (l.set j w)) → rSetM (.ref a) y v H Q := fun l k j eo ey ej eh => by
      subst eo ey eh
      obtain ⟨vs, e1, rs⟩ := ro
      have x := Ext.put (o := .lst (vs.set j v)) ha e1 (fun _ => nofun)
      exact .inl ⟨a, vs, k, j, rfl, rfl, e1, by rw [← rs.length]; exact ej, q _ x (rh.put hn e1 (fun _ => nofun) (fun _ => nofun) ⟨_, upd_same, RWs.set (r.ext x) j (rs.ext x)⟩)⟩
    have dct : ∀ o', dPut o wy w = some o' → h' = h.put n o' → rSetM (.ref a) y v H Q := fun o' hp eh => by
      subst eh
      cases o with
      | dk l =>
        obtain ⟨kvs, e1, rs⟩ := ro
        simp only [dPut] at hp
        cases q1 : keyO wy with
        | none => rw [q1] at hp; cases hp
        | some k =>
          rw [q1] at hp
          dsimp only at hp
          rw [bltD, lenD] at hp
          by_cases ql : l.length < LIM
          · rw [decide_eq_true ql] at hp
            simp only [Option.some.injEq] at hp
            subst hp
            rw [keyO_v ry q1]
            have x := Ext.put (o := .dK (putK kvs k v)) ha e1 (fun _ => nofun)
            exact .inr ⟨a, _, rfl, .k e1 (lim_lt (by rw [← rs.length]; exact ql)), q _ x (rh.put hn e1 (fun _ => nofun) (fun _ => nofun) ⟨_, upd_same, putG_v kEqD (r.ext x) k (rs.ext x)⟩)⟩
          · rw [decide_eq_false ql] at hp; cases hp
      | dt l =>
        obtain ⟨kvs, e1, rs⟩ := ro
        simp only [dPut] at hp
        cases ry <;> first | cases hp; done | skip
        rename_i ws b us ht rs2
        dsimp only at hp
        cases q1 : mapO keyO ws with
        | none => rw [q1] at hp; cases hp
        | some k =>
          rw [q1] at hp
          dsimp only at hp
          rw [bltD, lenD] at hp
          by_cases ql : l.length < LIM
          · rw [decide_eq_true ql] at hp
            simp only [Option.some.injEq] at hp
            subst hp
            have eu := mapO_keys rs2 q1
            subst eu
            have x := Ext.put (o := .dT (putK kvs k v)) ha e1 (fun _ => nofun)
            exact .inr ⟨a, _, rfl, .t e1 ht (lim_lt (by rw [← rs.length]; exact ql)), q _ x (rh.put hn e1 (fun _ => nofun) (fun _ => nofun) ⟨_, upd_same, putG_v kEqLD (r.ext x) k (rs.ext x)⟩)⟩
          · rw [decide_eq_false ql] at hp; cases hp
      | lst l => cases hp
      | rol l => cases hp
      | st l => cases hp
      | rng lo hi => cases hp
    have dct2 : (match dPut o wy w with | some o' => some (h.put n o') | none => none) = some h' → rSetM (.ref a) y v H Q := fun hh => by
      cases q1 : dPut o wy w with
      | none => rw [q1] at hh; cases hh
      | some o' =>
        rw [q1] at hh
        simp only [Option.some.injEq] at hh
        exact dct o' q1 hh.symm
    cases o with
    | lst l =>
      dsimp only at e
      cases ry <;> first | cases e; done | skip
      rename_i i
      dsimp only at e
      cases i with
      | ofNat k =>
        dsimp only at e
        rw [bltD, lenD] at e
        by_cases ql : k < l.length
        · rw [decide_eq_true ql, setND] at e
          simp only [Option.some.injEq] at e
          exact lst l _ k rfl rfl (ixN_nat ql) e.symm
        · rw [decide_eq_false ql] at e; cases e
      | negSucc m =>
        dsimp only at e
        rw [bltD, lenD] at e
        by_cases ql : m < l.length
        · rw [decide_eq_true ql, setND] at e
          simp only [Option.some.injEq] at e
          exact lst l _ _ rfl rfl (ixN_neg ql) e.symm
        · rw [decide_eq_false ql] at e; cases e
    | rol l => exact dct2 e
    | dk l => exact dct2 e
    | dt l => exact dct2 e
    | st l => exact dct2 e
    | rng lo hi => exact dct2 e
abbrev F0 : WX := fun _ _ _ _ => False
theorem sg_s (C : Cs X Wx) (ha : SE X G pn Wx a da) (hb : SE X G pn Wx b db)
    (hs : ∀ v, assign (.Subscript a b pos) X.env v = (do
      let ov ← holding [v] (eval a X.env)
      let iv ← holding [v, ov] (eval b X.env)
      standAt pos
      holding [v, ov, iv] (setItem ov iv v)
      release [v, ov, iv] []) := by intro _; rfl) : SG X G pn [] (.Subscript a b pos) (tS da db) :=
  PG.imp (pg_sub ha hb (set_any (by have := C.un; omega)) hs) fun v σ H Q q => by
  obtain ⟨ρ, w, e, h, re, rh, r, f⟩ := q
  unfold tS at f
  refine ⟨ρ, e, h, re, rh, ?_⟩
  cases qa : da e h with
  | bad => rw [qa] at f; exact f.elim
  | ex z h1 => rw [qa] at f; exact f.elim
  | ok wx h1 =>
    rw [qa] at f
    dsimp only at f
    intro ρ1 H1 x x1 rh1 rx
    refine ⟨ρ1, e, h1, re.ext x1, rh1, ?_⟩
    cases qb : db e h1 with
    | bad => rw [qb] at f; exact f.elim
    | ex z h2 => rw [qb] at f; exact f.elim
    | ok wy h2 =>
      rw [qb] at f
      dsimp only at f
      intro ρ2 H2 y x2 rh2 ry
      cases qs : stW wx wy w h2 with
      | none => rw [qs] at f; exact f.elim
      | some h3 =>
        rw [qs] at f
        refine stW_v rh2 (rx.ext x2) ry ((r.ext x1).ext x2) qs fun H3 x3 rh3 => ?_
        exact f ρ2 H3 σ ((x1.trans x2).trans x3) rh3 (((re.ext x1).ext x2).ext x3) (fun _ _ => rfl) rfl
/-! ### statements -/
def AftS (g : Gc) (pn : List PinT) (ρ : List Addr) (H : Hp) (Wx : WX) (r : RS) (D : Ends) : Prop := match r with
  | .nx e' h' => ∀ ρ' H' σ', Ext ρ H ρ' H' → RH g ρ' h' H' → RE g pn ρ' H' e' σ' → D.nx σ' H'
  | .rt w h' => ∀ ρ' H' v, Ext ρ H ρ' H' → RH g ρ' h' H' → RW g ρ' H' w v → D.rt v H'
  | .bk e' h' => ∀ ρ' H' σ', Ext ρ H ρ' H' → RH g ρ' h' H' → RE g pn ρ' H' e' σ' → D.bk σ' H'
  | .ct e' h' => ∀ ρ' H' σ', Ext ρ H ρ' H' → RH g ρ' h' H' → RE g pn ρ' H' e' σ' → D.ct σ' H'
  | .ex x e' h' => ∀ ρ' H' σ' cls d, Ext ρ H ρ' H' → RH g ρ' h' H' → RE g pn ρ' H' e' σ' → RX g ρ' H' x cls d → Wx cls d σ' H'
  | .bad => False
def rdS (g : Gc) (pn : List PinT) (Wx : WX) (d : DS) : TS := fun D σ H => ∃ ρ e h, RE g pn ρ H e σ ∧ RH g ρ h H ∧ AftS g pn ρ H Wx (d e h) D
def SS (X : Cx) (G : G0) (pn : List PinT) (Wx : WX) (st : Stmt) (d : DS) : Prop := PS X st (rdS (gx X G) pn Wx d)
def SSs (X : Cx) (G : G0) (pn : List PinT) (Wx : WX) (st : List Stmt) (d : DS) : Prop := PSs X st (rdS (gx X G) pn Wx d)
theorem AftS.ext {g : Gc} {ρ ρ' : List Addr} {H H' : Hp} {r : RS} {D : Ends} (x : Ext ρ H ρ' H') (h : AftS g pn ρ H Wx r D) : AftS g pn ρ' H' Wx r D := by
  cases r with
  | nx e h1 => exact fun ρ2 H2 b y => h ρ2 H2 b (x.trans y)
  | rt e h1 => exact fun ρ2 H2 b y => h ρ2 H2 b (x.trans y)
  | bk e h1 => exact fun ρ2 H2 b y => h ρ2 H2 b (x.trans y)
  | ct e h1 => exact fun ρ2 H2 b y => h ρ2 H2 b (x.trans y)
  | ex z e h1 => exact fun ρ2 H2 b c d y => h ρ2 H2 b c d (x.trans y)
  | bad => exact h
theorem ss_nil : SSs X G pn Wx [] sNil := PSs.imp pss_nil fun D σ H q => by
  obtain ⟨ρ, e, h, re, rh, a⟩ := q
  exact a ρ H σ .refl rh re
theorem ss_one {st : Stmt} {d : DS} (h : SS X G pn Wx st d) : SSs X G pn Wx [st] d := pss_one h
theorem ss_cons {st : Stmt} {r : List Stmt} {d u : DS} (h1 : SS X G pn Wx st d) (h2 : SSs X G pn Wx r u) : SSs X G pn Wx (st :: r) (sSeq d u) := PSs.imp (pss_cons h1 h2) fun D σ H q => by
  obtain ⟨ρ, e, h, re, rh, a⟩ := q
  refine ⟨ρ, e, h, re, rh, ?_⟩
  unfold sSeq at a
  cases qd : d e h with
  | nx e1 h1 =>
    rw [qd] at a
    exact fun ρ' H' σ' x rh' re' => ⟨ρ', e1, h1, re', rh', AftS.ext x a⟩
  | rt w h1 => rw [qd] at a; exact a
  | bk e1 h1 => rw [qd] at a; exact a
  | ct e1 h1 => rw [qd] at a; exact a
  | ex z e1 h1 => rw [qd] at a; exact a
  | bad => rw [qd] at a; exact a
/-- an expression, then a statement's end -/
theorem rdS_bind {da : D} {k : E → W → Hq → RS} {σ : L2.St} {H : Hp} {D : Ends} (q : rdS (gx X G) pn Wx (fun e h => match da e h with | .ok w h1 => k e w h1 | .ex x h1 => .ex x e h1 | .bad => .bad) D σ H) :
    rd (gx X G) pn (RW (gx X G)) Wx da σ H fun v H1 => ∃ ρ e w h, RE (gx X G) pn ρ H1 e σ ∧ RH (gx X G) ρ h H1 ∧ RW (gx X G) ρ H1 w v ∧ AftS (gx X G) pn ρ H1 Wx (k e w h) D := by
  obtain ⟨ρ, e, h, re, rh, a⟩ := q
  refine ⟨ρ, e, h, re, rh, ?_⟩
  dsimp only at a
  cases qd : da e h with
  | ok w h1 =>
    rw [qd] at a
    exact fun ρ' H' b x rh' rb => ⟨ρ', e, w, h1, re.ext x, rh', rb, AftS.ext x a⟩
  | ex z h1 =>
    rw [qd] at a
    exact fun ρ' H' cls d x rh' rx => a ρ' H' σ cls d x rh' (re.ext x) rx
  | bad => rw [qd] at a; exact a
theorem rdS_bindB {da : DB} {k : E → Bool → Hq → RS} {σ : L2.St} {H : Hp} {D : Ends} (q : rdS (gx X G) pn Wx (fun e h => match da e h with | .ok w h1 => k e w h1 | .ex x h1 => .ex x e h1 | .bad => .bad) D σ H) :
    rd (gx X G) pn rEqB Wx da σ H fun v H1 => ∃ ρ e h, RE (gx X G) pn ρ H1 e σ ∧ RH (gx X G) ρ h H1 ∧ AftS (gx X G) pn ρ H1 Wx (k e v h) D := by
  obtain ⟨ρ, e, h, re, rh, a⟩ := q
  refine ⟨ρ, e, h, re, rh, ?_⟩
  dsimp only at a
  cases qd : da e h with
  | ok w h1 =>
    rw [qd] at a
    intro ρ' H' b x rh' rb
    cases rb
    exact ⟨ρ', e, h1, re.ext x, rh', AftS.ext x a⟩
  | ex z h1 =>
    rw [qd] at a
    exact fun ρ' H' cls d x rh' rx => a ρ' H' σ cls d x rh' (re.ext x) rx
  | bad => rw [qd] at a; exact a
theorem ss_expr (ha : SE X G pn Wx a da) (hs : swapsWith a none pos.line X.env = pure false := by rfl) : SS X G pn Wx (.Expr a pos) (sExpr da) := PS.imp (ps_expr ha hs) fun D σ H q => by
  refine (rdS_bind (k := fun e _ h => .nx e h) q).imp ?_
  rintro v H1 ⟨ρ, e, w, h, re, rh, r, f⟩
  exact f ρ H1 σ .refl rh re
theorem ss_ret (ha : SE X G pn Wx a da) : SS X G pn Wx (.Return (some a) pos) (sRet da) := PS.imp (ps_ret ha) fun D σ H q => by
  refine (rdS_bind (k := fun _ w h => .rt w h) q).imp ?_
  rintro v H1 ⟨ρ, e, w, h, re, rh, r, f⟩
  exact f ρ H1 v .refl rh r
theorem ss_retn : SS X G pn Wx (.Return none pos) sRetN := PS.imp ps_retN fun D σ H q => by
  obtain ⟨ρ, e, h, re, rh, f⟩ := q
  exact f ρ H .non .refl rh .non
theorem ss_pass : SS X G pn Wx (.Pass pos) sPass := PS.imp ps_pass fun D σ H q => by
  obtain ⟨ρ, e, h, re, rh, f⟩ := q
  exact f ρ H σ .refl rh re
theorem ss_brk : SS X G pn Wx (.Break pos) sBrk := PS.imp ps_break fun D σ H q => by
  obtain ⟨ρ, e, h, re, rh, f⟩ := q
  exact f ρ H σ .refl rh re
theorem ss_cnt : SS X G pn Wx (.Continue pos) sCnt := PS.imp ps_continue fun D σ H q => by
  obtain ⟨ρ, e, h, re, rh, f⟩ := q
  exact f ρ H σ .refl rh re
theorem ss_if {ta : DB} {st su : List Stmt} {d u : DS} (hc : SB X G pn Wx a ta) (h1 : SSs X G pn Wx st d) (h2 : SSs X G pn Wx su u) : SS X G pn Wx (.If a st su pos) (sIf ta d u) := PS.imp (ps_if hc h1 h2) fun D σ H q => by
  refine (rdS_bindB (k := fun e b h => match b with | true => d e h | false => u e h) q).imp ?_
  rintro v H1 ⟨ρ, e, h, re, rh, f⟩
  cases v with
  | true => rw [if_pos rfl]; exact ⟨ρ, e, h, re, rh, f⟩
  | false => rw [if_neg Bool.false_ne_true]; exact ⟨ρ, e, h, re, rh, f⟩
/-! assignments -/
theorem asg_tg {t : TGW} {sl : List Nat} {ρ : List Addr} {H : Hp} {σ : L2.St} {w : W} {v : V} {e : E} {h : Hq} {D : Ends} (re : RE (gx X G) pn ρ H e σ) (rh : RH (gx X G) ρ h H) (r : RW (gx X G) ρ H w v)
    (f : AftS (gx X G) pn ρ H Wx (match t w e h with | .ok e1 h2 => .nx e1 h2 | _ => .bad) D) : rdT (gx X G) pn sl t v σ H D.nx := by
  refine ⟨ρ, w, e, h, re, rh, r, ?_⟩
  cases q : t w e h with
  | ok e1 h2 => rw [q] at f; exact fun ρ' H' σ' x rh' re' _ _ => f ρ' H' σ' x rh' re'
  | ex z h2 => rw [q] at f; exact f
  | bad => rw [q] at f; exact f
theorem ss_asg {tg : Expr} {t : TGW} {sl : List Nat} (ha : SE X G pn Wx a da) (hg : SG X G pn sl tg t) (hs : swapsWithSole [tg] a pos.line X.env = pure false := by rfl) (hw : swappedStores [tg] a X.env = pure none := by rfl)
    (h1 : (assignEach [tg] X.env).map (·.2) = [assign tg X.env] := by rfl) : SS X G pn Wx (.Assign [tg] a pos) (sAsg da t) := PS.imp (ps_asg ha hg hs hw h1) fun D σ H q => by
  refine (rdS_bind (k := fun e w h => match t w e h with | .ok e1 h2 => .nx e1 h2 | _ => .bad) q).imp ?_
  rintro v H1 ⟨ρ, e, w, h, re, rh, r, f⟩
  exact asg_tg re rh r f
theorem ss_set (i : Nat) {x : Str} (C : Cs X Wx) (ha : SE X G pn Wx a da) (hi : X.N[i]? = some x := by rfl) (hx : Loc X.env.scope x := by first | exact Or.inl rfl | exact Or.inr rfl) (hs : swapsWith a (some (.Name x pos')) pos.line X.env = pure false := by rfl) (hf : X.fn x = true ∨ X.env.scope.names.lookup x = some .local := by first | exact .inl rfl | exact .inr rfl)
    (hp : ∀ p ∈ pn, p.1 ≠ i := by simp) : SS X G pn Wx (.Assign [.Name x pos'] a pos) (sAsg da (tN i)) := PS.imp (ps_set C.nd hi hx ha hs hf) fun D σ H q => by
  refine (rdS_bind (k := fun e w h => match tN i w e h with | .ok e1 h2 => .nx e1 h2 | _ => .bad) q).imp ?_
  rintro v H1 ⟨ρ, e, w, h, re, rh, r, f⟩
  exact f ρ H1 _ .refl rh (re.set r hp)
theorem ss_par2 (i j : Nat) {x y : Str} {px py pt : Pos} {kt k2 pt2} {d1 d2 : D} (C : Cs X Wx) (ha : SE X G pn Wx a d1) (hb : SE X G pn Wx b d2) (hi : X.N[i]? = some x := by rfl) (hj : X.N[j]? = some y := by rfl) (hij : i ≠ j := by decide)
    (hx : X.env.scope.names.lookup x = some .local := by rfl) (hy : X.env.scope.names.lookup y = some .local := by rfl) (hw : swappedStores [.Tuple [.Name x px, .Name y py] kt pt] (.Tuple [a, b] k2 pt2) X.env = pure (some [x, y]) := by rfl)
    (hs : swapsWithSole [.Tuple [.Name x px, .Name y py] kt pt] (.Tuple [a, b] k2 pt2) pos.line X.env = pure false := by rfl) (h0 : starEach (a :: [b]) X.env = (false, eval a X.env) :: starEach [b] X.env := by rfl) (h1 : starEach (b :: []) X.env = (false, eval b X.env) :: starEach [] X.env := by rfl)
    (hp : ∀ p ∈ pn, p.1 ≠ i ∧ p.1 ≠ j := by simp) :
    SS X G pn Wx (.Assign [.Tuple [.Name x px, .Name y py] kt pt] (.Tuple [a, b] k2 pt2) pos) (sAsg (dTup (lCons d1 (lCons d2 lNil))) (tT 2 (tLc (tN i) (tLc (tN j) tLn)))) :=
  PS.imp (ps_par C.calm C.nd hi hj hij hx hy (sl_cons ha (sl_cons hb sl_nil h1) h0) hw hs) fun D σ H q => by
  obtain ⟨ρ, e, h, re, rh, f⟩ := q
  refine ⟨ρ, e, h, re, rh, ?_⟩
  unfold sAsg dTup lCons lNil at f
  show Aft (gx X G) (RWs (gx X G)) ρ H Wx σ ((d1 e h).bind fun x h1 => ((d2 e h1).bind fun y h2 => .ok [y] h2).bind fun xs h2 => .ok (x :: xs) h2) _
  cases q1 : d1 e h with
  | bad => rw [q1] at f; exact f
  | ex z h1 => rw [q1] at f; exact fun ρ' H' cls d x rh' rx => f ρ' H' σ cls d x rh' (re.ext x) rx
  | ok w1 h1 =>
    rw [q1] at f
    show Aft (gx X G) (RWs (gx X G)) ρ H Wx σ (((d2 e h1).bind fun y h2 => .ok [y] h2).bind fun xs h2 => .ok (w1 :: xs) h2) _
    simp only [Rs.bind] at f
    cases q2 : d2 e h1 with
    | bad => rw [q2] at f; exact f
    | ex z h2 => rw [q2] at f; exact fun ρ' H' cls d x rh' rx => f ρ' H' σ cls d x rh' (re.ext x) rx
    | ok w2 h2 =>
      rw [q2] at f
      intro ρ' H' vs x rh' rvs
      cases rvs with
      | cons r1 r2 =>
        cases r2 with
        | cons r3 r4 =>
          cases r4
          exact ⟨_, _, rfl, f ρ' H' _ x rh' (((re.ext x).set r1 fun p hm => (hp p hm).1).set r3 fun p hm => (hp p hm).2)⟩
end
end PW

set_option Elab.async false
set_option linter.all false
set_option maxRecDepth 100000
set_option maxHeartbeats 1000000
/-! PWa: for, while, comprehensions. -/
namespace PW
open PySem PySem.Spec PyProof.Rows L2
section
variable {g : Gc} {ρ ρ' : List Addr} {H H' : Hp} {h : Hq} {D : Addr}
theorem RO.ext0 {a : Addr} {o : Ob} (hp : ∀ (n : Nat) (a : Addr), ρ[n]? = some a → ρ'[n]? = some a) (ht : Tus H H') (e : ∀ u, H a = some u → H' a = some u) (r : RO g ρ H o a) : RO g ρ' H' o a := by
  cases o with
  | lst l => obtain ⟨vs, h1, h2⟩ := r; exact ⟨vs, e _ h1, h2.ext0 hp ht⟩
  | rol l =>
    obtain ⟨vs, h1, h2⟩ := r
    refine ⟨vs, ?_, h2.ext0 hp ht⟩
    rcases h1 with (h1 | ⟨o, h1⟩) | h1
    · exact .inl (.inl (e _ h1))
    · exact .inl (.inr ⟨o, e _ h1⟩)
    · exact .inr h1
  | dk l => obtain ⟨vs, h1, h2⟩ := r; exact ⟨vs, e _ h1, h2.ext0 hp ht⟩
  | dt l => obtain ⟨vs, h1, h2⟩ := r; exact ⟨vs, e _ h1, h2.ext0 hp ht⟩
  | st l => obtain ⟨S, h1, h2⟩ := r; exact ⟨S, e _ h1, h2⟩
  | rng lo hi => exact e _ r
/-- an object outside of the model's heap is written -/
theorem RH.out {o u : HO} (r : RH g ρ h H) (hD : D ∉ ρ) (e : H D = some u) (nu : NT u) : RH g ρ h (upd H D o) := by
  have ht : Tus H (upd H D o) := fun a xs t q => by
    have : a ≠ D := fun z => by rw [z, e] at q; cases q; exact nu () t
    rw [upd_ne this]; exact q
  refine ⟨r.len, r.le, r.nd, fun n ob a h1 h2 => ?_, fun a ha => ?_⟩
  · have na : a ≠ D := fun z => hD (by rw [← z]; exact List.mem_of_getElem? h2)
    exact (r.ob n ob a h1 h2).ext0 (fun _ _ q => q) ht fun w q => by rw [upd_ne na]; exact q
  · have na : a ≠ D := fun z => hD (by rw [← z]; exact ha)
    obtain ⟨w, e1, t⟩ := r.nt a ha
    exact ⟨w, by rw [upd_ne na]; exact e1, t⟩
theorem RWs.out {o u : HO} {l : List W} {vs : List V} (r : RWs g ρ H l vs) (e : H D = some u) (nu : NT u) : RWs g ρ (upd H D o) l vs :=
  r.ext0 (fun _ _ q => q) fun a xs t q => by
    have : a ≠ D := fun z => by rw [z, e] at q; cases q; exact nu () t
    rw [upd_ne this]; exact q
theorem Ext.out {o u : HO} (x : Ext ρ H ρ' H') (h0 : H D = none) : Ext ρ H ρ' (upd H' D o) :=
  ⟨x.pre, x.fresh, fun a w e hn => by rw [upd_ne (ne_of_none e h0)]; exact x.frame a w e hn, fun a xs t e => by rw [upd_ne (ne_of_none e h0)]; exact x.tups a xs t e⟩
end
section
variable {X : Cx} {G : G0} {pn : List PinT} {Wx : WX} {pos : Pos} {tg iter a : Expr} {src : DI} {t : TGW} {sl : List Nat} {body : List Stmt} {d : DS}
def bindS {α : Type} (da : E → Hq → Rs α) (k : E → α → Hq → RS) : DS := fun e h => match da e h with | .ok w h1 => k e w h1 | .ex x h1 => .ex x e h1 | .bad => .bad
theorem sFor_bind {src : DI} {t : TGW} {d : DS} : sFor src t d = bindS src (fun e s h => forS (next s) t d FUEL 0 e h) := by
  funext e h; unfold sFor bindS; cases src e h <;> rfl
theorem rdS_bindG {α β : Type} {rel : List Addr → Hp → α → β → Prop} {da : E → Hq → Rs α} {k : E → α → Hq → RS} {σ : L2.St} {H : Hp} {D : Ends} (q : rdS (gx X G) pn Wx (bindS da k) D σ H) :
    rd (gx X G) pn rel Wx da σ H fun v H1 => ∃ ρ e w h, RE (gx X G) pn ρ H1 e σ ∧ RH (gx X G) ρ h H1 ∧ rel ρ H1 w v ∧ AftS (gx X G) pn ρ H1 Wx (k e w h) D := by
  obtain ⟨ρ, e, h, re, rh, a⟩ := q
  refine ⟨ρ, e, h, re, rh, ?_⟩
  unfold bindS at a
  cases qd : da e h with
  | ok w h1 =>
    rw [qd] at a
    exact fun ρ' H' b x rh' rb => ⟨ρ', e, w, h1, re.ext x, rh', rb, AftS.ext x a⟩
  | ex z h1 =>
    rw [qd] at a
    exact fun ρ' H' cls d x rh' rx => a ρ' H' σ cls d x rh' (re.ext x) rx
  | bad => rw [qd] at a; exact a
theorem ss_for (C : Cs X Wx) (hi : SI X G pn Wx tg iter src) (hg : SG X G pn sl tg t) (hb : SSs X G pn Wx body d) (hs : ∀ x, foldedSetIterable iter X.env x = pure x := by intro _; rfl) : SS X G pn Wx (.For tg iter body [] pos) (sFor src t d) :=
  PS.imp (ps_for C.pass C.calm hi hg hb hs) fun D σ H q => by
  have q : rdS (gx X G) pn Wx (bindS src fun e s h => forS (next s) t d FUEL 0 e h) D σ H := by rw [← sFor_bind]; exact q
  refine (rdS_bindG (rel := SrcR (gx X G)) (k := fun e s h => forS (next s) t d FUEL 0 e h) q).imp ?_
  rintro J H1 ⟨ρ, e, s, h, re, rh, sr, f⟩
  refine ⟨fun i m σ' H' => ∃ ρ' e' h', RE (gx X G) pn ρ' H' e' σ' ∧ RH (gx X G) ρ' h' H' ∧ SrcR (gx X G) ρ' H' s J ∧ AftS (gx X G) pn ρ' H' Wx (forS (next s) t d m i e' h') D, ⟨FUEL, ρ, e, h, re, rh, sr, f⟩, ?_⟩
  rintro i m σ' H' ⟨ρ', e', h', re', rh', sr', f'⟩
  cases m with
  | zero => exact f'.elim
  | succ m =>
    have sn := sr' ρ' H' h' i .refl rh'
    unfold forS at f'
    cases qn : next s i h' with
    | none => rw [qn] at f'; exact f'.elim
    | some o =>
      rw [qn] at f' sn
      cases o with
      | none => exact .inl ⟨sn, f' ρ' H' σ' .refl rh' re'⟩
      | some w =>
        dsimp only at f' sn
        refine .inr ⟨sn.1, fun σ2 H2 => ∃ ρ2 e2 h2, RE (gx X G) pn ρ2 H2 e2 σ2 ∧ RH (gx X G) ρ2 h2 H2 ∧ SrcR (gx X G) ρ2 H2 s J ∧ AftS (gx X G) pn ρ2 H2 Wx (forS (next s) t d m (i + 1) e2 h2) D, fun σ2 H2 n => ⟨m, Nat.lt_succ_self m, n⟩, fun x H2 hy => ?_⟩
        obtain ⟨x2, rh2, rw2⟩ := sn.2 x H2 hy
        refine ⟨ρ', w, e', h', re'.ext x2, rh2, rw2, ?_⟩
        cases qt : t w e' h' with
        | ex z h1 => rw [qt] at f'; exact f'
        | bad => rw [qt] at f'; exact f'
        | ok e1 h1 =>
          rw [qt] at f'
          dsimp only at f'
          intro ρ3 H3 σ3 x3 rh3 re3 _ _
          refine ⟨ρ3, e1, h1, re3, rh3, ?_⟩
          have x13 := x2.trans x3
          cases qb : d e1 h1 with
          | nx e2 h2 => rw [qb] at f'; exact fun ρ4 H4 σ4 x4 rh4 re4 => ⟨ρ4, e2, h2, re4, rh4, sr'.ext (x13.trans x4), AftS.ext (x13.trans x4) f'⟩
          | ct e2 h2 => rw [qb] at f'; exact fun ρ4 H4 σ4 x4 rh4 re4 => ⟨ρ4, e2, h2, re4, rh4, sr'.ext (x13.trans x4), AftS.ext (x13.trans x4) f'⟩
          | bk e2 h2 => rw [qb] at f'; exact fun ρ4 H4 σ4 x4 rh4 re4 => f' ρ4 H4 σ4 (x13.trans x4) rh4 re4
          | rt w2 h2 => rw [qb] at f'; exact fun ρ4 H4 v x4 rh4 r4 => f' ρ4 H4 v (x13.trans x4) rh4 r4
          | ex z e2 h2 => rw [qb] at f'; exact fun ρ4 H4 σ4 cls dd x4 rh4 re4 rx4 => f' ρ4 H4 σ4 cls dd (x13.trans x4) rh4 re4 rx4
          | bad => rw [qb] at f'; exact f'
theorem ss_wh {ta : DB} (C : Cs X Wx) (hc : SB X G pn Wx a ta) (hb : SSs X G pn Wx body d) : SS X G pn Wx (.While a body [] pos) (sWh ta d) := PS.imp (ps_while C.pass hc hb) fun D σ H q => by
  obtain ⟨ρ, e, h, re, rh, f⟩ := q
  refine ⟨fun m σ' H' => ∃ ρ' e' h', RE (gx X G) pn ρ' H' e' σ' ∧ RH (gx X G) ρ' h' H' ∧ AftS (gx X G) pn ρ' H' Wx (whS ta d m e' h') D, ⟨FUEL, ρ, e, h, re, rh, f⟩, ?_⟩
  rintro m σ' H' ⟨ρ', e', h', re', rh', f'⟩
  cases m with
  | zero => exact f'.elim
  | succ m =>
    refine ⟨ρ', e', h', re', rh', ?_⟩
    unfold whS at f'
    cases qt : ta e' h' with
    | bad => rw [qt] at f'; exact f'
    | ex z h1 => rw [qt] at f'; exact fun ρ1 H1 cls dd x1 rh1 rx => f' ρ1 H1 σ' cls dd x1 rh1 (re'.ext x1) rx
    | ok c h1 =>
      rw [qt] at f'
      dsimp only at f'
      intro ρ1 H1 b x1 rh1 rb
      cases rb
      cases c with
      | false => rw [if_neg Bool.false_ne_true]; exact f' ρ1 H1 σ' x1 rh1 (re'.ext x1)
      | true =>
        rw [if_pos rfl]
        refine ⟨fun σ2 H2 => ∃ ρ2 e2 h2, RE (gx X G) pn ρ2 H2 e2 σ2 ∧ RH (gx X G) ρ2 h2 H2 ∧ AftS (gx X G) pn ρ2 H2 Wx (whS ta d m e2 h2) D, fun σ2 H2 n => ⟨m, Nat.lt_succ_self m, n⟩, ρ1, e', h1, re'.ext x1, rh1, ?_⟩
        dsimp only at f'
        cases qb : d e' h1 with
        | nx e2 h2 => rw [qb] at f'; exact fun ρ4 H4 σ4 x4 rh4 re4 => ⟨ρ4, e2, h2, re4, rh4, AftS.ext (x1.trans x4) f'⟩
        | ct e2 h2 => rw [qb] at f'; exact fun ρ4 H4 σ4 x4 rh4 re4 => ⟨ρ4, e2, h2, re4, rh4, AftS.ext (x1.trans x4) f'⟩
        | bk e2 h2 => rw [qb] at f'; exact fun ρ4 H4 σ4 x4 rh4 re4 => f' ρ4 H4 σ4 (x1.trans x4) rh4 re4
        | rt w2 h2 => rw [qb] at f'; exact fun ρ4 H4 v x4 rh4 r4 => f' ρ4 H4 v (x1.trans x4) rh4 r4
        | ex z e2 h2 => rw [qb] at f'; exact fun ρ4 H4 σ4 cls dd x4 rh4 re4 rx4 => f' ρ4 H4 σ4 cls dd (x1.trans x4) rh4 re4 rx4
        | bad => rw [qb] at f'; exact f'
end
/-! ### comprehensions -/
/-- a new list that is not yet the model's -/
def AftC (g : Gc) (ρ : List Addr) (H : Hp) (Wx : WX) (σ : L2.St) (r : Rs (List W)) (Q : VK) : Prop := match r with
  | .ok l h' => ∀ ρ' H' D vs, Ext ρ H ρ' H' → RH g ρ' h' H' → RWs g ρ' H' l vs → H' D = some (.lst vs) → D ∉ ρ' → H D = none → Q (.ref D) H'
  | .ex x h' => ∀ ρ' H' cls d, Ext ρ H ρ' H' → RH g ρ' h' H' → RX g ρ' H' x cls d → Wx cls d σ H'
  | .bad => False
def rdC (g : Gc) (pn : List PinT) (Wx : WX) (d : DL) : TE := fun σ H Q => ∃ ρ e h, RE g pn ρ H e σ ∧ RH g ρ h H ∧ AftC g ρ H Wx σ (d e h) Q
def SC (X : Cx) (G : G0) (pn : List PinT) (Wx : WX) (e : Expr) (d : DL) : Prop := PE X e (rdC (gx X G) pn Wx d)
def STs (X : Cx) (G : G0) (pn : List PinT) (Wx : WX) (es : List Expr) (d : DB) : Prop := PTs X es (rd (gx X G) pn rEqB Wx d)
theorem PTs.imp {X : Cx} {e : List Expr} {t t' : TT} (h : PTs X e t) (i : ∀ σ H Q, t' σ H Q → t σ H Q) : PTs X e t' := ⟨fun pins s σ H Q I q => h.run pins s σ H Q I (i σ H Q q)⟩
theorem AftC.ext {g : Gc} {ρ ρ' : List Addr} {H H' : Hp} {Wx : WX} {σ : L2.St} {r : Rs (List W)} {Q : VK} (x : Ext ρ H ρ' H') (h : AftC g ρ H Wx σ r Q) : AftC g ρ' H' Wx σ r Q := by
  cases r with
  | ok l h1 =>
    refine fun ρ2 H2 D vs y rh rs e nd h0 => h ρ2 H2 D vs (x.trans y) rh rs e nd ?_
    cases q : H D with
    | none => rfl
    | some u =>
      exfalso
      by_cases hr : D ∈ ρ
      · obtain ⟨z, hz⟩ := x.pre
        obtain ⟨z2, hz2⟩ := y.pre
        exact nd (by rw [hz2, hz]; simp [hr])
      · rw [x.frame D u q hr] at h0; cases h0
  | ex z h1 => exact fun ρ2 H2 c d y => h ρ2 H2 c d (x.trans y)
  | bad => exact h
theorem wipeRE {g : Gc} {ρ : List Addr} {H : Hp} {e : E} {σ : L2.St} (re : RE g [] ρ H e σ) : ∀ vs : List Nat, RE g [] ρ H (wipeE e vs) (wipe σ vs)
  | [] => re
  | v :: vs => by
    have ih := wipeRE re vs
    show RE g [] ρ H (setN (wipeE e vs) v none) ((wipe σ vs).set v none)
    rw [setND]
    refine ⟨by rw [List.length_set, List.length_set]; exact ih.len, fun i w h => ?_, by simp⟩
    by_cases q : i = v
    · subst q
      by_cases hl : i < (wipeE e vs).length
      · rw [List.getElem?_set_self hl] at h; cases h
      · rw [List.getElem?_eq_none (by simpa using hl)] at h; cases h
    · rw [List.getElem?_set_ne (Ne.symm q)] at h
      obtain ⟨v', h1, h2⟩ := ih.at_ i w h
      exact ⟨v', by rw [List.getElem?_set_ne (Ne.symm q)]; exact h1, h2⟩
theorem wipe_get {σ : L2.St} {i : Nat} : ∀ {vs : List Nat}, i < σ.length → (wipe σ vs)[i]? = if i ∈ vs then some none else σ[i]?
  | [], _ => by simp [wipe]
  | v :: vs, h => by
    show ((wipe σ vs).set v none)[i]? = _
    by_cases q : i = v
    · subst q
      rw [List.getElem?_set_self (by rw [wipe_length]; exact h)]
      simp
    · rw [List.getElem?_set_ne (Ne.symm q), wipe_get h]
      simp [q]
theorem wipe_same {σ σ2 : L2.St} {vs : List Nat} (hl : σ2.length = σ.length) (h : ∀ j, j ∉ vs → σ2[j]? = (wipe σ vs)[j]?) : wipe σ2 vs = wipe σ vs := by
  apply List.ext_getElem?
  intro i
  by_cases hi : i < σ.length
  · rw [wipe_get (by rw [hl]; exact hi), wipe_get hi]
    by_cases q : i ∈ vs
    · simp [q]
    · rw [if_neg q, if_neg q, h i q, wipe_get hi, if_neg q]
  · rw [List.getElem?_eq_none (by rw [wipe_length]; omega), List.getElem?_eq_none (by rw [wipe_length]; omega)]
section
variable {X : Cx} {G : G0} {Wx : WX} {pos p : Pos} {tg iter elt a : Expr} {ifs : List Expr} {scope : Scope} {own : List (Str × Nat)} {src : DI} {t : TGW} {sl : List Nat} {cnd : DB} {del : D}
theorem sts_nil {pn : List PinT} : STs X G pn Wx [] tYes := PTs.imp pts_nil fun σ H Q q => by
  obtain ⟨ρ, e, h, re, rh, a⟩ := q
  exact a.go .refl rh rfl
theorem sts_one {pn : List PinT} {c : Expr} {d : DB} (h : SB X G pn Wx c d) : STs X G pn Wx [c] d := pts_one h
/-- a turn of the comprehension's loop: what the machine's reading asks -/
theorem lc_turn {g : Gc} {ρ1 : List Addr} {H1 : Hp} {σ : L2.St} {e : E} {J : It} {s : Src} {vs : List Nat} {D : Addr} {Q : VK} (hsl : ∀ j ∈ sl, j ∈ vs) (re1 : RE g [] ρ1 H1 e σ) (rh1 : RH g ρ1 h1 H1) (sr : SrcR g ρ1 H1 s J) (hD : H1 D = none)
    (a : AftC g ρ1 H1 Wx σ ((lcA (next s) t cnd del (wipeE e vs) FUEL 0 [] h1).bind fun acc h2 => .ok (rv acc []) h2) Q) :
    ∃ W : Nat → Nat → Hp → Prop, (∃ m, W 0 m (upd H1 D (.lst []))) ∧ ∀ i m H, W i m H →
      (J.stop i H ∧ Q (.ref D) H) ∨ (J.go i H ∧ ∃ Nx : Hp → Prop, (∀ H', Nx H' → ∃ m', m' < m ∧ W (i + 1) m' H') ∧ ∀ x H', J.yld i H x H' → rdT g [] sl t x (wipe σ vs) H' fun σ2 H2 => wipe σ2 vs = wipe σ vs ∧ rd g [] rEqB F0 cnd σ2 H2 fun b H3 =>
        if b = true then rd g [] (RW g) F0 del σ2 H3 fun y H4 => ∃ acc, H4 D = some (.lst acc) ∧ acc.length < sizeLine ∧ Nx (upd H4 D (.lst (acc ++ [y]))) else Nx H3) := by
  have nD : D ∉ ρ1 := fun z => by obtain ⟨u, e, _⟩ := rh1.nt D z; rw [hD] at e; cases e
  refine ⟨fun i m Hc => ∃ ρ' h' acc ws, Ext ρ1 H1 ρ' Hc ∧ RH g ρ' h' Hc ∧ RWs g ρ' Hc acc.reverse ws ∧ Hc D = some (.lst ws) ∧ D ∉ ρ' ∧ acc.length ≤ i ∧ i + m ≤ FUEL ∧
    AftC g ρ1 H1 Wx σ ((lcA (next s) t cnd del (wipeE e vs) m i acc h').bind fun acc h2 => .ok (rv acc []) h2) Q, ⟨FUEL, ρ1, h1, [], [], .new hD, rh1.new hD, .nil, upd_same, nD, Nat.le_refl _, by omega, a⟩, ?_⟩
  rintro i m Hc ⟨ρ', h', acc, ws, x, rh, rs, eD, nD', la, lm, a⟩
  cases m with
  | zero => exact a.elim
  | succ m =>
    have sn := sr ρ' Hc h' i x.w rh
    unfold lcA at a
    cases qn : next s i h' with
    | none => rw [qn] at a; exact a.elim
    | some o =>
      rw [qn] at a sn
      cases o with
      | none =>
        have a : AftC g ρ1 H1 Wx σ (.ok (rv acc []) h') Q := a
        refine .inl ⟨sn, a ρ' Hc D ws x rh ?_ eD nD' hD⟩
        rw [rvD, List.append_nil]
        exact rs
      | some w =>
        dsimp only at a sn
        refine .inr ⟨sn.1, fun H' => ∃ ρ' h' acc ws, Ext ρ1 H1 ρ' H' ∧ RH g ρ' h' H' ∧ RWs g ρ' H' acc.reverse ws ∧ H' D = some (.lst ws) ∧ D ∉ ρ' ∧ acc.length ≤ i + 1 ∧ i + 1 + m ≤ FUEL ∧
          AftC g ρ1 H1 Wx σ ((lcA (next s) t cnd del (wipeE e vs) m (i + 1) acc h').bind fun acc h2 => .ok (rv acc []) h2) Q, fun H' n => ⟨m, Nat.lt_succ_self m, n⟩, fun v H2 hy => ?_⟩
        obtain ⟨x2, rh2, rw2⟩ := sn.2 v H2 hy
        have D2 : H2 D = some (.lst ws) := x2.frame D _ eD nD'
        have reW := wipeRE (re1.ext (x.trans x2)) vs
        refine ⟨ρ', w, wipeE e vs, h', reW, rh2, rw2, ?_⟩
        cases qt : t w (wipeE e vs) h' with
        | ex z hh => rw [qt] at a; exact a
        | bad => rw [qt] at a; exact a
        | ok e1 hh =>
          rw [qt] at a
          dsimp only at a
          intro ρ3 H3 σ3 x3 rh3 re3 s3 l3
          have mem : ∀ {ρa Ha ρb Hb}, Ext ρa Ha ρb Hb → D ∉ ρa → (∃ u, Ha D = some u) → D ∉ ρb := fun {ρa Ha ρb Hb} y n ⟨u, e⟩ z => by
            rcases y.fresh D z with q | q
            · exact n q
            · rw [e] at q; cases q
          have nD3 : D ∉ ρ3 := mem x3 nD' ⟨_, D2⟩
          have D3 : H3 D = some (.lst ws) := x3.frame D _ D2 nD'
          refine ⟨wipe_same (by rw [l3, wipe_length]) fun j hj => s3 j fun z => hj (hsl j z), ρ3, e1, hh, re3, rh3, ?_⟩
          cases qc : cnd e1 hh with
          | ex z h2 => rw [qc] at a; exact a.elim
          | bad => rw [qc] at a; exact a
          | ok c h2 =>
            rw [qc] at a
            dsimp only at a
            intro ρ4 H4 b x4 rh4 rb
            cases rb
            have nD4 : D ∉ ρ4 := mem x4 nD3 ⟨_, D3⟩
            have D4 : H4 D = some (.lst ws) := x4.frame D _ D3 nD3
            have x14 := ((x.trans x2).trans x3).trans x4
            cases c with
            | false =>
              rw [if_neg Bool.false_ne_true]
              exact ⟨ρ4, h2, acc, ws, x14, rh4, (((rs.ext x2).ext x3).ext x4), D4, nD4, by omega, by omega, a⟩
            | true =>
              rw [if_pos rfl]
              refine ⟨ρ4, e1, h2, re3.ext x4, rh4, ?_⟩
              dsimp only at a
              cases qe : del e1 h2 with
              | ex z h3 => rw [qe] at a; exact a.elim
              | bad => rw [qe] at a; exact a
              | ok y h3 =>
                rw [qe] at a
                intro ρ5 H5 vy x5 rh5 ry
                have nD5 : D ∉ ρ5 := mem x5 nD4 ⟨_, D4⟩
                have D5 : H5 D = some (.lst ws) := x5.frame D _ D4 nD4
                have rs5 := (((rs.ext x2).ext x3).ext x4).ext x5
                refine ⟨ws, D5, ?_, ρ5, h3, y :: acc, ws ++ [vy], (x14.trans x5).out (u := .lst ws) hD, rh5.out nD5 D5 (fun _ => nofun), ?_, upd_same, nD5, by rw [List.length_cons]; omega, by omega, a⟩
                · rw [← rs.length, List.length_reverse, sizeLine_eq]
                  have : FUEL = 1000000 := rfl
                  omega
                · rw [List.reverse_cons]
                  exact (rs5.app (.cons ry .nil)).out D5 (fun _ => nofun)
theorem sc_lc (C : Cs X Wx) (hi : SI X G [] Wx tg iter src) (hg : ∀ (s : Shared) (H : Hp) (C : Addr) (cl : List (Str × Addr)) (fp : List Addr), SG (X.blk s H scope (compEnvC scope cl C X.env) fp) G [] sl tg t)
    (ht : ∀ (s : Shared) (H : Hp) (C : Addr) (cl : List (Str × Addr)) (fp : List Addr), STs (X.blk s H scope (compEnvC scope cl C X.env) fp) G [] F0 ifs cnd)
    (he : ∀ (s : Shared) (H : Hp) (C : Addr) (cl : List (Str × Addr)) (fp : List Addr), SE (X.blk s H scope (compEnvC scope cl C X.env) fp) G [] F0 elt del)
    (hsl : ∀ j ∈ sl, j ∈ own.map (·.2) := by decide) (ok : blkC X.N X.env.scope scope own = true := by kernel_rfl) (hs : ∀ x, foldedSetIterable iter X.env x = pure x := by intro _; rfl) :
    SC X G [] Wx (.ListComp elt [⟨tg, iter, ifs, 0⟩] scope pos) (cLc src t cnd del (own.map (·.2))) := PE.imp (pe_lc (g := rdT (gx X G) [] sl t) (tt := rd (gx X G) [] rEqB F0 cnd) (te := rd (gx X G) [] (RW (gx X G)) F0 del) C.calm C.nd hi (blkOk_by ok) hg ht he hs) fun σ H Q q => by
  obtain ⟨ρ, e, h, re, rh, a⟩ := q
  refine ⟨ρ, e, h, re, rh, ?_⟩
  unfold cLc at a
  cases qs : src e h with
  | bad => rw [qs] at a; exact a
  | ex z h1 => rw [qs] at a; exact a
  | ok s h1 =>
    rw [qs] at a
    intro ρ1 H1 J x1 rh1 sr D hD
    exact lc_turn hsl (re.ext x1) rh1 sr hD (AftC.ext x1 a)
end
end PW

set_option Elab.async false
set_option linter.all false
set_option maxRecDepth 100000
set_option maxHeartbeats 1000000
/-! PWb: what is made of comprehensions; range, isinstance, append. -/
namespace PW
open PySem PySem.Spec PyProof.Rows L2
section
variable {g : Gc} {ρ ρ' : List Addr} {h : Hq} {H H' : Hp} {p : Addr}
theorem RH.adopt {o : HO} {ob : Ob} (r : RH g ρ h H) (e : H p = some o) (np : p ∉ ρ) (hl : h.n < LINE) (nt : NT o) (ro : RO g (ρ ++ [p]) H ob p) : RH g (ρ ++ [p]) (h.push ob) H := by
  have up : ∀ (n : Nat) (a : Addr), ρ[n]? = some a → (ρ ++ [p])[n]? = some a := fun n a z => by
    rw [List.getElem?_append_left (List.getElem?_eq_some_iff.mp z).1]; exact z
  refine ⟨by simp [r.len, Hq.push], by show h.n + 1 ≤ LINE; omega, ?_, fun n u a h1 h2 => ?_, fun a ha => ?_⟩
  · rw [List.nodup_append]
    exact ⟨r.nd, by simp, fun x hx y hy z => np (by rw [List.mem_singleton.mp hy] at z; exact z ▸ hx)⟩
  · rw [Hq.get_push hl] at h1
    by_cases e : n = h.n
    · rw [if_pos e] at h1
      cases h1
      subst e
      rw [← r.len, List.getElem?_append_right (Nat.le_refl _)] at h2
      simp at h2
      rw [← h2]; exact ro
    · rw [if_neg e] at h1
      have hn : n < ρ.length := by rw [r.len]; exact Hq.get_lt h1
      rw [List.getElem?_append_left hn] at h2
      exact (r.ob n u a h1 h2).ext0 up (fun _ _ _ q => q) fun _ q => q
  · rcases List.mem_append.mp ha with z | z
    · exact r.nt a z
    · rw [List.mem_singleton.mp z]
      exact ⟨o, e, nt⟩
theorem Ext.adopt (x : Ext ρ H ρ' H') (h0 : H p = none) : Ext ρ H (ρ' ++ [p]) H' := by
  obtain ⟨z, hz⟩ := x.pre
  refine ⟨⟨z ++ [p], by rw [hz, List.append_assoc]⟩, fun a ha => ?_, x.frame, x.tups⟩
  rcases List.mem_append.mp ha with q | q
  · exact x.fresh a q
  · right; rw [List.mem_singleton.mp q]; exact h0
end
section
variable {X : Cx} {G : G0} {Wx : WX} {pn : List PinT} {pos p p2 : Pos} {a b e : Expr} {es : List Expr} {da db : D} {dl c : DL}
theorem rdC.imp {g : Gc} {σ : L2.St} {H : Hp} {Q Q' : VK} {d : D} (q : rd g pn (RW g) Wx d σ H Q)
    (i : ∀ (ρ : List Addr) (e : E) (h : Hq), RE g pn ρ H e σ → RH g ρ h H → Aft g (RW g) ρ H Wx σ (d e h) Q → AftC g ρ H Wx σ (c e h) Q') : rdC g pn Wx c σ H Q' := by
  obtain ⟨ρ, e, h, re, rh, a⟩ := q
  exact ⟨ρ, e, h, re, rh, i ρ e h re rh a⟩
/-- [..] as a value -/
theorem cnew_rd {g : Gc} {σ : L2.St} {H : Hp} {Q : VK} (q : rd g pn (RW g) Wx (cNew c) σ H Q) : rdC g pn Wx c σ H Q := rdC.imp q fun ρ e h re rh a => by
  unfold cNew at a
  cases qc : c e h with
  | bad => rw [qc] at a; exact a
  | ex x h1 => rw [qc] at a; exact a
  | ok l h1 =>
    rw [qc] at a
    intro ρ1 H1 D vs x1 rh1 rs eD nD h0
    simp only [Rs.bind] at a
    rw [bleD, lenD] at a
    by_cases ql : l.length ≤ LIM
    · rw [decide_eq_true ql] at a
      dsimp only at a
      unfold mk at a
      rw [bltD] at a
      by_cases qn : h1.n < LINE
      · rw [decide_eq_true qn] at a
        have rs' : RWs g (ρ1 ++ [D]) H1 l vs := rs.ext0 (fun n a z => by rw [List.getElem?_append_left (List.getElem?_eq_some_iff.mp z).1]; exact z) fun _ _ _ q => q
        refine a.go (x1.adopt h0) (rh1.adopt eD nD qn (fun _ => nofun) ⟨vs, eD, rs'⟩) (.ref ?_)
        rw [← rh1.len, List.getElem?_append_right (Nat.le_refl _)]
        simp
      · rw [decide_eq_false qn] at a; exact a.elim
    · rw [decide_eq_false ql] at a; exact a.elim
theorem se_cnew (hs : SC X G pn Wx e c) : SE X G pn Wx e (cNew c) := PE.imp hs fun _ _ _ => cnew_rd
/-- tuple([..]) -/
theorem se_ctup (g : X.mg "tuple" = none) (hs : SC X G pn Wx e c) (hg : Gl X "tuple" := by rfl) (na : starEach (e :: []) X.env = (false, eval e X.env) :: starEach [] X.env := by rfl) (hpl : (backTo pos (starEach [] X.env)).any (·.1) = false := by rfl) :
    SE X G pn Wx (.Call (.Name "tuple" p) [e] [] pos) (cTup c) := PE.imp (pe_callTy call_tuple_of hg g PyProof.Rows.boot_tuple (pa_cons hs pa_nil na) (by decide) (by decide) na hpl) fun σ H Q q => by
  show rdC (gx X G) pn Wx c σ H _
  refine rdC.imp q fun ρ e h re rh a => ?_
  unfold cTup at a
  cases qc : c e h with
  | bad => rw [qc] at a; exact a
  | ex x h1 => rw [qc] at a; exact a
  | ok l h1 =>
    rw [qc] at a
    intro ρ1 H1 D vs x1 rh1 rs eD nD h0
    simp only [Rs.bind] at a
    rw [bleD, lenD] at a
    by_cases ql : l.length ≤ LIM
    · rw [decide_eq_true ql] at a
      exact ⟨D, vs, rfl, .inl ⟨.of eD, fun t ht => a.go (x1.trans (.new ht)) (rh1.new ht) (.tup upd_same (rs.ext (.new ht)))⟩⟩
    · rw [decide_eq_false ql] at a; exact a.elim
/-- all([..]) -/
theorem se_call_all (C : Cs X Wx) (g : X.mg "all" = none) (hs : SC X G pn Wx e c) (hg : Gl X "all" := by rfl) (na : starEach (e :: []) X.env = (false, eval e X.env) :: starEach [] X.env := by rfl) (hpl : (backTo pos (starEach [] X.env)).any (·.1) = false := by rfl) :
    SE X G pn Wx (.Call (.Name "all" p) [e] [] pos) (cAll c) := PE.imp (pe_callB (cr_all C.calm) hg g PyProof.Rows.boot_all (pa_cons hs pa_nil na) (by decide) (by decide) na hpl) fun σ H Q q => by
  show rdC (gx X G) pn Wx c σ H _
  refine rdC.imp q fun ρ e h re rh a => ?_
  unfold cAll at a
  cases qc : c e h with
  | bad => rw [qc] at a; exact a
  | ex x h1 => rw [qc] at a; exact a
  | ok l h1 =>
    rw [qc] at a
    intro ρ1 H1 D vs x1 rh1 rs eD nD h0
    simp only [Rs.bind] at a
    rw [bleD, lenD] at a
    by_cases ql : l.length ≤ LIM
    · rw [decide_eq_true ql] at a
      dsimp only at a
      cases q3 : allB l with
      | none => rw [q3] at a; exact a.elim
      | some b =>
        rw [q3] at a
        obtain ⟨bs, h4, h5⟩ := allB_v rs q3
        subst h4
        exact ⟨D, bs, rfl, .of eD, by rw [h5]; exact a.go x1 rh1 (.bl _)⟩
    · rw [decide_eq_false ql] at a; exact a.elim
/-- the context of a comprehension's block -/
theorem Cs.blk (C : Cs X Wx) (s : Shared) (H : Hp) (scope : Scope) (cenv : Env) (fp : List Addr) : Cs (X.blk s H scope cenv fp) F0 := ⟨C.calm, C.nd, .never, LamX.takes0, C.un⟩
end
end PW

set_option Elab.async false
set_option linter.all false
set_option maxRecDepth 100000
set_option maxHeartbeats 1000000
/-! PWc: y = [..]; in range(n); list(range(n)). -/
namespace PW
open PySem PySem.Spec PyProof.Rows L2
section
variable {X : Cx} {G : G0} {Wx : WX} {pos p : Pos} {tg iter elt a : Expr} {ifs : List Expr} {scope : Scope} {own : List (Str × Nat)} {src : DI} {t : TGW} {sl : List Nat} {cnd : DB} {del : D}
theorem lc_rd {vs : List Nat} {σ : L2.St} {H : Hp} {Q : VK} (hsl : ∀ j ∈ sl, j ∈ vs) (q : rdC (gx X G) [] Wx (cLc src t cnd del vs) σ H Q) :
    L2.tLc (rd (gx X G) [] (SrcR (gx X G)) Wx src) (rdT (gx X G) [] sl t) (rd (gx X G) [] rEqB F0 cnd) (rd (gx X G) [] (RW (gx X G)) F0 del) vs σ H Q := by
  obtain ⟨ρ, e, h, re, rh, a⟩ := q
  refine ⟨ρ, e, h, re, rh, ?_⟩
  unfold cLc at a
  cases qs : src e h with
  | bad => rw [qs] at a; exact a
  | ex z h1 => rw [qs] at a; exact a
  | ok s h1 =>
    rw [qs] at a
    intro ρ1 H1 J x1 rh1 sr D hD
    exact lc_turn hsl (re.ext x1) rh1 sr hD (AftC.ext x1 a)
/-- y = [..] on one line -/
theorem ss_setlc (i : Nat) (C : Cs X Wx) {y : Str} {py spos : Pos} (hi : SI X G [] Wx tg iter src) (hg : ∀ (s : Shared) (H : Hp) (C : Addr) (cl : List (Str × Addr)) (fp : List Addr), SG (X.blk s H scope (compEnvC scope cl C X.env) fp) G [] sl tg t)
    (ht : ∀ (s : Shared) (H : Hp) (C : Addr) (cl : List (Str × Addr)) (fp : List Addr), STs (X.blk s H scope (compEnvC scope cl C X.env) fp) G [] F0 ifs cnd)
    (he : ∀ (s : Shared) (H : Hp) (C : Addr) (cl : List (Str × Addr)) (fp : List Addr), SE (X.blk s H scope (compEnvC scope cl C X.env) fp) G [] F0 elt del)
    (hsl : ∀ j ∈ sl, j ∈ own.map (·.2) := by decide) (ok : blkC X.N X.env.scope scope own = true := by kernel_rfl) (hs : ∀ x, foldedSetIterable iter X.env x = pure x := by intro _; rfl)
    (hy : X.N[i]? = some y := by rfl) (hyl : X.env.scope.names.lookup y = some .local := by rfl) (hsw : swapsWith (.ListComp elt [⟨tg, iter, ifs, 0⟩] scope pos) (some (.Name y py)) spos.line X.env = pure true := by exact sw_true rfl rfl rfl rfl) :
    SS X G [] Wx (.Assign [.Name y py] (.ListComp elt [⟨tg, iter, ifs, 0⟩] scope pos) spos) (sAsg (cNew (cLc src t cnd del (own.map (·.2)))) (tN i)) :=
  PS.imp (ps_setLc (g := rdT (gx X G) [] sl t) (tt := rd (gx X G) [] rEqB F0 cnd) (te := rd (gx X G) [] (RW (gx X G)) F0 del) C.calm C.nd hy hyl hsw hi (blkOk_by ok) hg ht he hs) fun D σ H q => by
  refine lc_rd hsl (cnew_rd ((rdS_bind (k := fun e w h => match tN i w e h with | .ok e1 h2 => .nx e1 h2 | _ => .bad) q).imp ?_))
  rintro v H1 ⟨ρ, e, w, h, re, rh, r, f⟩
  exact f ρ H1 _ .refl rh (re.set r (by simp))
end
section
variable {X : Cx} {G : G0} {Wx : WX} {pn : List PinT} {pos pos' p p2 : Pos} {a b e : Expr} {es : List Expr} {da db : D}
theorem cr_range1 : CallR X (.type "range") (fun vs H Q => ∃ j, vs = [V.int j] ∧ ∀ p, H p = none → Q (.ref p) (upd H p (.rng 0 j))) := by
  intro pins s σ H vs us Q I r h
  obtain ⟨j, rfl, q⟩ := h
  obtain ⟨u, rfl, ru⟩ := vals1 r
  obtain ⟨t, rfl⟩ := ru
  refine call_range_1 ⟨.ref s.heap.objs.size, upd H s.heap.objs.size (.rng 0 j), I.laid (t' := s.toks + 2) (fun b o e => Heap.get?_push_of_some _ e) (Nat.le_refl _) ?_, rfl, q _ (I.hok.fresh (Nat.le_refl _))⟩
  exact ⟨_, _, _, Heap.get?_push_size _ rfl⟩
theorem op_notin_rng : OpR X (compareOp .NotIn) (fun x y H Q => ∃ i a lo hi, x = V.int i ∧ y = V.ref a ∧ H a = some (.rng lo hi) ∧ Q (.bl (!decide (lo ≤ i ∧ i < hi))) H) := by
  intro pins s σ H x y v u Q I rx ry h
  obtain ⟨i, a, lo, hi, rfl, rfl, ha, q⟩ := h
  obtain ⟨k, rfl⟩ := rx
  obtain rfl : u = Value.ref a := ry
  obtain ⟨t1, t2, t3, ho⟩ := I.hok a _ ha
  show wpAny _ _ (do return Value.bool (!(← contains (Value.ref a) (Value.int i k)))) _ _ s
  refine wpAny_bind (wpAny_contains_slot (T := "range") ⟨_, ho, rfl⟩ F.slot_range_contains (call_meets F.slot_range_contains ⟨_, ho, rfl⟩ F.entry_range_contains (F.args_range_contains_2 _ _) (q_contains a lo hi i t1 t2 t3 k)
    ⟨ho, wpAny_truthy_bool (wpAny_pure ⟨.bl _, H, I, rfl, ?_⟩)⟩))
  rw [place1]
  exact q
theorem inr_i {i n : Int} : ((iLt (-1) i && iLt i n) = true) = (0 ≤ i ∧ i < n) := by
  rw [iLtD, iLtD, Bool.and_eq_true, decide_eq_true_eq, decide_eq_true_eq]
  exact propext ⟨fun h => ⟨by omega, h.2⟩, fun h => ⟨by omega, h.2⟩⟩
theorem inr_rd {neg : Bool} {σ : L2.St} {H : Hp} {Q : VK} (q : rd (gx X G) pn (RW (gx X G)) Wx (dInR neg da db) σ H Q) :
    rd (gx X G) pn (RW (gx X G)) Wx da σ H fun x H1 => rd (gx X G) pn (RW (gx X G)) Wx db σ H1 fun y H2 => ∃ i j, x = .int i ∧ y = .int j ∧ ∀ p, H2 p = none → Q (.bl (if 0 ≤ i ∧ i < j then !neg else neg)) (upd H2 p (.rng 0 j)) := by
  refine (rd.bind q).imp ?_
  rintro x H1 ⟨ρ, e, wx, h, re, rh, rx, af⟩
  refine ⟨ρ, e, h, re, rh, (Aft.bind af).imp ?_⟩
  rintro y H2 ⟨ρ2, wy, h2, x2, rh2, ry, af2⟩
  cases rx <;> first | exact af2.elim | skip
  rename_i i
  cases ry <;> first | exact af2.elim | skip
  rename_i j
  dsimp only at af2
  by_cases c : (iLt (-SM) j && iLt j SM) = true
  · rw [c] at af2
    refine ⟨i, j, rfl, rfl, fun p hp => af2.go (.new hp) (rh2.new hp) ?_⟩
    by_cases z : (iLt (-1) i && iLt i j) = true
    · rw [z, if_pos (inr_i ▸ z)]; exact .bl _
    · rw [if_neg (fun y => z (inr_i ▸ y)), Bool.eq_false_iff.mpr z]; exact .bl _
  · rw [Bool.eq_false_iff.mpr c] at af2; exact af2.elim
theorem se_inr (g : X.mg "range" = none) (ha : SE X G pn Wx a da) (hb : SE X G pn Wx b db) (hg : Gl X "range" := by rfl) (na : starEach (b :: []) X.env = (false, eval b X.env) :: starEach [] X.env := by rfl)
    (hpl : (backTo p2 (starEach [] X.env)).any (·.1) = false := by rfl) (hm : behindInMarks .In (.Call (.Name "range" p) [b] [] p2) = false := by rfl) : SE X G pn Wx (.Compare a [.In] [.Call (.Name "range" p) [b] [] p2] pos) (dInR false da db) :=
  PE.imp (pe_cmpR op_in_rng ha (pe_callTy cr_range1 hg g PyProof.Rows.boot_range (pa_cons hb pa_nil na) (by decide) (by decide) na hpl) hm) fun σ H Q q => by
  refine (inr_rd q).imp fun x H1 q1 => q1.imp ?_
  rintro y H2 ⟨i, j, rfl, rfl, f⟩
  refine ⟨j, rfl, fun p hp => ⟨i, p, 0, j, rfl, rfl, upd_same, ?_⟩⟩
  have := f p hp
  by_cases c : 0 ≤ i ∧ i < j
  · rw [if_pos c] at this; rw [decide_eq_true c]; exact this
  · rw [if_neg c] at this; rw [decide_eq_false c]; exact this
theorem se_notinr (g : X.mg "range" = none) (ha : SE X G pn Wx a da) (hb : SE X G pn Wx b db) (hg : Gl X "range" := by rfl) (na : starEach (b :: []) X.env = (false, eval b X.env) :: starEach [] X.env := by rfl)
    (hpl : (backTo p2 (starEach [] X.env)).any (·.1) = false := by rfl) (hm : behindInMarks .NotIn (.Call (.Name "range" p) [b] [] p2) = false := by rfl) : SE X G pn Wx (.Compare a [.NotIn] [.Call (.Name "range" p) [b] [] p2] pos) (dInR true da db) :=
  PE.imp (pe_cmpR op_notin_rng ha (pe_callTy cr_range1 hg g PyProof.Rows.boot_range (pa_cons hb pa_nil na) (by decide) (by decide) na hpl) hm) fun σ H Q q => by
  refine (inr_rd q).imp fun x H1 q1 => q1.imp ?_
  rintro y H2 ⟨i, j, rfl, rfl, f⟩
  refine ⟨j, rfl, fun p hp => ⟨i, p, 0, j, rfl, rfl, upd_same, ?_⟩⟩
  have := f p hp
  by_cases c : 0 ≤ i ∧ i < j
  · rw [if_pos c] at this; rw [decide_eq_true c]; exact this
  · rw [if_neg c] at this; rw [decide_eq_false c]; exact this
theorem st_inr (g : X.mg "range" = none) (ha : SE X G pn Wx a da) (hb : SE X G pn Wx b db) (hg : Gl X "range" := by rfl) (na : starEach (b :: []) X.env = (false, eval b X.env) :: starEach [] X.env := by rfl)
    (hpl : (backTo p2 (starEach [] X.env)).any (·.1) = false := by rfl) (hm : behindInMarks .In (.Call (.Name "range" p) [b] [] p2) = false := by rfl) : SB X G pn Wx (.Compare a [.In] [.Call (.Name "range" p) [b] [] p2] pos) (tVal (dInR false da db)) :=
  PT.imp (pt_cmpR op_in_rng ha (pe_callTy cr_range1 hg g PyProof.Rows.boot_range (pa_cons hb pa_nil na) (by decide) (by decide) na hpl) hm) fun σ H Q q => by
  refine (inr_rd (rd_val q)).imp fun x H1 q1 => q1.imp ?_
  rintro y H2 ⟨i, j, rfl, rfl, f⟩
  refine ⟨j, rfl, fun p hp => ⟨i, p, 0, j, rfl, rfl, upd_same, ?_⟩⟩
  have := f p hp
  by_cases c : 0 ≤ i ∧ i < j
  · rw [if_pos c] at this; rw [decide_eq_true c]; exact this
  · rw [if_neg c] at this; rw [decide_eq_false c]; exact this
theorem st_notinr (g : X.mg "range" = none) (ha : SE X G pn Wx a da) (hb : SE X G pn Wx b db) (hg : Gl X "range" := by rfl) (na : starEach (b :: []) X.env = (false, eval b X.env) :: starEach [] X.env := by rfl)
    (hpl : (backTo p2 (starEach [] X.env)).any (·.1) = false := by rfl) (hm : behindInMarks .NotIn (.Call (.Name "range" p) [b] [] p2) = false := by rfl) : SB X G pn Wx (.Compare a [.NotIn] [.Call (.Name "range" p) [b] [] p2] pos) (tVal (dInR true da db)) :=
  PT.imp (pt_cmpR op_notin_rng ha (pe_callTy cr_range1 hg g PyProof.Rows.boot_range (pa_cons hb pa_nil na) (by decide) (by decide) na hpl) hm) fun σ H Q q => by
  refine (inr_rd (rd_val q)).imp fun x H1 q1 => q1.imp ?_
  rintro y H2 ⟨i, j, rfl, rfl, f⟩
  refine ⟨j, rfl, fun p hp => ⟨i, p, 0, j, rfl, rfl, upd_same, ?_⟩⟩
  have := f p hp
  by_cases c : 0 ≤ i ∧ i < j
  · rw [if_pos c] at this; rw [decide_eq_true c]; exact this
  · rw [if_neg c] at this; rw [decide_eq_false c]; exact this
/-! list(range(n)) -/
theorem rngL_v {g : Gc} {ρ : List Addr} {H : Hp} : ∀ (n : Nat) {a : List W} {vs : List V}, RWs g ρ H a vs → RWs g ρ H (rngL n a) ((List.range n).map (fun i => V.int (i : Nat)) ++ vs)
  | 0, _, _, r => r
  | n + 1, a, vs, r => by
    rw [List.range_succ, List.map_append, List.append_assoc]
    exact rngL_v n (.cons (.int _) r)
theorem se_lrng (C : Cs X Wx) (g1 : X.mg "list" = none) (g : X.mg "range" = none) (ha : SE X G pn Wx a da) (hl : Gl X "list" := by rfl) (hg : Gl X "range" := by rfl) (na : starEach [a] X.env = (false, eval a X.env) :: starEach [] X.env := by rfl)
    (nb : starEach [.Call (.Name "range" p2) [a] [] p] X.env = (false, eval (.Call (.Name "range" p2) [a] [] p) X.env) :: starEach [] X.env := by rfl) : SE X G pn Wx (.Call (.Name "list" pos') [.Call (.Name "range" p2) [a] [] p] [] pos) (dLrng da) :=
  PE.imp (pe_listRg C.calm hl g1 (prg_1 hg g ha na) nb) fun σ H Q q => by
  refine (rd.bind q).imp ?_
  rintro x H1 ⟨ρ, e, wx, h, re, rh, rx, af⟩
  cases rx <;> first | exact af.elim | skip
  rename_i j
  dsimp only at af
  by_cases c : (iLt (-SM) j && iLt j 100000) = true
  · rw [c] at af
    have c' := c
    rw [iLtD, iLtD, Bool.and_eq_true, decide_eq_true_eq, decide_eq_true_eq] at c'
    have hsm : SM = 1000000000 := rfl
    refine ⟨j, rfl, ⟨by omega, by omega, by omega, by omega, by omega⟩, fun t ht => aft_lst af rh ?_ ht⟩
    have := rngL_v (g := gx X G) (ρ := ρ) (H := H1) j.toNat .nil
    rw [List.append_nil] at this
    unfold rgV
    rw [Int.sub_zero]
    simpa using this
  · rw [Bool.eq_false_iff.mpr c] at af; exact af.elim
end
end PW

set_option Elab.async false
set_option linter.all false
set_option maxRecDepth 100000
set_option maxHeartbeats 1000000
/-! PWd: isinstance, append. -/
namespace PW
open PySem PySem.Spec PyProof.Rows L2
def kit (nm n : String) : Bool := decide (n = nm) || (decide (nm = "bool") && decide (n = "int"))
theorem t5_in {n : String} (h : t5 n = true) : n ∈ ["int", "bool", "str", "tuple", "list"] := by
  unfold t5 at h
  split at h <;> first | simp; done | cases h
theorem kit_all : ∀ nm ∈ ["NoneType", "bool", "int", "str", "tuple", "list"], ∀ n ∈ ["int", "bool", "str", "tuple", "list"], kitB nm n = some (kit nm n) := by decide +kernel
theorem isOf_v {g : Gc} {ρ : List Addr} {h : Hq} {H : Hp} {w : W} {v : V} {n0 : String} {b0 : Bool} (rh : RH g ρ h H) (r : RW g ρ H w v) (e : isOf h n0 w = some b0) :
    ∃ nm ∈ ["NoneType", "bool", "int", "str", "tuple", "list"], TyX g.K H v (.type nm) ∧ ∀ n ∈ ["int", "bool", "str", "tuple", "list"], isOf h n w = some (kit nm n) := by
  cases r with
  | non => exact ⟨"NoneType", by simp, .base .non, fun n hn => by simp at hn; rcases hn with rfl | rfl | rfl | rfl | rfl <;> rfl⟩
  | bl b => exact ⟨"bool", by simp, .base (.bl b), fun n hn => by simp at hn; rcases hn with rfl | rfl | rfl | rfl | rfl <;> rfl⟩
  | int i => exact ⟨"int", by simp, .base (.int i), fun n hn => by simp at hn; rcases hn with rfl | rfl | rfl | rfl | rfl <;> rfl⟩
  | str i => exact ⟨"str", by simp, .base (.str i), fun n hn => by simp at hn; rcases hn with rfl | rfl | rfl | rfl | rfl <;> rfl⟩
  | tup ht rs => exact ⟨"tuple", by simp, .base (.tup ht), fun n hn => by simp at hn; rcases hn with rfl | rfl | rfl | rfl | rfl <;> rfl⟩
  | ktup ht rs => exact ⟨"tuple", by simp, by rcases ht with ⟨o, ht, _⟩ | ⟨o, its, n, h1, h2, _⟩; exact .fTuple ht; exact .kTuple h1 h2, fun n hn => by simp at hn; rcases hn with rfl | rfl | rfl | rfl | rfl <;> rfl⟩
  | @ref k a hn =>
    have ez : ∀ l, h.seq k = some l → ∀ n ∈ ["int", "bool", "str", "tuple", "list"], isOf h n (.ref k) = some (kit "list" n) := fun l q n hn => by
      unfold isOf
      simp only [q]
      simp at hn; rcases hn with rfl | rfl | rfl | rfl | rfl <;> rfl
    cases q : h.seq k with
    | none => unfold isOf at e; simp only [q] at e; cases e
    | some l =>
      obtain ⟨a', vs, e1, rs, h2⟩ := lstOf_v (w := .ref k) rh (.ref hn) q
      cases e1
      rcases h2 with ⟨z, _⟩ | ⟨_, h2⟩
      · cases z
      · refine ⟨"list", by simp, ?_, ez l q⟩
        rcases h2 with (h2 | ⟨o, h2⟩) | ⟨o, its, m, h2, h3, _⟩
        · exact .base (.lst h2)
        · exact .base (.frz h2)
        · exact .kList h2 h3
  | ty n => cases e
  | fn i => cases e
theorem isAny_k {K : PySem.W.Frag} {h : Hq} {w : W} {nm : String} (hm : nm ∈ ["NoneType", "bool", "int", "str", "tuple", "list"]) (hk : ∀ n ∈ ["int", "bool", "str", "tuple", "list"], isOf h n w = some (kit nm n)) :
    ∀ (ns : List String) {b : Bool}, (∀ n ∈ ns, n ∈ ["int", "bool", "str", "tuple", "list"]) → isAny h w ns = some b → PySem.W.kitAny K (.type nm) (ns.map Value.type) = some b
  | [], b, _, e => by
    simp only [isAny, Option.some.injEq] at e
    subst e
    exact kitAny_nil
  | n :: r, b, hn, e => by
    have h1 := hn n (by simp)
    unfold isAny at e
    rw [hk n h1] at e
    refine kitAny_cons (kit_ty (kit_all nm hm n h1)) (fun hf => ?_) fun ht => ?_
    · rw [hf] at e
      exact isAny_k hm hk r (fun m z => hn m (by simp [z])) e
    · rw [ht] at e
      simpa using e.symm
theorem isAny_one {h : Hq} {w : W} {n : String} {ns : List String} {b : Bool} (e : isAny h w (n :: ns) = some b) : ∃ b0, isOf h n w = some b0 := by
  unfold isAny at e
  cases q : isOf h n w with
  | none => rw [q] at e; cases e
  | some b0 => exact ⟨b0, rfl⟩
theorem tyNs_v {g : Gc} {ρ : List Addr} {H : Hp} : ∀ {cs : List W} {vs : List V} {ns : List String}, RWs g ρ H cs vs → tyNs cs = some ns → (∀ n ∈ ns, n ∈ ["int", "bool", "str", "tuple", "list"]) ∧ Paired ClsV vs (ns.map Value.type)
  | _, _, _, .nil, e => by cases e; exact ⟨by simp, .nil⟩
  | _, _, ns, .cons r rs, e => by
    unfold tyNs at e
    cases r <;> first | cases e; done | skip
    rename_i n
    dsimp only at e
    by_cases q : t5 n = true
    · rw [q] at e
      dsimp only at e
      split at e
      · rename_i l ql
        cases e
        obtain ⟨h1, h2⟩ := tyNs_v rs ql
        refine ⟨fun m hm => ?_, .cons (.ty n) h2⟩
        rcases List.mem_cons.mp hm with z | z
        · exact z ▸ t5_in q
        · exact h1 m z
      · cases e
    · rw [Bool.eq_false_iff.mpr q] at e; cases e
section
variable {X : Cx} {G : G0} {Wx : WX} {pn : List PinT} {pos pos' p p2 : Pos} {a b e : Expr} {es : List Expr} {da db : D} {dl : DL}
theorem bIs_s : BiS X G (fun xs H Q => rIsi X.K xs H Q ∨ rIsiT X.K xs H Q) bIs := by
  intro Wx σ ρ H h ws vs Q rh rs0 af
  obtain ⟨w, w', v, v', rfl, rfl, r, r'⟩ := rw2 rs0 (fun ws h hn => by unfold bIs; split <;> first | exact (hn _ _ rfl).elim | rfl) af
  unfold bIs at af
  dsimp only at af
  cases r' <;> first | exact af.elim | skip
  case ty n =>
    dsimp only at af
    by_cases q : t5 n = true
    · rw [q] at af
      dsimp only at af
      cases q2 : isAny h w [n] with
      | none => rw [q2] at af; exact af.elim
      | some b =>
        rw [q2] at af
        obtain ⟨b0, e0⟩ := isAny_one q2
        obtain ⟨nm, hm, ty, hk⟩ := isOf_v rh r e0
        have e1 : isOf h n w = some b := by
          unfold isAny at q2
          rw [e0] at q2 ⊢
          cases b0 <;> simpa [isAny] using q2
        refine .inl ⟨v, .ty n, _, .type n, b, rfl, .ty n, ty, ?_, af.go .refl rh (.bl _)⟩
        rw [hk n (t5_in q)] at e1
        exact kit_ty (by rw [kit_all nm hm n (t5_in q), e1])
    · rw [Bool.eq_false_iff.mpr q] at af; exact af.elim
  case tup cs tp cvs ht rs =>
    dsimp only at af
    cases cs with
    | nil => exact af.elim
    | cons c0 cr =>
    dsimp only at af
    cases q : tyNs (c0 :: cr) with
    | none => rw [q] at af; exact af.elim
    | some ns =>
      rw [q] at af
      dsimp only at af
      obtain ⟨h1, h2⟩ := tyNs_v rs q
      cases q2 : isAny h w ns with
      | none => rw [q2] at af; exact af.elim
      | some b =>
        rw [q2] at af
        cases ns with
        | nil => cases rs; cases h2
        | cons n ns =>
          obtain ⟨b0, e0⟩ := isAny_one q2
          obtain ⟨nm, hm, ty, hk⟩ := isOf_v rh r e0
          exact .inr ⟨v, tp, cvs, _, _, b, rfl, ht, h2, ty, isAny_k hm hk _ h1 q2, af.go .refl rh (.bl _)⟩
theorem se_bIs (g : X.mg "isinstance" = none) (hl : SL X G pn Wx (a :: es) dl) (hg : Gl X "isinstance" := by rfl) (he : starEach (a :: es) X.env = (false, eval a X.env) :: starEach es X.env := by rfl) (hpl : (backTo pos (starEach es X.env)).any (·.1) = false := by rfl) :
    SE X G pn Wx (.Call (.Name "isinstance" p) (a :: es) [] pos) (dB bIs dl) := PE.imp (pe_callB (call_isi.or call_isiT) hg g PyProof.Rows.boot_isinstance hl (by decide) (by decide) he hpl) fun σ H Q q => rd_bi bIs_s q
theorem se_ty (n : String) {x : Str} (g : X.mg x = none) (hv : bootBuiltins x = some (.type n)) (hg : Gl X x := by rfl) (hn : x ≠ "__name__" := by decide) (hd : (x == ("__debug__" : Str)) = false := by decide) : SE X G pn Wx (.Name x pos) (dC (.ty n)) :=
  PE.imp (pe_bltn hg g hv (v := .ty n) rfl hn hd) fun _ _ _ q => rd_c (fun _ _ => .ty n) q
/-- l.append(a) -/
theorem se_app {apos cpos : Pos} (ha : SE X G pn Wx a da) (hb : SE X G pn Wx b db) (hbase : attributeBase a "append" X.env (eval a X.env) = eval a X.env := by rfl)
    (hfew : ((backTo cpos (starEach [b] X.env)).all (fun x => !x.1) && (backToKw cpos (keywordEach [] X.env)).all (fun x => x.1.isSome)
      && decide ([b].length + ([] : List Keyword).length + (if ([] : List Keyword).isEmpty then 0 else 1) < 30)) = true := by rfl)
    (hline : (apos.endLine == cpos.line) = true := by rfl) (hs : starEach [b] X.env = (false, eval b X.env) :: starEach [] X.env := by rfl) (hplain : (backTo cpos (starEach [] X.env)).any (·.1) = false := by rfl) :
    SE X G pn Wx (.Call (.Attribute a "append" apos) [b] [] cpos) (dApp da db) :=
  PE.imp (pe_bm F.plainAttrs_list F.slot_list_append F.type_list_append mt_append ha (pa_cons hb pa_nil hs) hbase hfew hline hs hplain) fun σ H Q q => by
  refine (rd.bind q).imp ?_
  rintro x H1 ⟨ρ, e, wx, h, re, rh, rx, af⟩
  cases rx <;> first | exact af.elim | skip
  rename_i n a hn
  dsimp only at af
  cases q1 : h.get n with
  | none => rw [q1] at af; exact af.elim
  | some o =>
    rw [q1] at af
    have ro := rh.ob n o a q1 hn
    cases o <;> first | exact af.elim | skip
    rename_i l0
    obtain ⟨vs0, e0, _⟩ := ro
    refine ⟨.inl ⟨rfl, vs0, .of e0⟩, ρ, e, h, re, rh, (Aft.bind af).imp ?_⟩
    rintro y H2 ⟨ρ2, wy, h2, x2, rh2, ry, af2⟩
    cases q2 : h2.get n with
    | none => rw [q2] at af2; exact af2.elim
    | some o =>
      rw [q2] at af2
      have hn2 := x2.at hn
      have ro := rh2.ob n o a q2 hn2
      cases o <;> first | exact af2.elim | skip
      rename_i l
      obtain ⟨vs, e1, rs⟩ := ro
      dsimp only at af2
      rw [bltD, lenD] at af2
      by_cases ql : l.length < LIM
      · rw [decide_eq_true ql] at af2
        refine ⟨a, vs, y, rfl, rfl, e1, by rw [← rs.length]; exact lim_lt ql, ?_⟩
        have xp : Ext ρ2 H2 ρ2 (upd H2 a (.lst (vs ++ [y]))) := .put (List.mem_of_getElem? hn2) e1 (fun _ => nofun)
        refine af2.go xp (rh2.put hn2 e1 (fun _ => nofun) (fun _ => nofun) ⟨_, upd_same, ?_⟩) .non
        rw [appD]
        exact (rs.app (.cons ry .nil)).ext xp
      · rw [decide_eq_false ql] at af2; exact af2.elim
end
end PW

set_option Elab.async false
set_option linter.all false
set_option maxRecDepth 100000
set_option maxHeartbeats 1000000
/-! PWe: enumerate over a list or a tuple. -/
namespace PW
open PySem PySem.Spec PyProof.Rows L2
theorem meets_enumT (l : Addr) (items : Array Value) :
    Meets (Builtin.«enumerate.__new__» ⟨[.type "enumerate", .ref l], []⟩) (fun _ R s => s.heap.IsTuple l items ∧
      R (.ok (.ret (.ref (s.heap.push { cls := .type "tuple_iterator", data := .fields #[.ref l, .int 0 0] }).objs.size)))
        { s with heap := (s.heap.push { cls := .type "tuple_iterator", data := .fields #[.ref l, .int 0 0] }).push { cls := .type "enumerate", data := .fields #[.none, .bool false, .ref s.heap.objs.size, rawInt 0, .none, .none] } }) :=
  .of_wp fun prog w A R s h => by
    obtain ⟨hp, g, d, tk, os⟩ := s; obtain ⟨hL, h⟩ := h
    have hsub := sub_enumerate
    have q1 : ∀ {A' : Around} {E : Value → Shared → Prop} {Q : Value → Shared → Prop}, Q (.ref hp.objs.size) ⟨hp.push { cls := .type "tuple_iterator", data := .fields #[.ref l, .int 0 0] }, g, d, tk, os⟩ → wpAny (model prog w) A' (pyIter (.ref l)) Q E ⟨hp, g, d, tk, os⟩ :=
      fun q => (begins_tuple l items).iter prog w _ _ ⟨hp, g, d, tk, os⟩ _ hL q
    wp_walk using q1
    refine wpAny_stack_any fun st => wpAny_pure ?_
    split
    · rename_i c _ _ _ _ _
      cases (c == Value.type "enumerate")
      · wp_walk using q1
        exact ⟨_, rfl, h⟩
      · wp_walk using q1
        exact ⟨_, rfl, h⟩
    · wp_walk using q1
      exact ⟨_, rfl, h⟩
section
variable {prog : Program} {w : World} {A : Around} {E : Value → Shared → Prop} {s : Shared}
theorem call_enumT {l : Addr} {items : Array Value} {Q : Value → Shared → Prop} (hL : s.heap.IsTuple l items)
    (h : ∀ h', IsEnum h' (s.heap.objs.size + 1) s.heap.objs.size 0 .none → h'.IsTupleIter s.heap.objs.size l 0 → h'.objs.size = s.heap.objs.size + 2 →
      (∀ b o, s.heap.get? b = some o → h'.get? b = some o) → Q (.ref (s.heap.objs.size + 1)) { s with heap := h' }) :
    wpAny (model prog w) A (call (.type "enumerate") [.ref l]) Q E s := by
  refine callType_new F.called_enumerate (by decide) (F.typeCall_enumerate_1 _) (F.newCall_enumerate_1 _) (fun obj => F.args_object_init_2 obj _) F.entry_enumerate_new
    (meets_enumT l items) ⟨hL, ?_⟩
  have hz : (s.heap.push { cls := .type "tuple_iterator", data := .fields #[.ref l, .int 0 0] }).objs.size = s.heap.objs.size + 1 := Heap.size_push ..
  show _ ∧ _
  rw [hz]
  have he : IsEnum ((s.heap.push { cls := .type "tuple_iterator", data := .fields #[.ref l, .int 0 0] }).push
      { cls := .type "enumerate", data := .fields #[.none, .bool false, .ref s.heap.objs.size, rawInt 0, .none, .none] }) (s.heap.objs.size + 1) s.heap.objs.size 0 .none := by
    have := Heap.get?_push_size (s.heap.push { cls := .type "tuple_iterator", data := .fields #[.ref l, .int 0 0] })
      (o := { cls := .type "enumerate", data := .fields #[.none, .bool false, .ref s.heap.objs.size, rawInt 0, .none, .none] }) rfl
    rw [hz] at this; exact this
  refine ⟨⟨_, he, rfl⟩, h _ he ⟨_, Heap.get?_push_of_some _ (Heap.get?_push_size _ rfl), rfl, rfl⟩ (by rw [Heap.size_push, hz]) fun b o x => Heap.get?_push_of_some _ (Heap.get?_push_of_some _ x)⟩
theorem enumT_end {e it l : Addr} {i : Nat} {items : Array Value} {old : Value} {c : Int} {Q : Option Value → Shared → Prop} (hh : A.handled = none)
    (he : IsEnum s.heap e it c old) (hit : s.heap.IsTupleIter it l i) (hl : s.heap.IsTuple l items) (hx : items[i]? = none)
    (hQ : ∀ h', Heap.ExtBut it s.heap h' → Q none { s with heap := h' }) : wpAny (model prog w) A (pyNext (.ref e)) Q E s := by
  have hT : s.TypeIs (.ref e) "enumerate" := ⟨_, he, rfl⟩
  unfold pyNext
  refine wpAny_bind (wpAny_attempt (wpAny_callSpecial?_slot (name := Str.ofString "__next__") hT F.slot_enumerate_next
    (wpAny_call_entry F.slot_enumerate_next hT F.entry_enumerate_next ?_ (F.args_enumerate_next_1 _))))
  show wpAny _ _ (field (.ref e) 2 >>= _) _ _ _
  refine wpAny_bind (wpAny_field he rfl (x := .ref it) rfl ?_)
  refine wpAny_bind (wpAny_nextOf_tuple_end hh hit hl hx fun h' x he' hx' => ?_)
  obtain ⟨o, ho, hc⟩ := hx'
  refine wpAny_bind (wpAny_isInstance (T := "StopIteration") (b := true) ⟨o, ho, hc⟩ isSubtype_stop ?_)
  exact wpAny_pure (hQ _ he')
end
/-- the tuple at a, each item in a new pair -/
def IteT (K : PySem.W.Frag) (a : Addr) : It :=
  ⟨fun i H => ∃ (xs : List V) (x : V), SqT K H a xs ∧ xs[i]? = some x, fun i H v H' => ∃ T x, v = .ref T ∧ H T = none ∧ H' = upd H T (.tup [.int (i : Nat), x]) ∧ ∀ xs, SqT K H a xs → xs[i]? = some x, fun i H => ∃ xs : List V, SqT K H a xs ∧ xs.length ≤ i⟩
theorem turn_enumT {P : Program} {w : World} {K : PySem.W.Frag} {elts : List Expr} {kk : Nat} {tpos : Pos} (a e it : Addr) :
    Turn P w K (.Tuple elts kk tpos) (IteT K a) [e, it] e (fun i h => (∃ old, IsEnum h e it ((i : Nat) : Int) old) ∧ h.IsTupleIter it a i ∧ e ≠ it) where
  mem := by simp
  obj := fun i h st b hb => by
    obtain ⟨⟨old, he⟩, ⟨o, ho, hc, hd⟩, _⟩ := st
    have e' : b = e ∨ b = it := by simpa using hb
    rcases e' with z | z
    · rw [z]; exact ⟨_, he, fun v q => nomatch q⟩
    · rw [z]; exact ⟨o, ho, fun v q => by rw [hd] at q; cases q⟩
  keep := fun i h h' st k => let ⟨⟨old, he⟩, hi, hne⟩ := st; ⟨⟨old, k e (by simp) _ he⟩, hi.at fun o q => k it (by simp) o q, hne⟩
  item := by
    intro X hP hw hK hc i pins s σ H E I hf st hg
    subst hP hw hK
    obtain ⟨⟨old, he⟩, hit, hne⟩ := st
    obtain ⟨xs, x, hq, hx⟩ := hg
    obtain ⟨its, rv, p, hz⟩ := I.tuple hq
    have p : s.heap.IsTuple a its.toArray := p
    obtain ⟨u, hu, ru⟩ := rv.get hx
    have hel : e < s.heap.objs.size := Heap.lt_size he
    have hil : it < s.heap.objs.size := by obtain ⟨_, q, _⟩ := hit; exact Heap.lt_size q
    have hal : a < s.heap.objs.size := by obtain ⟨_, q, _⟩ := p; exact Heap.lt_size q
    have hai : a ≠ it := fun z => by
      obtain ⟨o1, q1, c1, _⟩ := p
      obtain ⟨o2, q2, c2, _⟩ := hit
      rw [z, q2] at q1; cases q1; rw [c1] at c2; revert c2; decide
    have hae : a ≠ e := fun z => by
      obtain ⟨o1, q1, c1, _⟩ := p
      have he : s.heap.get? e = some _ := he
      rw [z, he] at q1; cases q1
      have c1 : Value.type "enumerate" = Value.type "tuple" := c1
      revert c1; decide
    have hlt : i < its.toArray.size := by
      have := (List.getElem?_eq_some_iff.mp hu).1
      simpa using this
    refine wpAny_pyNext_enum_itemC (Draws.tuple (A := X.A.in1) (I.ok.hd hc) it a hai its.toArray) he ⟨hit, p⟩ hlt hne (by simp [hne, Ne.symm hae]) fun y h' tk hP ho hst hT hsz hk => ?_
    have ey : y = u := by
      have h1 : its.toArray[i]? = some u := by simpa using hu
      rw [h1] at hP; cases hP; rfl
    subst ey
    refine ⟨_, rfl, wpAny_letOwnedTupleGo_enum (s := { s with heap := h', toks := tk + 1 }) ho fun h'' he' sb => ?_⟩
    have hT2 : h''.get? s.heap.objs.size = some { cls := .type "tuple", data := .seq #[.int i tk, y] } := (sb.2 _ (Nat.ne_of_gt hel)).trans hT
    have new : ObjOk X.prog X.w (upd H s.heap.objs.size (.tup [.int (i : Nat), x])) h'' s.heap.objs.size (.tup [.int (i : Nat), x]) :=
      ⟨by show 2 ≤ sizeLine; decide, [.int i tk, y], .cons ⟨_, rfl⟩ (.cons ru .nil), ⟨_, hT2, rfl, _, rfl⟩⟩
    have I1 : Inv X pins σ (upd H s.heap.objs.size (.tup [.int (i : Nat), x])) { s with heap := h'', toks := tk + 1 } :=
      I.turnedNew (ch := [e, it]) (fun b ob hb q => (sb.2 b (fun z => hb (by simp [z]))).trans (hk b ob (fun z => hb (by simp [z])) (fun z => hb (by simp [z])) q)) hf (Nat.le_refl _) new
    refine ⟨.ref s.heap.objs.size, _, I1, rfl, ⟨_, x, rfl, I.hok.fresh (Nat.le_refl _), rfl, fun ys hy => by rw [I.tuple_inj hy hq]; exact hx⟩, ⟨⟨y, ?_⟩, hst.1.at fun o q => (sb.2 it (Ne.symm hne)).trans q, hne⟩, fun b hb => ?_⟩
    · have e1 : ((i + 1 : Nat) : Int) = (i : Int) + 1 := by omega
      rw [e1]; exact he'
    · have hb' : b < s.heap.objs.size := by
        have e' : b = e ∨ b = it := by simpa using hb
        rcases e' with z | z
        · rw [z]; exact hel
        · rw [z]; exact hil
      rw [upd_ne (Nat.ne_of_lt hb')]
      exact (hf b hb).1
  done := by
    intro X hP hw hK hc i pins s σ H E I hf st hg
    subst hP hw hK
    obtain ⟨⟨old, he⟩, hit, hne⟩ := st
    obtain ⟨xs, hq, hx⟩ := hg
    obtain ⟨its, rv, p, hz⟩ := I.tuple hq
    have p : s.heap.IsTuple a its.toArray := p
    obtain ⟨f0, f1, f2, f3, f4, f5⟩ := hf it (by simp)
    have hl := rv.length
    have hai : a ≠ it := fun z => by
      obtain ⟨o1, q1, c1, _⟩ := p
      obtain ⟨o2, q2, c2, _⟩ := hit
      rw [z, q2] at q1; cases q1; rw [c1] at c2; revert c2; decide
    exact enumT_end (I.ok.hd hc) he hit p (by simp; omega) fun h' eb => ⟨rfl, I.turned (t' := s.toks) (fun b o hb q => eb b o hb q) f0 f1 f3 f4 f5⟩
  self := fun A i s Q E st h => let ⟨⟨_, he⟩, _⟩ := st; wpAny_pyIter_enum he h
section
variable {X : Cx} {G : G0} {pn : List PinT} {Wx : WX} {pos p tpos : Pos} {tg a b e : Expr} {da db : D} {elts : List Expr} {kk : Nat} {ta : TA}
def iEnumA (K : PySem.W.Frag) (ta : TA) : TI := fun σ H R => ta σ H fun vs H1 => ∃ a xs, vs = [.ref a] ∧ ((SqL K H1 a xs ∧ R (Ite K a) H1) ∨ (SqT K H1 a xs ∧ R (IteT K a) H1))
theorem pi_enumA (hg : Gl X "enumerate") (hm : X.mg "enumerate" = none) (ha : PA X [e] ta) (hs : starEach [e] X.env = [(false, eval e X.env)] := by rfl) :
    PI X (.Tuple elts kk tpos) (.Call (.Name "enumerate" p) [e] [] pos) (iEnumA X.K ta) := by
  refine ⟨fun pins s σ H R I h => ?_⟩
  refine Call_ (ld_blt I hg hm boot_enumerate (PyProof.Rows.callWith_type1 (thn (ha.run pos pins s σ H _ I h) fun us s1 ⟨vs, H1, I1, r1, q1⟩ => ?_) hs rfl))
  obtain ⟨a, xs, ex, q⟩ := q1
  subst ex
  cases r1 with
  | cons r rr =>
    cases rr
    cases r
    have fp : ∀ b ∈ [s1.heap.objs.size + 1, s1.heap.objs.size], s1.heap.objs.size ≤ b := fun b hb => by
      have e' : b = s1.heap.objs.size + 1 ∨ b = s1.heap.objs.size := by simpa using hb
      rcases e' with z | z
      · rw [z]; exact Nat.le_add_right _ _
      · rw [z]; exact Nat.le_refl _
    rcases q with ⟨hq, q⟩ | ⟨hq, q⟩
    · obtain ⟨its, rv, p', hz⟩ := I1.list hq
      refine call_enumerate_list p'.isList fun h' he hit hsz hk => wpAny_pyIter_enum he ?_
      have I2 : Inv X pins σ H1 { s1 with heap := h' } := I1.kept (t' := s1.toks) hk
      exact ⟨s1.heap.objs.size + 1, [s1.heap.objs.size + 1, s1.heap.objs.size], _, _, H1, rfl, I2, turn_enum a (s1.heap.objs.size + 1) s1.heap.objs.size, ⟨⟨.none, he⟩, hit, Nat.succ_ne_self _⟩, fun b hb => I1.fpOk (fp b hb) (I1.hok.fresh (fp b hb)), q⟩
    · obtain ⟨its, rv, p', hz⟩ := I1.tuple hq
      refine call_enumT (show s1.heap.IsTuple a its.toArray from p') fun h' he hit hsz hk => wpAny_pyIter_enum he ?_
      have I2 : Inv X pins σ H1 { s1 with heap := h' } := I1.kept (t' := s1.toks) hk
      exact ⟨s1.heap.objs.size + 1, [s1.heap.objs.size + 1, s1.heap.objs.size], _, _, H1, rfl, I2, turn_enumT a (s1.heap.objs.size + 1) s1.heap.objs.size, ⟨⟨.none, he⟩, hit, Nat.succ_ne_self _⟩, fun b hb => I1.fpOk (fp b hb) (I1.hok.fresh (fp b hb)), q⟩
theorem src_enmT {g : Gc} {ρ : List Addr} {H : Hp} {l : List W} {a : Addr} {vs : List V} (ht : TupA g H a vs) (rs : RWs g ρ H l vs) : SrcR g ρ H (.enm (.tup l)) (IteT g.K a) := by
  intro ρ' H' h' i x rh
  have ht' : SqT g.K H' a vs := (ht.extw x).sq
  have rs' := rs.extw x
  simp only [next, nthD]
  cases q : l[i]? with
  | none => exact ⟨vs, ht', rs'.at_none q⟩
  | some w =>
    obtain ⟨v, e1, r1⟩ := rs'.get q
    refine ⟨⟨vs, v, ht', e1⟩, fun y H'' ⟨T, y1, z1, z2, z3, z4⟩ => ?_⟩
    subst z1 z3
    have k1 := z4 vs ht'
    rw [e1] at k1
    cases k1
    exact pair_new rh z2 (.int _) r1
theorem si_enm (g : X.mg "enumerate" = none) (ha : SE X G pn Wx a da) (hg : Gl X "enumerate" := by rfl) (hs1 : starEach [a] X.env = [(false, eval a X.env)] := by rfl) (hs0 : starEach (a :: []) X.env = (false, eval a X.env) :: starEach [] X.env := by rfl) :
    SI X G pn Wx (.Tuple elts kk tpos) (.Call (.Name "enumerate" p) [a] [] pos) (iEnm da) := PI.imp (pi_enumA hg g (sl_cons ha sl_nil hs0) hs1) fun σ H R q => by
  refine (rd_l1 q).imp ?_
  rintro vs H1 ⟨v, ρ, e, wx, h, rfl, re, rh, rx, af⟩
  cases q1 : seqOf h wx with
  | none => rw [q1] at af; exact af.elim
  | some s =>
    rw [q1] at af
    cases rx <;> first | cases q1; done | skip
    case tup l a vs ht rs =>
      simp only [seqOf, Option.some.injEq] at q1
      subst q1
      exact ⟨a, vs, rfl, .inr ⟨ht.sq, Aft.go (rel := SrcR (gx X G)) af .refl rh (src_enmT (.inl ht) rs)⟩⟩
    case ktup l a vs ht rs =>
      simp only [seqOf, Option.some.injEq] at q1
      subst q1
      exact ⟨a, vs, rfl, .inr ⟨ht.sq, Aft.go (rel := SrcR (gx X G)) af .refl rh (src_enmT (.inr ht) rs)⟩⟩
    case ref n a hn =>
      simp only [seqOf] at q1
      cases q2 : h.seq n with
      | none => rw [q2] at q1; cases q1
      | some l =>
        rw [q2] at q1
        cases q1
        obtain ⟨vs, hs, rs⟩ := seq_at rh hn q2
        exact ⟨a, vs, rfl, .inl ⟨hs, Aft.go (rel := SrcR (gx X G)) af .refl rh (src_enmL hn)⟩⟩
end
end PW

set_option Elab.async false
set_option linter.all false
set_option maxRecDepth 100000
set_option maxHeartbeats 1000000
/-! PWf: calls. -/
namespace PW
open PySem PySem.Spec PyProof.Rows L2
/-- what a def of the program promises -/
def spC (g : Gc) (c : CT) (i n : Nat) : Sp := fun vs H Q E => vs.length = n ∧ ∃ ρ h ws, RH g ρ h H ∧ RWs g ρ H ws vs ∧ Aft g (RW g) ρ H (fun cls d _ H => E cls d H) [] (c i ws h) Q
theorem Aft.wx {g : Gc} {ρ : List Addr} {H : Hp} {Wx : WX} {σ : L2.St} {r : R} {Q : VK} (a : Aft g (RW g) ρ H Wx σ r Q) : Aft g (RW g) ρ H (fun cls d _ H => WE Wx σ cls d H) [] r Q := by
  cases r <;> exact a
/-- every parameter is given by its place -/
def BindP (x : Str) (st : Stmt) (ps : List Str) : Prop := ∀ (kV doc pm : Value) (an : Option Addr) (cdv ct : Value) (us : List Value), us.length = ps.length →
  bindArgs (PySem.W.fnOf x x (defArgs st) (defBody st) (defScope st) .none kV doc pm an cdv ct) ⟨us, []⟩ = pure (ps.zip us)
/-- np by their place, the others by their names ks -/
def BindK (x : Str) (st : Stmt) (ps : List Str) (np : Nat) (ks : List Str) (perm : List Nat) : Prop := ∀ (kV doc pm : Value) (an : Option Addr) (cdv ct : Value) (us ws : List Value), us.length = np → ws.length = ks.length →
  ∃ zs, mapO (nth (us ++ ws)) perm = some zs ∧ bindArgs (PySem.W.fnOf x x (defArgs st) (defBody st) (defScope st) .none kV doc pm an cdv ct) ⟨us, ks.zip ws⟩ = pure (ps.zip zs)
/-- what stays the same over a call's contexts -/
structure Amb where
  prog : Program
  w : World
  K : PySem.W.Frag
  mg : Str → Option Value
  base : Heap
  A : Around
abbrev amb (X : Cx) : Amb := ⟨X.prog, X.w, X.K, X.mg, X.base, X.A⟩
/-- a def of the program that may be called -/
structure Callee (M : Amb) (G : G0) (c : CT) (i : Nat) (x : Str) (st : Stmt) (ps : List Str) : Prop where
  ex : ∃ (k : Nat) (kV doc pm : Value) (an : Option Addr) (cdv ct : Value), FnOk M.prog M.w M.K M.mg M.base (L2.CX M.prog M.w) k (G.fad i) (PySem.W.fnOf x x (defArgs st) (defBody st) (defScope st) .none kV doc pm an cdv ct) ps (spC ⟨G, M.K, M.w⟩ c i ps.length) ∧ Room k M.A
  kp : PySem.W.keepIn M.K (.ref (G.fad i)) = true
  mg : M.mg x = some (.ref (G.fad i))
  ar : ∀ ws h, ws.length ≠ ps.length → c i ws h = .bad
section
variable {X : Cx} {G : G0} {c : CT} {i : Nat} {x : Str} {st : Stmt} {ps : List Str} {Wx : WX} {pn : List PinT} {p pos : Pos} {a : Expr} {es : List Expr} {dl dk : DL} {kws : List Keyword}
theorem run_bind {k : Nat} {f : Addr} {fd : FuncData} {sp : Sp} {E : XK} {pins : List (Addr × Obj)} {σ : L2.St} {H : Hp} {s : Shared} {Q : VK} {us0 us : List Value} {kw : List (Str × Value)} {vs : List V} (F : FnOk X.prog X.w X.K X.mg X.base (L2.CX X.prog X.w) k f fd ps sp) (hr : Room k X.A) (hx : PassesAt (L2.CX X.prog X.w) X σ E)
    (I : Inv X pins σ H s) (b : BindsTo s fd ⟨us0, kw⟩ (ps.zip us)) (r : Vals vs us) (h : sp vs H Q E) : wpAny (model X.prog X.w) X.A (call (.ref f) us0 kw) (EP X pins σ Q) X.xe s := by
  refine wpAny_call (codeAny_mono (F.run X.A X.stack s H ⟨us0, kw⟩ us vs Q E hr I.env0 b r h) fun r s' hq => ?_)
  cases r with
  | error e => exact hx pins H s e s' I hq
  | ok fl =>
    cases fl with
    | ret u => exact I.after hq
    | next => exact False.elim hq
    | brk => exact False.elim hq
    | cont => exact False.elim hq
theorem sp_of (T : Callee (amb X) G c i x st ps) {ρ : List Addr} {H : Hp} {σ : L2.St} {h : Hq} {ws : List W} {vs : List V} {Q : VK} (rh : RH (gx X G) ρ h H) (rs : RWs (gx X G) ρ H ws vs) (af : Aft (gx X G) (RW (gx X G)) ρ H Wx σ (c i ws h) Q) :
    spC (gx X G) c i ps.length vs H Q (WE Wx σ) := by
  refine ⟨?_, ρ, h, ws, rh, rs, af.wx⟩
  rw [← rs.length]
  refine Classical.byContradiction fun z => ?_
  rw [T.ar ws h z] at af
  exact af
theorem Callee.fn (T : Callee (amb X) G c i x st ps) (B : BindP x st ps) : ∃ k fd, FnOk X.prog X.w X.K X.mg X.base (L2.CX X.prog X.w) k (G.fad i) fd ps (spC (gx X G) c i ps.length) ∧ Room k X.A ∧ Binds X.K fd ps [] := by
  obtain ⟨k, kV, doc, pm, an, cdv, ct, F, hr⟩ := T.ex
  exact ⟨k, _, F, hr, .all (B kV doc pm an cdv ct)⟩
theorem se_call (C : Cs X Wx) (T : Callee (amb X) G c i x st ps) (B : BindP x st ps) (hl : SL X G pn Wx (a :: es) dl) (hg : Gl X x := by rfl) (hdb : (x == ("__debug__" : Str)) = false := by decide) (he : starEach (a :: es) X.env = (false, eval a X.env) :: starEach es X.env := by rfl)
    (hpl : (backTo pos (starEach es X.env)).any (·.1) = false := by rfl) : SE X G pn Wx (.Call (.Name x p) (a :: es) [] pos) (dCall c i dl) := by
  obtain ⟨k, fd, F, hr, hb⟩ := T.fn B
  refine PE.imp (pe_callS (E := WE Wx) F hr hg T.mg T.kp hb (fun σ => passAt C.tk σ) hl hdb he hpl) fun σ H Q q => (rd.bind q).imp ?_
  rintro vs H1 ⟨ρ, e, ws, h, re, rh, rs, af⟩
  exact sp_of T rh rs af
theorem se_call0 (C : Cs X Wx) (T : Callee (amb X) G c i x st ps) (B : BindP x st ps) (hg : Gl X x := by rfl) (hdb : (x == ("__debug__" : Str)) = false := by decide) : SE X G pn Wx (.Call (.Name x p) [] [] pos) (dCall c i lNil) := by
  obtain ⟨k, fd, F, hr, hb⟩ := T.fn B
  refine ⟨fun pins s σ H Q I q => ?_⟩
  obtain ⟨ρ, e, h, re, rh, af⟩ := q
  refine wpAny_Call_Name_kw (ld_glob I hg T.mg ?_ hdb)
  exact PySem.W.callWith_K0 I.kIn T.kp (run_fnS (E := WE Wx) (us := []) F hr hb (passAt C.tk σ) I .nil (sp_of T rh .nil af))
/-! keywords -/
def SK (X : Cx) (G : G0) (pn : List PinT) (Wx : WX) (kws : List Keyword) (d : DL) : Prop := PK X kws (rd (gx X G) pn (RWs (gx X G)) Wx d)
theorem PK.imp {X : Cx} {e : List Keyword} {t t' : TA} (h : PK X e t) (i : ∀ σ H Q, t' σ H Q → t σ H Q) : PK X e t' := ⟨fun pos pins s σ H Q I q => h.run pos pins s σ H Q I (i σ H Q q)⟩
theorem sk_nil : SK X G pn Wx [] lNil := PK.imp pk_nil fun σ H Q q => by
  obtain ⟨ρ, e, h, re, rh, a⟩ := q
  exact a.go .refl rh .nil
theorem sk_cons {nm : Option Str} {kpos : Pos} {da : D} (ha : SE X G pn Wx a da) (hk : SK X G pn Wx kws dk) : SK X G pn Wx (⟨nm, a, kpos⟩ :: kws) (lCons da dk) := PK.imp (pk_cons ha hk) fun σ H Q q => by
  refine (rd.bind q).imp ?_
  rintro x H1 ⟨ρ, e, wx, h, re, rh, rx, af⟩
  refine ⟨ρ, e, h, re, rh, (Aft.bind af).imp ?_⟩
  rintro xs H2 ⟨ρ2, ws, h2, x2, rh2, rs, af2⟩
  exact af2.go .refl rh2 (.cons (rx.ext x2) rs)
theorem mapO_rw {g : Gc} {ρ : List Addr} {H : Hp} {l : List W} {vs : List V} (r : RWs g ρ H l vs) : ∀ {pm : List Nat} {l' : List W}, mapO (nth l) pm = some l' → ∃ vs', mapO (nth vs) pm = some vs' ∧ RWs g ρ H l' vs'
  | [], _, e => by cases e; exact ⟨[], rfl, .nil⟩
  | k :: pm, l', e => by
    unfold mapO at e
    cases q : nth l k with
    | none => rw [q] at e; cases e
    | some w =>
      rw [q] at e
      dsimp only at e
      cases q2 : mapO (nth l) pm with
      | none => rw [q2] at e; cases e
      | some bs =>
        rw [q2] at e
        cases e
        obtain ⟨vs', h1, h2⟩ := mapO_rw r q2
        rw [nthD] at q
        obtain ⟨v, h3, h4⟩ := r.get q
        exact ⟨v :: vs', by unfold mapO; rw [nthD, h3, h1], .cons h4 h2⟩
theorem mapO_vals {vs : List V} {us : List Value} (r : Vals vs us) : ∀ {pm : List Nat} {vs' : List V} {us' : List Value}, mapO (nth vs) pm = some vs' → mapO (nth us) pm = some us' → Vals vs' us'
  | [], _, _, e, e2 => by cases e; cases e2; exact .nil
  | k :: pm, vs', us', e, e2 => by
    unfold mapO at e e2
    cases q : nth vs k with
    | none => rw [q] at e; cases e
    | some v =>
      cases q' : nth us k with
      | none => rw [q'] at e2; cases e2
      | some u =>
        rw [q] at e
        rw [q'] at e2
        dsimp only at e e2
        cases q2 : mapO (nth vs) pm with
        | none => rw [q2] at e; cases e
        | some bs =>
          cases q3 : mapO (nth us) pm with
          | none => rw [q3] at e2; cases e2
          | some cs =>
            rw [q2] at e
            rw [q3] at e2
            cases e
            cases e2
            rw [nthD] at q q'
            obtain ⟨u', h3, h4⟩ := r.get q
            rw [q'] at h3
            cases h3
            exact .cons h4 (mapO_vals r q2 q3)
/-- how many values: the arguments are without stars -/
def LenL (dl : DL) (n : Nat) : Prop := ∀ e h ws h1, dl e h = .ok ws h1 → ws.length = n
theorem len_nil : LenL lNil 0 := fun e h ws h1 q => by
  unfold lNil at q
  cases q; rfl
theorem len_cons {da : D} {n : Nat} (hl : LenL dl n) : LenL (lCons da dl) (n + 1) := fun e h ws h1 q => by
  unfold lCons at q
  cases q1 : da e h with
  | bad => rw [q1] at q; cases q
  | ex x h => rw [q1] at q; cases q
  | ok w h2 =>
    rw [q1] at q
    simp only [Rs.bind] at q
    cases q2 : dl e h2 with
    | bad => rw [q2] at q; cases q
    | ex x h => rw [q2] at q; cases q
    | ok l h3 =>
      rw [q2] at q
      cases q
      rw [List.length_cons, hl _ _ _ _ q2]
theorem kw_rd {np nkk : Nat} {pm : List Nat} {σ : L2.St} {H : Hp} {Q : VK} (nl : LenL dl np) (nk : LenL dk nkk) (q : rd (gx X G) pn (RW (gx X G)) Wx (dCallP c i pm (lApp dl dk)) σ H Q) :
    rd (gx X G) pn (RWs (gx X G)) Wx dl σ H fun vs H1 => rd (gx X G) pn (RWs (gx X G)) Wx dk σ H1 fun zs H2 => vs.length = np ∧ zs.length = nkk ∧ ∃ ρ h ws ls, RH (gx X G) ρ h H2 ∧ RWs (gx X G) ρ H2 ws (vs ++ zs) ∧ mapO (nth ws) pm = some ls ∧ Aft (gx X G) (RW (gx X G)) ρ H2 Wx σ (c i ls h) Q := by
  obtain ⟨ρ, e, h, re, rh, a⟩ := q
  unfold dCallP lApp at a
  refine ⟨ρ, e, h, re, rh, ?_⟩
  cases q1 : dl e h with
  | bad => rw [q1] at a; exact a
  | ex z h1 => rw [q1] at a; exact a
  | ok xs h1 =>
    rw [q1] at a
    simp only [Rs.bind] at a
    intro ρ1 H1 vs x1 rh1 rs1
    refine ⟨ρ1, e, h1, re.ext x1, rh1, ?_⟩
    cases q2 : dk e h1 with
    | bad => rw [q2] at a; exact a
    | ex z h2 => rw [q2] at a; exact fun ρ2 H2 cls d x2 rh2 rx => a ρ2 H2 cls d (x1.trans x2) rh2 rx
    | ok ys h2 =>
      rw [q2] at a
      dsimp only at a
      intro ρ2 H2 zs x2 rh2 rs2
      refine ⟨by rw [← rs1.length]; exact nl _ _ _ _ q1, by rw [← rs2.length]; exact nk _ _ _ _ q2, ?_⟩
      rw [appD] at a
      cases q3 : mapO (nth (xs ++ ys)) pm with
      | none => rw [q3] at a; exact a.elim
      | some ls =>
        rw [q3] at a
        exact ⟨ρ2, h2, xs ++ ys, ls, rh2, (rs1.ext x2).app rs2, q3, Aft.ext (x1.trans x2) a⟩
theorem se_callk {np : Nat} {ks : List Str} {pm : List Nat} (C : Cs X Wx) (T : Callee (amb X) G c i x st ps) (B : BindK x st ps np ks pm) (hl : SL X G pn Wx (a :: es) dl) (hk : SK X G pn Wx kws dk) (nl : LenL dl np) (nk : LenL dk ks.length)
    (hall : (backToKw pos (keywordEach kws X.env)).all (·.1.isSome) = true := by rfl) (hks : (backToKw pos (keywordEach kws X.env)).filterMap (·.1) = ks := by rfl)
    (hg : Gl X x := by rfl) (hdb : (x == ("__debug__" : Str)) = false := by decide) (he : starEach (a :: es) X.env = (false, eval a X.env) :: starEach es X.env := by rfl)
    (hpl : ((backTo pos (starEach (a :: es) X.env)).any (·.1) || (backToKw pos (keywordEach kws X.env)).any (·.1.isNone)) = false := by rfl) : SE X G pn Wx (.Call (.Name x p) (a :: es) kws pos) (dCallP c i pm (lApp dl dk)) := by
  obtain ⟨k, kV, doc, pm', an, cdv, ct, F, hr⟩ := T.ex
  refine ⟨fun pins s σ H Q I q => ?_⟩
  refine wpAny_Call_Name_kw (ld_glob I hg T.mg ?_ hdb)
  have q := kw_rd nl nk q
  refine PySem.W.callWith_KW (h₀ := X.base) I.ok.mod.kin T.kp hall (thn (hl.run pos pins s σ H _ I q) fun us s1 ⟨vs, H1, I1, r, q⟩ => ?_) hpl he
  refine thn (hk.run pos pins s1 σ H1 _ I1 q) fun ws s2 ⟨zs, H2, I2, rz, e1, e2, ρ, h, ww, ls, rh, rs, em, af⟩ => ⟨I2.kIn, ?_⟩
  rw [hks]
  obtain ⟨vs', m1, m2⟩ := mapO_rw rs em
  obtain ⟨us', m3, m4⟩ := B kV doc pm' an cdv ct us ws (by rw [← r.length]; exact e1) (by rw [← rz.length]; exact e2)
  exact run_bind (us := us') F hr (passAt C.tk σ) I2 (.of_eq m4) (mapO_vals (r.append rz) m1 m3) (sp_of T rh m2 af)
theorem kw0_rd {nkk : Nat} {pm : List Nat} {σ : L2.St} {H : Hp} {Q : VK} (nk : LenL dk nkk) (q : rd (gx X G) pn (RW (gx X G)) Wx (dCallP c i pm dk) σ H Q) :
    rd (gx X G) pn (RWs (gx X G)) Wx dk σ H fun zs H2 => zs.length = nkk ∧ ∃ ρ h ws ls, RH (gx X G) ρ h H2 ∧ RWs (gx X G) ρ H2 ws zs ∧ mapO (nth ws) pm = some ls ∧ Aft (gx X G) (RW (gx X G)) ρ H2 Wx σ (c i ls h) Q := by
  obtain ⟨ρ, e, h, re, rh, a⟩ := q
  unfold dCallP at a
  refine ⟨ρ, e, h, re, rh, ?_⟩
  cases q1 : dk e h with
  | bad => rw [q1] at a; exact a
  | ex z h1 => rw [q1] at a; exact a
  | ok xs h1 =>
    rw [q1] at a
    simp only [Rs.bind] at a
    intro ρ1 H1 vs x1 rh1 rs1
    refine ⟨by rw [← rs1.length]; exact nk _ _ _ _ q1, ?_⟩
    cases q3 : mapO (nth xs) pm with
    | none => rw [q3] at a; exact a.elim
    | some ls =>
      rw [q3] at a
      exact ⟨ρ1, h1, xs, ls, rh1, rs1, q3, Aft.ext x1 a⟩
theorem se_callk0 {ks : List Str} {pm : List Nat} (C : Cs X Wx) (T : Callee (amb X) G c i x st ps) (B : BindK x st ps 0 ks pm) (hk : SK X G pn Wx kws dk) (nk : LenL dk ks.length)
    (hall : (backToKw pos (keywordEach kws X.env)).all (·.1.isSome) = true := by rfl) (hks : (backToKw pos (keywordEach kws X.env)).filterMap (·.1) = ks := by rfl)
    (hg : Gl X x := by rfl) (hdb : (x == ("__debug__" : Str)) = false := by decide)
    (hpl : ((backTo pos (starEach [] X.env)).any (·.1) || (backToKw pos (keywordEach kws X.env)).any (·.1.isNone)) = false := by rfl) : SE X G pn Wx (.Call (.Name x p) [] kws pos) (dCallP c i pm dk) := by
  obtain ⟨k, kV, doc, pm', an, cdv, ct, F, hr⟩ := T.ex
  refine ⟨fun pins s σ H Q I q => ?_⟩
  refine wpAny_Call_Name_kw (ld_glob I hg T.mg ?_ hdb)
  have q := kw0_rd nk q
  refine PySem.W.callWith_KW0 (h₀ := X.base) I.ok.mod.kin T.kp hall (thn (hk.run pos pins s σ H _ I q) fun ws s2 ⟨zs, H2, I2, rz, e2, ρ, h, ww, ls, rh, rs, em, af⟩ => ⟨I2.kIn, ?_⟩) hpl
  rw [hks]
  obtain ⟨vs', m1, m2⟩ := mapO_rw rs em
  obtain ⟨us', m3, m4⟩ := B kV doc pm' an cdv ct [] ws rfl (by rw [← rz.length]; exact e2)
  exact run_bind (us := us') F hr (passAt C.tk σ) I2 (.of_eq m4) (mapO_vals rz m1 m3) (sp_of T rh m2 af)
/-! a def as a value -/
theorem se_callV {g : Expr} {dg : D} (C : Cs X Wx) (T : ∀ i, (∀ ws h, c i ws h = .bad) ∨ ∃ x st ps, Callee (amb X) G c i x st ps ∧ BindP x st ps) (hf : SE X G pn Wx g dg) (hl : SL X G pn Wx (a :: es) dl)
    (hc : eval (.Call g (a :: es) [] pos) X.env = (do callWith pos (← eval g X.env) [] (backTo pos (starEach (a :: es) X.env)) (backToKw pos (keywordEach [] X.env))) := by rfl)
    (he : starEach (a :: es) X.env = (false, eval a X.env) :: starEach es X.env := by rfl) (hpl : (backTo pos (starEach es X.env)).any (·.1) = false := by rfl) : SE X G pn Wx (.Call g (a :: es) [] pos) (dCallV c dg dl) := by
  refine ⟨fun pins s σ H Q I q => ?_⟩
  refine Call_ ?_ hc
  refine thn (hf.run pins s σ H _ I (rd.bind q)) fun u s1 ⟨v, H1, I1, rv, ρ, e, wx, h, re, rh, rx, af⟩ => ?_
  cases rx <;> first | exact af.elim | skip
  rename_i i
  cases rv
  have q2 : rd (gx X G) pn (RWs (gx X G)) Wx dl σ H1 fun vs H2 => ∃ ρ h ws, RH (gx X G) ρ h H2 ∧ RWs (gx X G) ρ H2 ws vs ∧ Aft (gx X G) (RW (gx X G)) ρ H2 Wx σ (c i ws h) Q :=
    ⟨ρ, e, h, re, rh, (Aft.bind af).imp fun vs H2 ⟨ρ2, ws, h2, x2, rh2, rs, af2⟩ => ⟨ρ2, h2, ws, rh2, rs, af2⟩⟩
  rcases T i with tb | ⟨x, st, ps, T, B⟩
  · have kb := hl.run pos pins s1 σ H1 (fun _ _ => False) I1 (q2.imp fun vs H2 ⟨ρ2, h2, ws, rh2, rs, af2⟩ => by rw [tb] at af2; exact af2)
    show wpAny _ _ (callWith pos (.ref (G.fad i)) [] (backTo pos (starEach (a :: es) X.env)) []) _ _ _
    rw [he] at kb ⊢
    exact PySem.W.callWith_of (P := fun _ => False) (by show ((false || (backTo pos (starEach es X.env)).any (·.1)) || false) = false; rw [hpl]; rfl) (fun _ z => z.elim) (PySem.Calls.evalArgs_plain (thn kb fun us s2 ⟨vs, H2, I2, r, z⟩ => z.elim))
  · obtain ⟨k, fd, F, hr, hb⟩ := T.fn B
    refine PySem.W.callWith_K (h₀ := X.base) I.ok.mod.kin T.kp (thn (hl.run pos pins s1 σ H1 _ I1 q2) fun us s2 ⟨vs, H2, I2, r, ρ2, h2, ws, rh2, rs, af2⟩ => ⟨I2.kIn, ?_⟩) he hpl
    exact run_fnS F hr hb (passAt C.tk σ) I2 r (sp_of T rh2 rs af2)
end
end PW

set_option Elab.async false
set_option linter.all false
set_option maxRecDepth 100000
set_option maxHeartbeats 1000000
/-! PWg: the program's own errors: with one field that __init__ keeps, or without __init__. -/
namespace PW
open PySem PySem.W PySem.Calls PyProof.Rows PySem.HandSPX
def iA (f : Str) (p1 p2 : Pos) : Arguments := { posonlyargs := [], args := [{ arg := "self", annotation := none, pos := p1 }, { arg := f, annotation := none, pos := p2 }], vararg := none, kwonlyargs := [], kw_defaults := [], kwarg := none, defaults := [] }
def iB (f : Str) (q1 q2 q3 q4 : Pos) : List Stmt := [.Assign [.Attribute (.Name "self" q1) f q2] (.Name f q3) q4]
def iS (f : Str) : Scope := { kind := .function, names := [(PySem.Str.ofString "self", .local), (f, .local)], isGenerator := false, isCoroutine := false, more := [] }
/-- what a field's name must be -/
structure FldOk (f : Str) : Prop where
  dbg : (f == ("__debug__" : Str)) = false
  hb : ∀ (qn : Str) (p1 p2 : Pos) (b : List Stmt) (kV doc pm : Value) (an : Option Addr) (cdv ct a v : Value), bindArgs (fnOf "__init__" qn (iA f p1 p2) b (iS f) .none kV doc pm an cdv ct) ⟨[a, v], []⟩ = pure [((PySem.Str.ofString "self"), a), (f, v)]
  hk : ∀ (a v : Value), ([((PySem.Str.ofString "self"), a), (f, v)].all fun y => (iS f).names.lookup y.1 == some .local || (iS f).names.lookup y.1 == some .cell) = true
  lk : ∀ qn L fa cdv, (envOfC qn (iS f) L fa cdv).kindOf f = some .local
  lks : ∀ qn L fa cdv, (envOfC qn (iS f) L fa cdv).kindOf "self" = some .local
  m1 : ∀ qn L fa cdv (a v : Value), bindL (envOfC qn (iS f) L fa cdv).kindOf [((PySem.Str.ofString "self"), a), (f, v)] (fun _ => none) f = some v
  m2 : ∀ qn L fa cdv (a v : Value), bindL (envOfC qn (iS f) L fa cdv).kindOf [((PySem.Str.ofString "self"), a), (f, v)] (fun _ => none) "self" = some a
/-- what the written part says of such a class, at C, and of its __init__, at fI -/
structure OwnTxt (K : Frag) (mg : Str → Option Value) (x f : Str) (C fI : Addr) (B newId initId : String) (bmB : List Value) : Prop where
  gC : mg x = some (.ref C)
  bf : ExcBaseFacts B newId initId bmB
  sf : StoreFacts B bmB "object.__setattr__" "object"
  cls : ∃ nm q N bs sn sub ab col dd k0 k1 k2 k3 k5, K.lookup C = some (excClassObj nm q C N bs bmB true sn sub ab col dd k0 k1 k2 k3 k5 newId)
  sa : findIn K (.ref C) "__setattr__" = some (some (.builtin "object.__setattr__"))
  ga : findIn K (.ref C) "__getattribute__" = some (some (.builtin "BaseException.__getattribute__"))
  gg : findIn K (.ref C) "__getattr__" = some none
  noN : findIn K (.ref C) f = some none
  iC : findIn K (.ref C) "__init__" = some (some (.ref fI))
  tC : typeIn K (.ref fI) = some (.type "function")
  kC : keepIn K (.ref C) = true
  exC : subIn K (.ref C) (.type "BaseException") = some true
  tyC : typeIn K (.ref C) = some (.type "type")
  hdC : hasDictIn K C = true
  fo : FldOk f
  fn : ∃ (oc : Value) (od : Option Addr) (qn : Str) (kV doc pm : Value) (an : Option Addr) (cdv ct : Value) (osl : Array (Option Value)) (p1 p2 q1 q2 q3 q4 : Pos),
    K.lookup fI = some ⟨oc, od, .func (fnOf "__init__" qn (iA f p1 p2) (iB f q1 q2 q3 q4) (iS f) .none kV doc pm an cdv ct), osl⟩ ∧ codeIn K cdv qn = true
theorem size1 (v : Value) : [v].length ≤ sizeLine := by
  rw [sizeLine_eq]
  exact (by decide : 1 ≤ 16777216)
theorem ld_local {M : Model} {s : Shared} {name : Str} {scope : Scope} {L a : Addr} {cd : Value} {m : Str → Option Value} {x : Str} {pos : Pos} {v : Value} {Q : Value → Shared → Prop} {A : Around} {E : Value → Shared → Prop} (hn : s.heap.Ns L m) (hv : m x = some v)
    (hk : scope.kind = .function) (hl : (envOfC name scope L a cd).kindOf x = some .local) (hd : (x == ("__debug__" : Str)) = false) (h : Q v s) :
    wpAny M A (eval (.Name x pos) (envOfC name scope L a cd)) Q E s := wpAny_Name (wpAny_loadName_local hk hl hn hv h) hd
/-- what __init__ leaves of a fresh error at x -/
structure InitDone (f : Str) (h h' : Heap) (x C dx t1 : Addr) (v : Value) : Prop where
  keep : ∀ b o, b ≠ x → h.get? b = some o → h'.get? b = some o
  obj : h'.get? x = some { cls := .ref C, dict := some dx, data := .fields #[.ref t1, .none, .none, .none, .bool false, .none] }
  dbig : h.objs.size ≤ dx
  dne : dx ≠ x
  ns : h'.Ns1 dx (fun y => if y = f then some v else none)
structure ErrMade (f : Str) (h h' : Heap) (e C d : Addr) (v : Value) : Prop where
  keep : ∀ b o, h.get? b = some o → h'.get? b = some o
  new : h.objs.size ≤ e
  obj : ∃ oe vs, h'.get? e = some oe ∧ oe.cls = .ref C ∧ oe.dict = some d ∧ oe.data = .fields vs ∧ vs[1]? = some .none
  dbig : h.objs.size ≤ d
  dne : d ≠ e
  ns : h'.Ns1 d (fun y => if y = f then some v else none)
section
variable {prog : Program} {w : World} {A : Around} {E : Value → Shared → Prop} {R : Result → Shared → Prop} {s : Shared} {K : Frag} {mg : Str → Option Value} {C fI : Addr} {x f : Str} {B newId initId : String} {bmB : List Value}
section
open Builtin Builtin.ObjectAttr
theorem own_osa {hp : Heap} {g : Array GenState} {d : Drawn} {t : Nat} {os : OsState} {name : Str} {tk : Tok} {v : Value} {x : Addr} {fv : Array Value} {cd : ClassData} (SF : StoreFacts B bmB "object.__setattr__" "object")
    (X : K.In hp) (hx : hp.get? x = some { cls := .ref C, data := .fields fv }) (hcd : clsIn K C = some cd) (hm : cd.mro = .ref C :: bmB) (ht : excTail bmB bmB = true) (hh : cd.hasDict = true) (ha : findIn K (.ref C) name = some none)
    (hq : ∀ h' tk' dx, (∀ b o, b ≠ x → hp.get? b = some o → h'.get? b = some o) → hp.objs.size ≤ dx → dx ≠ x → h'.get? x = some { cls := .ref C, dict := some dx, data := .fields fv } →
      h'.Ns1 dx (fun y => if y = name then some v else none) → R (.ok (.ret .none)) ⟨h', g, d, tk', os⟩) :
    codeAny (model prog w) A (.call (.builtin "object.__setattr__") ⟨[.ref x, .str name tk, v], []⟩) R ⟨hp, g, d, t, os⟩ := by
  have I : InstAt hp x { cls := .ref C, data := .fields fv } C none := ⟨hx, rfl, rfl, trivial⟩
  have hxs : x ≠ hp.objs.size := Nat.ne_of_lt (Heap.lt_size hx)
  have eo : excOver K C bmB = true := by
    unfold excOver
    rw [hcd]
    show (match cd.mro with | .ref C' :: bm => C' == C && excTail bmB bm | _ => false) = true
    rw [hm]
    show (C == C && excTail bmB bmB) = true
    rw [ht, Bool.and_true, beq_self_eq_true]
  refine osa_openX SF X I eo (r := none) (by unfold takerIn; rw [ha]; rfl) fun bb => ?_
  have hcls : Looks (model prog w) hp (classData C) cd := looks_clsIn X hcd
  obtain ⟨nm, bs, mro, ns, qn, hd, sn, sb, ab, col, del⟩ := cd
  dsimp only at hh
  subst hh
  show wpAny _ _ (storeInOwnDict (.ref x) (.ref C) (.str name tk) name v bb) _ _ _
  unfold storeInOwnDict ownDictForStores
  repeat (first | with_reducible refine HandSPX.store_in_new ?_ ?_ | with_reducible refine wpAny_loadPart_at hx ?_ | with_reducible refine hcls.at ?_ | wp_step)
  · exact ⟨_, #[], _, (Heap.get?_update_ne _ _ _ _ hxs.symm).trans (Heap.get?_push_at rfl rfl), rfl, fun e he => absurd he (by simp), fun _ => rfl⟩
  · intro h' tk' hn' hs
    have hx₁ : (hp.push { cls := .type "dict", data := .dict #[] }).get? x = some { cls := .ref C, data := .fields fv } := Heap.get?_push_of_some _ hx
    refine hq h' tk' hp.objs.size (fun b o hb ho => ?_) (Nat.le_refl _) hxs.symm ?_ hn'
    · exact (hs.2 b (Nat.ne_of_lt (Heap.lt_size ho))).trans ((Heap.get?_update_ne _ _ _ _ hb).trans (Heap.get?_push_of_some _ ho))
    · exact (hs.2 x hxs).trans (Heap.get?_update_self _ hx₁ rfl)
end
theorem own_init (T : OwnTxt K mg x f C fI B newId initId bmB) (ht : excTail bmB bmB = true) {x t0 : Addr} {v : Value} (X : K.In s.heap) (hlim : s.heap.NoLimit) (hx : s.heap.get? x = some (excO C t0)) (hnx : K.lookup x = none) (hroom : A.depth < recursionLimit)
    (hq : ∀ h' tk dx, InitDone f s.heap h' x C dx t0 v → R (.ok (.ret .none)) { s with heap := h', toks := tk }) :
    codeAny (model prog w) A (.call (.ref fI) ⟨[.ref x, v], []⟩) R s := by
  obtain ⟨oc, od, qn, kV, doc, pm, an, cdv, ct, osl, p1, p2, q1, q2, q3, q4, ho, hcd⟩ := T.fn
  obtain ⟨nm, q, N, bs, sn, sub, ab, col, dd, k0, k1, k2, k3, k5, hC⟩ := T.cls
  have hcl : clsIn K C = some { name := nm, bases := bs, mro := .ref C :: bmB, ns := N, qualname := q, hasDict := true, slotNames := sn, subclasses := sub, abstract := ab, collection := col, hasDel := false } := by unfold clsIn; rw [hC] <;> rfl
  refine Att.call_fn (binds := [((PySem.Str.ofString "self"), .ref x), (f, v)]) X hlim ho hcd hroom (BindsTo.of_eq (T.fo.hb _ _ _ _ _ _ _ _ _ _ _ _)) (T.fo.hk _ _) (fun s₁ IC => ?_) rfl rfl rfl
  obtain ⟨h₁, tk₁, rfl⟩ := IC.toInCall.same
  have k : ∀ b o, s.heap.get? b = some o → h₁.get? b = some o := IC.toInCall.keep
  have hn := IC.toInCall.ns
  have hxL : s.heap.objs.size ≠ x := Nat.ne_of_gt (Heap.lt_size hx)
  have X₁ : K.In h₁ := X.keeps k
  have hx₁ := k _ _ hx
  show wpAny _ _ (execs _ _) _ _ _
  refine wpAny_execs_cons (plainObj_wpAny_Assign_Attribute ?_)
  refine ld_local (v := v) hn (T.fo.m1 _ _ _ _ _ _) rfl (T.fo.lk _ _ _ _) T.fo.dbg (ld_local (v := .ref x) hn (T.fo.m2 _ _ _ _ _ _) rfl (T.fo.lks _ _ _ _) (by decide) ?_)
  refine set_plain X₁ (ox := excO C t0) (od := none) ⟨hx₁, rfl, rfl, trivial⟩ T.sa ?_
  refine own_osa T.sf X₁ hx₁ hcl rfl ht rfl T.noN (fun h₃ tk₃ dx k₃ dn dne hx₃ hn₃ => ?_)
  show wpAny _ _ (execs _ _) _ _ _
  have z : s.heap.objs.size < h₁.objs.size := hn.lt
  exact wpAny_execs_nil (hq h₃ tk₃ dx ⟨fun b o hb e => k₃ b o hb (k b o e), hx₃, Nat.le_of_lt (Nat.lt_of_lt_of_le z dn), dne, hn₃⟩)
theorem own_made (T : OwnTxt K mg x f C fI B newId initId bmB) (ht : excTail bmB bmB = true) {v : Value} (X : K.In s.heap) (hlim : s.heap.NoLimit) (hroom : A.depth + 1 < recursionLimit)
    (hq : ∀ h' tk e d, ErrMade f s.heap h' e C d v → R (.ok (.ret (.ref e))) { s with heap := h', toks := tk }) :
    codeAny (model prog w) A (.call (.ref C) ⟨[v], []⟩) R s := by
  obtain ⟨nm, q, N, bs, sn, sub, ab, col, dd, k0, k1, k2, k3, k5, hC⟩ := T.cls
  obtain ⟨hp, g, dr, tk, os⟩ := s
  have k : ∀ b o, hp.get? b = some o → ((hp.push (kdv_tup [v])).push (excO C hp.objs.size)).get? b = some o := fun b o e => Heap.get?_push_of_some _ (Heap.get?_push_of_some _ e)
  have hget : ((hp.push (kdv_tup [v])).push (excO C hp.objs.size)).get? (hp.objs.size + 1) = some (excO C hp.objs.size) := by heap_get
  have hnx : K.lookup (hp.objs.size + 1) = none := by
    cases e : K.lookup (hp.objs.size + 1) with
    | none => rfl
    | some o =>
      have z : hp.get? (hp.objs.size + 1) = some o := X _ _ e
      exact absurd (Nat.lt_of_succ_lt (Heap.lt_size z)) (Nat.lt_irrefl _)
  refine call_own T.bf (fun X => rfl) (X _ _ hC) (looks_findIn X T.iC) (fun self => bind_fn X self T.tC) (size1 v) ?_
  refine own_init (s := ⟨(hp.push (kdv_tup [v])).push (excO C hp.objs.size), g, dr, tk, os⟩) T ht (X.keeps k) (hlim.keeps k) hget hnx ?_ fun h' tk' dx ⟨k', hx, dn, dne, hns⟩ => ?_
  · show A.depth + 1 < recursionLimit
    exact hroom
  · have old : ∀ b o, hp.get? b = some o → h'.get? b = some o := fun b o e => k' b o (Nat.ne_of_lt (Nat.lt_succ_of_lt (Heap.lt_size e))) (k b o e)
    have z : hp.objs.size + 1 + 1 ≤ dx := by
      first
        | (simpa only [Heap.size_push] using dn)
        | exact dn
        | (have q := dn; rw [Heap.size_push, Heap.size_push] at q; exact q)
    exact ⟨rfl, hq h' tk' (hp.objs.size + 1) dx ⟨old, Nat.le_succ _, ⟨_, _, hx, rfl, rfl, rfl, rfl⟩, Nat.le_trans (Nat.le_trans (Nat.le_succ _) (Nat.le_succ _)) z, dne, hns⟩⟩
end
end PW

set_option Elab.async false
set_option linter.all false
set_option maxRecDepth 100000
set_option maxHeartbeats 1000000
/-! PWh: raise. -/
namespace PW
open PySem PySem.Spec PyProof.Rows L2
/-- an error of the program with a field -/
def ErrA (M : Amb) (G : G0) (c : Nat) (x f : Str) : Prop := ∃ (fI : Addr) (B newId initId : String) (bmB : List Value), OwnTxt M.K M.mg x f (G.cad c) fI B newId initId bmB ∧ PySem.W.excTail bmB bmB = true ∧ G.fld c = f ∧ M.A.depth + 2 < recursionLimit
/-- .. without __init__ -/
def Err0 (M : Amb) (G : G0) (c : Nat) (x : Str) : Prop := ∃ (B newId initId : String) (bmB : List Value), ExcBaseFacts B newId initId bmB ∧ PySem.W.excIn M.K (G.cad c) bmB newId = true ∧ M.mg x = some (.ref (G.cad c)) ∧ PySem.W.keepIn M.K (.ref (G.cad c)) = true ∧
  PySem.W.subIn M.K (.ref (G.cad c)) (.type "BaseException") = some true ∧ PySem.W.typeIn M.K (.ref (G.cad c)) = some (.type "type")
theorem relO_fld {g : Str} {v : V} {v' : Value} (r : RelV v v') (f : Str) : RelO (List.lookup f [(g, v)]) (if f = g then some v' else none) := by
  by_cases hw : f = g
  · subst hw
    rw [if_pos rfl]
    have q : List.lookup f [(f, v)] = some v := by simp [List.lookup]
    rw [q]
    exact r
  · rw [if_neg hw]
    have qw : (f == g) = false := by simpa using hw
    have q2 : List.lookup f [(g, v)] = none := by simp [List.lookup, qw]
    rw [q2]
    trivial
section
variable {X : Cx} {G : G0} {Wx : WX} {pn : List PinT} {p pos pos2 : Pos} {a : Expr} {da : D} {c : Nat} {x f : Str}
def tMkF (C : Addr) (f : Str) (ta : TA) : L2.St → Hp → XK → Prop := fun σ H Q => ta σ H fun vs H1 => ∃ v, vs = [v] ∧ ∀ d, H1 d = none → Q (.ref C) (some d) (upd H1 d (.xd [(f, v)]))
theorem pmk_fld {ta : TA} {C fI : Addr} {B newId initId : String} {bmB : List Value} (T : OwnTxt X.K X.mg x f C fI B newId initId bmB) (ht : PySem.W.excTail bmB bmB = true) (hd : X.A.depth + 2 < recursionLimit) (ha : PA X [a] ta) (hg : Gl X x) (hdb : (x == ("__debug__" : Str)) = false)
    (he : starEach (a :: []) X.env = (false, eval a X.env) :: starEach [] X.env) (hpl : (backTo pos (starEach [] X.env)).any (·.1) = false) : PMk X (.Call (.Name x p) [a] [] pos) (tMkF C f ta) := by
  intro pins s σ H Q I h
  refine wpAny_Call_Name_kw (ld_glob I hg T.gC ?_ hdb)
  refine PySem.W.callWith_K (h₀ := X.base) I.ok.mod.kin T.kC (thn (ha.run pos pins s σ H _ I h) fun us s1 hh => ?_) he hpl
  obtain ⟨vs, H1, I1, r1, v, ev, q1⟩ := hh
  subst ev
  refine ⟨I1.kIn, ?_⟩
  cases r1 with
  | cons rv rn =>
    rename_i v' us'
    cases rn
    show wpAny _ _ (call (.ref C) [v']) _ _ _
    have hlim := I1.nolimit
    obtain ⟨hp, g, dr, tk, os⟩ := s1
    refine wpAny_call (own_made T ht I1.kIn hlim (by omega) fun h' tk' e d M => ?_)
    show MkP X pins σ Q (.ref e) ⟨h', g, dr, tk', os⟩
    obtain ⟨oe, fv, hoe, hc, hd, hdat, h1⟩ := M.obj
    have hns := M.ns
    obtain ⟨G', g1, g2⟩ := restrict h' fun b => decide (b ≠ e)
    have gk : ∀ b, b ≠ e → G'.get? b = h'.get? b := fun b hb => g1 b (decide_eq_true hb)
    have ge : G'.get? e = none := g2 e (by simp)
    have old : ∀ b o, hp.get? b = some o → G'.get? b = some o := fun b o q => (gk b (Nat.ne_of_lt (Nat.lt_of_lt_of_le (Heap.lt_size q) M.new))).trans (M.keep b o q)
    have ob : ObjOk X.prog X.w (upd H1 d (.xd [(f, v)])) G' d (.xd [(f, v)]) :=
      ⟨_, hns.at (fun o q => (gk d M.dne).trans q), fun f => relO_fld rv f⟩
    have J : Inv X pins σ (upd H1 d (.xd [(f, v)])) ⟨G', g, dr, tk', os⟩ := I1.laid (t' := tk') old M.dbig ob
    refine ⟨e, oe, fv, ⟨G', g, dr, tk', os⟩, _, .ref C, some d, rfl, J, fun b o q => ?_, ge, hoe, ⟨hc, hd⟩, hdat, h1, ?_, rfl, I1.bare, raises_own T.exC T.tyC, q1 d (I1.hok.fresh M.dbig)⟩
    · by_cases hb : b = e
      · have q' : G'.get? b = some o := q
        rw [hb, ge] at q'; cases q'
      · exact (gk b hb).symm.trans q
    · rw [upd_ne (Ne.symm M.dne)]
      exact I1.hok.fresh M.new
/-- raise C(a) -/
theorem ss_rs1 (C : Cs X Wx) (T : ErrA (amb X) G c x f) (ha : SE X G pn Wx a da) (hg : Gl X x := by rfl) (hdb : (x == ("__debug__" : Str)) = false := by decide)
    (he : starEach (a :: []) X.env = (false, eval a X.env) :: starEach [] X.env := by rfl) (hpl : (backTo pos (starEach [] X.env)).any (·.1) = false := by rfl) :
    SS X G pn Wx (.Raise (some (.Call (.Name x p) [a] [] pos)) none pos2) (sRs1 c da) := by
  obtain ⟨fI, B, newId, initId, bmB, T, ht, hf, hd⟩ := T
  refine PS.imp (ps_raise C.calm C.tk (pmk_fld T ht hd (pa_cons ha pa_nil he) hg hdb he hpl)) fun D σ H q => ?_
  refine (rdS_bind (k := fun e w h => .ex ⟨c, some w⟩ e h) q).imp ?_
  rintro v H1 ⟨ρ, e, w, h, re, rh, r, f⟩
  refine ⟨v, rfl, fun d hd => ?_⟩
  exact f ρ (upd H1 d (.xd _)) σ (.ref (G.cad c)) (some d) (.new hd) (rh.new hd) (re.ext (.new hd)) ⟨rfl, d, v, rfl, r.ext (.new hd), by rw [upd_same]; show some (HO.xd [(_, v)]) = some (HO.xd [(G.fld c, v)]); rw [hf], fun m => by obtain ⟨u, e1, _⟩ := rh.nt d m; rw [hd] at e1; cases e1⟩
theorem pmk_own0 {C : Addr} {B newId initId : String} {bmB : List Value} (F : ExcBaseFacts B newId initId bmB) (q : PySem.W.excIn X.K C bmB newId = true) (gC : X.mg x = some (.ref C)) (kC : PySem.W.keepIn X.K (.ref C) = true) (r : Raises X (.ref C)) (hg : Gl X x)
    (hdb : (x == ("__debug__" : Str)) = false) : PMk X (.Call (.Name x p) [] [] pos) (fun _ H Q => Q (.ref C) none H) := by
  intro pins s σ H Q I h
  refine wpAny_Call_Name_kw (ld_glob I hg gC ?_ hdb)
  refine PySem.W.callWith_K0 I.kIn kC ?_
  show wpAny _ _ (call (.ref C) []) _ _ _
  obtain ⟨bm, N, nm, qn, bs, hdct, sn, sub, ab, col, dd, k0, k1, k2, k3, k5, mN, hC, hN, hni, T⟩ := exc_obj I.kIn q
  refine wpAny_call_exc_subT F T hC hN hni (fun h' e hm => ?_) (Nat.zero_le _)
  exact mk_of I hm r h (I.hok.gone hm.new)
/-- raise C() -/
theorem ss_rs0 (C : Cs X Wx) (T : Err0 (amb X) G c x) (hg : Gl X x := by rfl) (hdb : (x == ("__debug__" : Str)) = false := by decide) :
    SS X G pn Wx (.Raise (some (.Call (.Name x p) [] [] pos)) none pos2) (sRs0 c) := by
  obtain ⟨B, newId, initId, bmB, bf, q, gC, kC, ex, ty⟩ := T
  refine PS.imp (ps_raise C.calm C.tk (pmk_own0 bf q gC kC (raises_own ex ty) hg hdb)) fun D σ H q => ?_
  obtain ⟨ρ, e, h, re, rh, f⟩ := q
  exact f ρ H σ (.ref (G.cad c)) none .refl rh re ⟨rfl, rfl⟩
end
end PW

set_option Elab.async false
set_option linter.all false
set_option maxRecDepth 100000
set_option maxHeartbeats 1000000
/-! PWi: try with several clauses, each with a name. -/
namespace PW
open PySem PySem.Spec PyProof.Rows L2
/-- the wish at the clauses: class, the name's slot, the suite's reading -/
abbrev Clause := Value × Nat × (Addr → Value → Option Addr → TS)
def cutEnds (i : Nat) (D : Ends) : Ends := { nx := fun σ' H' => D.nx (σ'.set i none) H', rt := D.rt, bk := fun σ' H' => D.bk (σ'.set i none) H', ct := fun σ' H' => D.ct (σ'.set i none) H' }
def wNamed (K : PySem.W.Frag) (Wout : WX) (D : Ends) : List Clause → WX
  | [] => Wout
  | (c, i, ts) :: r => fun cls d σ H => ∃ b, PySem.W.exmOne K cls c = some b ∧ (b = true → ∀ a, H a = none → ts a cls d (cutEnds i D) (σ.set i (some (.ref a))) H) ∧ (b = false → wNamed K Wout D r cls d σ H)
inductive Clauses (X : Cx) : List ExceptHandler → List Clause → Prop
  | nil : Clauses X [] []
  | cons {x n : Str} {c : Value} {i : Nat} {ts : Addr → Value → Option Addr → TS} {b₀ : Stmt} {suite : List Stmt} {np pos' : Pos} {hds : List ExceptHandler} {l : List Clause} (hi : X.N[i]? = some n) (hln : X.env.kindOf n = some .local) (hc : Names X x c)
      (hsu : ∀ (a : Addr) (oe : Obj) (cls : Value) (d : Option Addr) (pn : List (Addr × Obj)), Zc cls d oe → (∃ vs, oe.data = .fields vs) → PSs (X.suite a ((a, oe) :: pn)) (b₀ :: suite) (ts a cls d)) (r : Clauses X hds l) :
      Clauses X (.ExceptHandler (some (.Name x np)) (some n) (b₀ :: suite) pos' :: hds) ((c, i, ts) :: l)
section
variable {X : Cx} {body : List Stmt} {h₀ : ExceptHandler} {hds : List ExceptHandler} {l : List Clause} {pos : Pos} {tb : WX → TS} {Wout : WX}
theorem ps_try_named (hs : X.stack = X.env :: X.outer) (hf : X.env.frame = some X.env.locals) (hN : X.N.Nodup) (tk : Takes X Wout)
    (hb : ∀ (W : WX) (pn : List (Addr × Obj)) (xe : Value → Shared → Prop), Takes (X.tr pn xe) W → PassesOwn (model X.prog X.w) X.A X.env xe → PSs (X.tr pn xe) body (tb W))
    (hh : Clauses X (h₀ :: hds) l) : PS X (.Try body (h₀ :: hds) [] [] pos) (fun D σ H => tb (wNamed X.K Wout D l) D σ H) := by
  refine ⟨fun pins s σ H D I h => ?_⟩
  have ok := I.ok
  have hfr : X.A.frames = some (X.env :: X.outer) := by rw [ok.frames, hs]
  refine wpAny_Try_except (wpAny_mono ((hb (wNamed X.K Wout D l) (X.pn ++ pins) (fun e s₁ => wpAny (model X.prog X.w) X.A (noteFrame e X.env) (fun _ s₂ => wpAny (model X.prog X.w) X.A (setFlight e none) (fun _ s₃ =>
    wpAny (model X.prog X.w) X.A (handleBy e X.env (h₀ :: hds)) (SP X pins D) X.xe s₃) X.xe s₂) X.xe s₁) (fun u s' xx => ?_) PassesOwn.looking).run [] s σ H D (I.toTry _) h) (fun f s1 hsp => ?_) (fun e s1 he => he))
  · obtain ⟨a, B, sI, pins', σ', H', cls, d, rfl, J', nb, up, sky, na, os, ag, w⟩ := xx
    have J : Inv X pins σ' H' sI := J'.ofTry ok
    have sky' : Sky B (X.env :: X.outer) a (Zc cls d) X.env.locals s'.heap := by rw [← hs]; exact sky
    refine Sky.land (M := model X.prog X.w) (A := X.A) Zc.steady hfr hf sky' fun h3 fl3 up3 => ?_
    have J3 : Inv X pins σ' H' { s' with heap := h3 } := J.landed nb fl3.1 (up.trans up3) os ag
    obtain ⟨oe3, vs3, he3, hz3, hd3⟩ := fl3.there
    have nfr : a ∉ frs (X.env :: X.outer) := fun hm => by
      obtain ⟨_, o', e', hnf⟩ := fl3.2.2.1.mem hm
      rw [he3] at e'; cases e'
      exact hnf _ hd3
    have nL : a ≠ X.env.locals := fun z => nfr (List.mem_filterMap.mpr ⟨X.env, List.mem_cons_self, by rw [hf, z]⟩)
    have nF : a ∉ X.fs := fun hm => by
      obtain ⟨e, he, q⟩ := List.mem_filterMap.mp hm
      exact nfr (List.mem_filterMap.mpr ⟨e, List.mem_cons_of_mem _ he, q⟩)
    have S3 := J3.suite he3 hd3 na nL nF
    suffices go : ∀ {hds' : List ExceptHandler} {l' : List Clause}, Clauses X hds' l' → wNamed X.K Wout D l' cls d σ' H' → wpAny (model X.prog X.w) X.A (handleBy (.ref a) X.env hds') (SP X pins D) X.xe { s' with heap := h3 } from go hh w
    intro hds' l' hk
    induction hk with
    | nil =>
      intro w
      refine wpAny_handleBy_nil ?_
      obtain ⟨k1, k2, k3, oe, vs, T, oT, ts', he, hz, hd, h1, hr⟩ := id fl3
      unfold PySem.passOn
      refine wpAny_bind (wpAny_field he hd h1 ?_)
      rw [if_neg (show ¬ ((Value.ref T == Value.none) = true) from by simp)]
      have fin : wpAny (model X.prog X.w) X.A (setFlight (.ref a) X.env.frame) (fun _ s4 => wpAny (model X.prog X.w) X.A (throw (.ref a) : Sem Flow) (SP X pins D) X.xe s4) X.xe { s' with heap := h3 } := by
        rw [hf]
        refine HandSPX.setFlight_upZ fl3 fun h4 hh4 up4 => wpAny_throw (tk _ _ ?_)
        exact ⟨a, B, sI, pins, σ', H', cls, d, rfl, J, nb, (up.trans up3).trans up4, .inr (.inr (by rw [hs]; exact hh4)), na, os, ag, w⟩
      first
        | exact wpAny_bind (wpAny_pure (wpAny_bind fin))
        | exact wpAny_bind fin
    | @cons x n c i ts b₀ suite np pos' hds2 l2 hi hln hc hsu r ih =>
      rintro ⟨b, hb1, hyes, hno⟩
      have hloc : Loc X.env.scope n := .inl hln
      refine wpAny_handleBy_cons (codeAny_handlers_test ?_) (by intro q; cases q)
      have LT : PySem.W.Looks (model X.prog X.w) h3 (typeOf (.ref a)) cls := fun A Q E s k q => wpAny_typeOf_ref (k _ _ he3) (by rw [hz3.1]; exact q)
      have LM := PySem.W.exm_one (M := model X.prog X.w) (J3.kIn) LT hb1
      have test : ∀ {Q : Value → Shared → Prop} {E : Value → Shared → Prop}, Q c { s' with heap := h3 } → wpAny (model X.prog X.w) (X.A.mark (some (.ref a))) (eval (.Name x np) X.env) Q E { s' with heap := h3 } := fun {Q E} q => by
        obtain ⟨hg, hdbg, hm | ⟨hm, hv, hnn⟩⟩ := hc
        · exact ld_glob (X := X.suite a ((a, oe3) :: (X.pn ++ pins))) S3 hg hm q hdbg
        · exact ld_blt (X := X.suite a ((a, oe3) :: (X.pn ++ pins))) S3 hg hm hv q hnn hdbg
      refine test (LM.here ?_)
      cases b with
      | false => exact ih (hno rfl)
      | true =>
        refine codeAny_handlers_suite_as (HandSPX.lands_againZ fl3 fun h4 fl4 up4 => ?_)
        have J4 : Inv X pins σ' H' { s' with heap := h4 } := J.landed nb fl4.1 ((up.trans up3).trans up4) os ag
        obtain ⟨oe4, vs4, he4, hz4, hd4⟩ := fl4.there
        have S4 := J4.suite he4 hd4 na nL nF
        refine store_ok (X := X.suite a ((a, oe4) :: (X.pn ++ pins))) (v := .ref a) S4 hN hi hloc rfl (fun s5 S5 => ?_) (.inr hln)
        refine wpAny_mono ((hsu a oe4 cls d (X.pn ++ pins) hz4 ⟨_, hd4⟩).run [] s5 _ H' _ S5 (hyes rfl a na)) (fun f s6 hsp => ?_) (fun _ _ z => False.elim z)
        have end_ : ∀ {σ6 : L2.St} {H6 : Hp} {Q : Shared → Prop}, Inv (X.suite a ((a, oe4) :: (X.pn ++ pins))) [] σ6 H6 s6 → (∀ s7, Inv X pins (σ6.set i none) H6 s7 → Q s7) →
            wpAny (model X.prog X.w) X.A (do bindName X.env n .none; unbindBehindTheSuite X.env n pos') (fun _ s7 => Q s7) X.xe s6 := fun {σ6 H6 Q} S6 hq => gone_ok (S6.unsuite ok) hN hi hln hq
        cases f with
        | next => obtain ⟨σ6, H6, S6, q6⟩ := hsp; exact end_ S6 fun s7 J7 => ⟨_, _, J7, q6⟩
        | brk => obtain ⟨σ6, H6, S6, q6⟩ := hsp; exact end_ S6 fun s7 J7 => ⟨_, _, J7, q6⟩
        | cont => obtain ⟨σ6, H6, S6, q6⟩ := hsp; exact end_ S6 fun s7 J7 => ⟨_, _, J7, q6⟩
        | ret u => obtain ⟨v6, σ6, H6, S6, r6, q6⟩ := hsp; exact end_ S6 fun s7 J7 => ⟨_, _, _, J7, r6, q6⟩
  · cases f with
    | next => obtain ⟨σ', H', J', q⟩ := hsp; exact wpAny_execs_nil ⟨σ', H', J'.ofTry ok, q⟩
    | brk => obtain ⟨σ', H', J', q⟩ := hsp; exact ⟨σ', H', J'.ofTry ok, q⟩
    | cont => obtain ⟨σ', H', J', q⟩ := hsp; exact ⟨σ', H', J'.ofTry ok, q⟩
    | ret u => obtain ⟨v, σ', H', J', r, q⟩ := hsp; exact ⟨v, σ', H', J'.ofTry ok, r, q⟩
end
end PW

set_option Elab.async false
set_option linter.all false
set_option maxRecDepth 100000
set_option maxHeartbeats 1000000
/-! PWj: try / except .. as n, what its suites ask of the error. -/
namespace PW
open PySem PySem.Spec PyProof.Rows L2
/-- the readings of the clauses -/
def mkCl (g : Gc) : List (Nat × Nat × (Xc → DS)) → List Clause
  | [] => []
  | (c, i, s) :: r => (.ref (g.cad c), i, fun a cls d D σ H => ∃ x : Xc, x.cls = c ∧ rdS g [(i, .ref a, some (x, cls, d))] F0 (s x) D σ H) :: mkCl g r
/-- what isinstance and a field of such an error ask of its class -/
structure ExcK (K : PySem.W.Frag) (C : Addr) : Prop where
  cl : (PySem.W.clsIn K C).isSome = true
  ga : PySem.W.findIn K (.ref C) "__getattribute__" = some (some (.builtin "BaseException.__getattribute__"))
  gg : PySem.W.findIn K (.ref C) "__getattr__" = some none
  su : PySem.W.subIn K (.ref C) (.type "BaseException") = some true
  ha : PySem.W.findIn K (.ref C) "__class__" = some (some (.builtin "object.__class__"))
  hn : PySem.W.specialIn K (.builtin "object.__class__") "__get__" = some (some (.builtin "getset_descriptor.__get__"))
  tk : PySem.W.takesIn K (.builtin "object.__class__") = some true
  hm : PySem.W.mroIn K C (.type "object") = some true
section
variable {X : Cx} {G : G0} {Wx : WX} {pos p : Pos} {d : DS} {body : List Stmt} {h₀ : ExceptHandler} {hds : List ExceptHandler} {hs : List (Nat × Nat × (Xc → DS))}
theorem re_named {g : Gc} {ρ : List Addr} {H : Hp} {e : E} {σ : L2.St} {i : Nat} {a : Addr} {x : Xc} {cls : Value} {dd : Option Addr} (re : RE g [] ρ H e σ) (hi : i < e.length) (rx : RX g ρ H x cls dd) : RE g [(i, .ref a, some (x, cls, dd))] ρ H (setN e i none) (σ.set i (some (.ref a))) := by
  rw [setND]
  refine ⟨by rw [List.length_set, List.length_set]; exact re.len, fun j w h => ?_, fun q hq => ?_⟩
  · by_cases z : j = i
    · subst z
      rw [List.getElem?_set_self hi] at h
      cases h
    · rw [List.getElem?_set_ne (Ne.symm z)] at h
      obtain ⟨v', h1, h2⟩ := re.at_ j w h
      exact ⟨v', by rw [List.getElem?_set_ne (Ne.symm z)]; exact h1, h2⟩
  · have e1 := List.mem_singleton.mp hq
    subst e1
    exact ⟨List.getElem?_set_self (by rw [← re.len]; exact hi), rx⟩
theorem re_unnamed {g : Gc} {pn : List PinT} {ρ : List Addr} {H : Hp} {e : E} {σ : L2.St} {i : Nat} (re : RE g pn ρ H e σ) : RE g [] ρ H (setN e i none) (σ.set i none) := by
  rw [setND]
  refine ⟨by rw [List.length_set, List.length_set]; exact re.len, fun j w h => ?_, by simp⟩
  by_cases z : j = i
  · subst z
    by_cases hl : j < e.length
    · rw [List.getElem?_set_self hl] at h; cases h
    · rw [List.getElem?_eq_none (by simpa using hl)] at h; cases h
  · rw [List.getElem?_set_ne (Ne.symm z)] at h
    obtain ⟨v', h1, h2⟩ := re.at_ j w h
    exact ⟨v', by rw [List.getElem?_set_ne (Ne.symm z)]; exact h1, h2⟩
theorem hand_wish {D : Ends} {x : Xc} {ρ : List Addr} {H : Hp} {e1 : E} {h1 : Hq} {σ : L2.St} {cls : Value} {dd : Option Addr} (rh : RH (gx X G) ρ h1 H) (re : RE (gx X G) [] ρ H e1 σ) (rx : RX (gx X G) ρ H x cls dd) :
    ∀ {hs : List (Nat × Nat × (Xc → DS))}, (∀ q ∈ hs, PySem.W.exmOne X.K (.ref (G.cad x.cls)) (.ref (G.cad q.1)) = some (Nat.beq q.1 x.cls)) → AftS (gx X G) [] ρ H Wx (hand x e1 h1 hs) D → wNamed X.K Wx D (mkCl (gx X G) hs) cls dd σ H
  | [], _, a => a ρ H σ cls dd .refl rh re rx
  | (c, i, s) :: r, hx, a => by
    have hc : cls = .ref (G.cad x.cls) := rx.1
    refine ⟨Nat.beq c x.cls, by rw [hc]; exact hx (c, i, s) (by simp), fun hb aa _ => ?_, fun hb => ?_⟩
    · unfold hand at a
      rw [hb] at a
      dsimp only at a
      rw [bltD, lenD] at a
      by_cases hl : i < e1.length
      · rw [decide_eq_true hl] at a
        dsimp only at a
        refine ⟨x, (Nat.eq_of_beq_eq_true hb).symm, ρ, setN e1 i none, h1, re_named re hl rx, rh, ?_⟩
        cases q : s x (setN e1 i none) h1 with
        | nx e2 h2 => rw [q] at a; exact fun ρ2 H2 σ2 x2 rh2 re2 => a ρ2 H2 (σ2.set i none) x2 rh2 (re_unnamed re2)
        | rt w h2 => rw [q] at a; exact a
        | bk e2 h2 => rw [q] at a; exact a.elim
        | ct e2 h2 => rw [q] at a; exact a.elim
        | ex z e2 h2 => rw [q] at a; exact a.elim
        | bad => rw [q] at a; exact a.elim
      · rw [decide_eq_false hl] at a; exact a.elim
    · unfold hand at a
      rw [hb] at a
      exact hand_wish rh re rx (fun q hq => hx q (by simp [hq])) a
theorem ss_try {n : Nat} (C : Cs X Wx) (hst : X.stack = X.env :: X.outer) (hfr : X.env.frame = some X.env.locals) (ex : ∀ i < n, ∀ q ∈ hs, PySem.W.exmOne X.K (.ref (G.cad i)) (.ref (G.cad q.1)) = some (Nat.beq q.1 i))
    (hb : ∀ (W : WX) (pn : List (Addr × Obj)) (xe : Value → Shared → Prop), Cs (X.tr pn xe) W → SSs (X.tr pn xe) G [] W body d) (hh : Clauses X (h₀ :: hds) (mkCl (gx X G) hs)) : SS X G [] Wx (.Try body (h₀ :: hds) [] [] pos) (sTry n d hs) :=
  PS.imp (ps_try_named (tb := fun W => rdS (gx X G) [] W d) hst hfr C.nd C.tk (fun W pn xe tk po => hb W pn xe ⟨C.calm, C.nd, po, tk, C.un⟩) hh) fun D σ H q => by
  obtain ⟨ρ, e, h, re, rh, a⟩ := q
  refine ⟨ρ, e, h, re, rh, ?_⟩
  unfold sTry at a
  cases q : d e h with
  | nx e2 h2 => rw [q] at a; exact a
  | rt w h2 => rw [q] at a; exact a
  | bk e2 h2 => rw [q] at a; exact a
  | ct e2 h2 => rw [q] at a; exact a
  | bad => rw [q] at a; exact a
  | ex x e1 h1 =>
    rw [q] at a
    dsimp only at a
    rw [bltD] at a
    by_cases hl : x.cls < n
    · rw [decide_eq_true hl] at a
      intro ρ' H' σ' cls dd x1 rh1 re1 rx1
      exact hand_wish rh1 re1 rx1 (ex x.cls hl) (AftS.ext x1 a)
    · rw [decide_eq_false hl] at a; exact a.elim
theorem sh_nil {g : Gc} : Clauses X [] (mkCl g []) := .nil
theorem sh_cons {c i : Nat} {x n : Str} {s : Xc → DS} {b₀ : Stmt} {suite : List Stmt} {np pos' : Pos} (gC : X.mg x = some (.ref (G.cad c)))
    (hsu : ∀ (a : Addr) (oe : Obj) (cls : Value) (d : Option Addr) (pns : List (Addr × Obj)) (x : Xc), Zc cls d oe → (∃ vs, oe.data = .fields vs) → x.cls = c → SSs (X.suite a ((a, oe) :: pns)) G [(i, .ref a, some (x, cls, d))] F0 (b₀ :: suite) (s x))
    (r : Clauses X hds (mkCl (gx X G) hs)) (hi : X.N[i]? = some n := by rfl) (hln : X.env.kindOf n = some .local := by rfl) (hg : Gl X x := by rfl) (hdb : (x == ("__debug__" : Str)) = false := by decide) :
    Clauses X (.ExceptHandler (some (.Name x np)) (some n) (b₀ :: suite) pos' :: hds) (mkCl (gx X G) ((c, i, s) :: hs)) :=
  .cons hi hln ⟨hg, hdb, .inl gC⟩ (fun a oe cls d pns hz hf => ⟨fun pins s σ H D I ⟨x, hx, q⟩ => (hsu a oe cls d pns x hz hf hx).run pins s σ H D I q⟩) r
end
section
variable {X : Cx} {G : G0} {a : Addr} {oe : Obj} {cls : Value} {d : Option Addr} {pns : List (Addr × Obj)} {x : Xc} {c i : Nat} {pos p p2 p3 : Pos} {n : Str}
/-- error.f -/
theorem se_xf {xn f : Str} (hz : Zc cls d oe) (hf : ∃ vs, oe.data = .fields vs) (hx : x.cls = c) (T : ErrA (amb X) G c xn f) (hN : X.N[i]? = some n := by rfl) (hv : Vis X.env.scope n := by first | exact Or.inl rfl | exact Or.inr (Or.inl rfl) | exact Or.inr (Or.inr rfl)) (hd : (n == ("__debug__" : Str)) = false := by decide)
    (hcd : (n == ("__classdict__" : Str)) = false := by decide) (hb : attributeBase (.Name n p) f X.env (eval (.Name n p) X.env) = eval (.Name n p) X.env := by rfl) :
    SE (X.suite a ((a, oe) :: pns)) G [(i, .ref a, some (x, cls, d))] F0 (.Attribute (.Name n p) f pos) (dXf x) := by
  obtain ⟨fI, B, newId, initId, bmB, T, _, hfl, _⟩ := T
  refine ⟨fun pins s σ H Q I q => ?_⟩
  obtain ⟨ρ, e, h, re, rh, af⟩ := q
  obtain ⟨hs, rx⟩ := re.pin (i, .ref a, some (x, cls, d)) (by simp)
  have hs : σ[i]? = some (some (V.ref a)) := hs
  have rx : RX (gx X G) ρ H x cls d := rx
  refine attr_of hb (thn ((pe_var (X := X.suite a ((a, oe) :: pns)) hN hv hd hcd).run pins s σ H (fun v H1 => v = .ref a ∧ H1 = H) I ⟨_, hs, rfl, rfl⟩) fun u s1 ⟨v, H1, I1, ru, ev, eH⟩ => ?_)
  subst ev eH
  obtain rfl : u = Value.ref a := ru
  obtain ⟨ec, r⟩ := rx
  unfold dXf at af
  cases qa : x.arg with
  | none => rw [qa] at af; exact af.elim
  | some w =>
    rw [qa] at af r
    obtain ⟨dd, v, ed, rv, eH, _⟩ := r
    subst ed
    have eH : H1 dd = some (.xd [(f, v)]) := by rw [eH, hx]; show some (HO.xd [(G.fld c, v)]) = _; rw [hfl]
    have ec : cls = .ref (G.cad c) := by rw [ec, hx]
    subst ec
    obtain ⟨ha, _⟩ := I1.pin (a, oe) (List.mem_append_left _ List.mem_cons_self)
    obtain ⟨vs, hdt⟩ := hf
    have hx : ObjOk X.prog X.w H1 s1.heap dd (.xd [(f, v)]) := I1.hok dd _ eH
    obtain ⟨mA, hns, hr⟩ := hx
    obtain ⟨od, ho, hl⟩ := lookIn_ns hns
    have l : List.lookup f [(f, v)] = some v := by simp [List.lookup]
    obtain ⟨u, hu, ru⟩ := RelO.some_of (v := v) (o := mA f) (by rw [← l]; exact hr f)
    have J : PySem.W.InstAt s1.heap a oe (G.cad c) (some od) := ⟨ha, hz.1, by unfold PySem.W.notCls; rw [hdt] <;> rfl, by rw [hz.2]; exact ho⟩
    exact HandSPX.exc_get I1.kIn J T.ga T.gg T.exC (PySem.W.findObj_own T.hdC T.noN rfl (by rw [hl, hu])) (handed_of ru) ⟨v, H1, I1.tok _, ru, af.go .refl rh rv⟩
def rIsX (a : Addr) (d : Option Addr) (B : String) (b : Bool) : List V → Hp → VK → Prop := fun xs H Q => xs = [.ref a, .ty B] ∧ (d = none ∨ ∃ dd fs, d = some dd ∧ H dd = some (.xd fs)) ∧ Q (.bl b) H
theorem call_isX {C : Addr} {B : String} {b : Bool} (k : ExcK X.K C) (hz : Zc (.ref C) d oe) (hf : ∃ vs, oe.data = .fields vs) (ik : PySem.W.kitOne X.K (.ref C) (.type B) = some b) : CallR (X.suite a ((a, oe) :: pns)) (.builtin "isinstance") (rIsX a d B b) := by
  intro pins s σ H xs us Q I r h
  obtain ⟨rfl, hdd, q⟩ := h
  obtain ⟨u1, u2, rfl, r1, r2⟩ := vals2 r
  obtain rfl : u1 = Value.ref a := r1
  obtain rfl : u2 = Value.type B := r2
  obtain ⟨ha, _⟩ := I.pin (a, oe) (List.mem_append_left _ List.mem_cons_self)
  obtain ⟨vs, hdt⟩ := hf
  have nc : PySem.W.notCls oe = true := by unfold PySem.W.notCls; rw [hdt] <;> rfl
  rcases hdd with hdd | ⟨dd, fs, e1, e2⟩
  · have J : PySem.W.InstAt s.heap a oe C none := ⟨ha, hz.1, nc, by rw [hz.2, hdd]; trivial⟩
    exact PySem.W.kia_one (PySem.W.kitx_exc k.cl k.ga k.gg k.su k.ha k.hn k.tk k.hm) I.kIn J ik (fun z => nomatch z) fun tk => ⟨.bl b, H, I.kept (t' := tk) fun _ _ z => z, rfl, q⟩
  · have hx : ObjOk X.prog X.w H s.heap dd (.xd fs) := I.hok dd _ e2
    obtain ⟨mA, hns, hr⟩ := hx
    obtain ⟨od, ho, hl⟩ := lookIn_ns hns
    have J : PySem.W.InstAt s.heap a oe C (some od) := ⟨ha, hz.1, nc, by rw [hz.2, e1]; exact ho⟩
    exact PySem.W.kia_one (PySem.W.kitx_exc k.cl k.ga k.gg k.su k.ha k.hn k.tk k.hm) I.kIn J ik (fun z => nomatch z) fun tk => ⟨.bl b, H, I.kept (t' := tk) fun _ _ z => z, rfl, q⟩
/-- isinstance(error, B) -/
theorem se_xis (B : String) {xB : Str} {b b' : Bool} (hz : Zc cls d oe) (hf : ∃ vs, oe.data = .fields vs) (hx : x.cls = c) (k : ExcK X.K (G.cad c)) (ik : PySem.W.kitOne X.K (.ref (G.cad c)) (.type B) = some b) (eb : b' = b) (g1 : X.mg "isinstance" = none) (g2 : X.mg xB = none) (hvB : bootBuiltins xB = some (.type B))
    (hN : X.N[i]? = some n := by rfl) (hv : Vis X.env.scope n := by first | exact Or.inl rfl | exact Or.inr (Or.inl rfl) | exact Or.inr (Or.inr rfl)) (hd : (n == ("__debug__" : Str)) = false := by decide)
    (hcd : (n == ("__classdict__" : Str)) = false := by decide) (hg : Gl X "isinstance" := by rfl) (hgB : Gl X xB := by rfl) (hnB : xB ≠ "__name__" := by decide) (hdB : (xB == ("__debug__" : Str)) = false := by decide)
    (h1 : starEach [.Name n p, .Name xB p2] X.env = (false, eval (.Name n p) X.env) :: starEach [.Name xB p2] X.env := by rfl) (h2 : starEach [.Name xB p2] X.env = (false, eval (.Name xB p2) X.env) :: starEach [] X.env := by rfl) (hpl : (backTo pos (starEach [.Name xB p2] X.env)).any (·.1) = false := by rfl) :
    SE (X.suite a ((a, oe) :: pns)) G [(i, .ref a, some (x, cls, d))] F0 (.Call (.Name "isinstance" p3) [.Name n p, .Name xB p2] [] pos) (dC (.bl b')) := by
  subst eb
  refine ⟨fun pins s σ H Q I q => ?_⟩
  obtain ⟨ρ, e, h, re, rh, af⟩ := q
  obtain ⟨hs, rx⟩ := re.pin (i, .ref a, some (x, cls, d)) (by simp)
  have hs : σ[i]? = some (some (V.ref a)) := hs
  have rx : RX (gx X G) ρ H x cls d := rx
  obtain ⟨ec, r⟩ := rx
  have ec : cls = .ref (G.cad c) := by rw [ec, hx]
  subst ec
  refine (pe_callB (X := X.suite a ((a, oe) :: pns)) (call_isX k hz hf ik) hg g1 PyProof.Rows.boot_isinstance (pa_cons (pe_var hN hv hd hcd) (pa_cons (pe_bltn (v := .ty B) hgB g2 hvB rfl hnB hdB) pa_nil h2) h1) (by decide) (by decide) h1 hpl).run pins s σ H Q I ?_
  refine ⟨_, hs, rfl, ?_, af.go .refl rh (.bl _)⟩
  cases qa : x.arg with
  | none => rw [qa] at r; exact .inl r
  | some w =>
    rw [qa] at r
    obtain ⟨dd, v, ed, rv, eH, _⟩ := r
    exact .inr ⟨dd, _, ed, eH⟩
end
end PW

set_option Elab.async false
set_option linter.all false
set_option maxRecDepth 100000
set_option maxHeartbeats 1000000
/-! PWk: pop; a def with *things; [.. for .. in .. for .. in ..]. -/
namespace PW
open PySem PySem.Spec PyProof.Rows L2
section
variable {X : Cx} {G : G0} {Wx : WX} {pn : List PinT} {pos p : Pos} {a : Expr} {es : List Expr} {da : D} {dl : DL} {c : CT} {i : Nat} {x : Str}
/-- l.pop() -/
theorem se_pop {apos cpos : Pos} (ha : SE X G pn Wx a da) (hbase : attributeBase a "pop" X.env (eval a X.env) = eval a X.env := by rfl) (hline : (apos.endLine == cpos.line) = true := by rfl) :
    SE X G pn Wx (.Call (.Attribute a "pop" apos) [] [] cpos) (dPop da) :=
  PE.imp (pe_bm0 F.plainAttrs_list F.slot_list_pop F.type_list_pop mt_pop ha hbase hline) fun σ H Q q => by
  refine (rd.bind q).imp ?_
  rintro y H1 ⟨ρ, e, wx, h, re, rh, rx, af⟩
  cases rx <;> first | exact af.elim | skip
  rename_i n a hn
  dsimp only at af
  cases q1 : h.get n with
  | none => rw [q1] at af; exact af.elim
  | some o =>
    rw [q1] at af
    have ro := rh.ob n o a q1 hn
    cases o <;> first | exact af.elim | skip
    rename_i l
    obtain ⟨vs, e0, rs⟩ := ro
    refine ⟨.inl ⟨rfl, vs, .of e0⟩, ?_⟩
    dsimp only at af
    rw [rvD, List.append_nil] at af
    have rr := rs.rev
    cases q2 : l.reverse with
    | nil => rw [q2] at af; exact af.elim
    | cons w r =>
      rw [q2] at af rr
      cases q3 : vs.reverse with
      | nil => rw [q3] at rr; cases rr
      | cons v us =>
        rw [q3] at rr
        cases rr with
        | cons r1 r2 =>
          have ev : vs = us.reverse ++ [v] := by rw [← List.reverse_reverse vs, q3, List.reverse_cons]
          subst ev
          have xp : Ext ρ H1 ρ (upd H1 a (.lst us.reverse)) := .put (List.mem_of_getElem? hn) e0 (fun _ => nofun)
          refine ⟨a, _, v, rfl, rfl, e0, by simp, ?_⟩
          rw [List.dropLast_concat]
          dsimp only at af
          rw [rvD, List.append_nil] at af
          exact af.go xp (rh.put hn e0 (fun _ => nofun) (fun _ => nofun) ⟨_, upd_same, r2.rev.ext xp⟩) (r1.ext xp)
/-! a def with *things alone -/
def spS (g : Gc) (c : CT) (i : Nat) : Sp := fun vs H Q E => ∃ ρ h ws, RH g ρ h H ∧ RWs g ρ H ws vs ∧ ws.length ≤ LIM ∧ Aft g (RW g) ρ H (fun cls d _ H => E cls d H) [] (c i [.tup ws] h) Q
structure CalleeS (M : Amb) (G : G0) (c : CT) (i : Nat) (x : Str) : Prop where
  ex : ∃ k : Nat, FnR M.prog M.w M.K M.mg M.base (L2.CX M.prog M.w) k (G.fad i) (spS ⟨G, M.K, M.w⟩ c i) ∧ Room k M.A
  kp : PySem.W.keepIn M.K (.ref (G.fad i)) = true
  mg : M.mg x = some (.ref (G.fad i))
theorem se_callv (C : Cs X Wx) (T : CalleeS (amb X) G c i x) (hl : SL X G pn Wx (a :: es) dl) (hg : Gl X x := by rfl) (hdb : (x == ("__debug__" : Str)) = false := by decide) (he : starEach (a :: es) X.env = (false, eval a X.env) :: starEach es X.env := by rfl)
    (hpl : (backTo pos (starEach es X.env)).any (·.1) = false := by rfl) : SE X G pn Wx (.Call (.Name x p) (a :: es) [] pos) (dCall c i (lStar dl)) := by
  obtain ⟨k, F, hr⟩ := T.ex
  refine ⟨fun pins s σ H Q I q => ?_⟩
  refine wpAny_Call_Name_kw (ld_glob I hg T.mg ?_ hdb)
  have q : rd (gx X G) pn (RWs (gx X G)) Wx dl σ H fun vs H1 => ∃ ρ h ws, RH (gx X G) ρ h H1 ∧ RWs (gx X G) ρ H1 ws vs ∧ ws.length ≤ LIM ∧ Aft (gx X G) (RW (gx X G)) ρ H1 Wx σ (c i [.tup ws] h) Q := by
    obtain ⟨ρ, e, h, re, rh, af⟩ := q
    unfold dCall lStar at af
    refine ⟨ρ, e, h, re, rh, ?_⟩
    cases q1 : dl e h with
    | bad => rw [q1] at af; exact af
    | ex z h1 => rw [q1] at af; exact af
    | ok ws h1 =>
      rw [q1] at af
      simp only [Rs.bind] at af
      rw [shortD] at af
      intro ρ1 H1 vs x1 rh1 rs1
      by_cases ql : ws.length ≤ LIM
      · rw [decide_eq_true ql] at af
        exact ⟨ρ1, h1, ws, rh1, rs1, ql, Aft.ext x1 af⟩
      · rw [decide_eq_false ql] at af; exact af.elim
  refine PySem.W.callWith_K (h₀ := X.base) I.ok.mod.kin T.kp (thn (hl.run pos pins s σ H _ I q) fun us s1 ⟨vs, H1, I1, r, ρ, h, ws, rh, rs, ql, af⟩ => ⟨I1.kIn, ?_⟩) he hpl
  refine wpAny_call (codeAny_mono (F X.A X.stack s1 H1 us vs Q (WE Wx σ) hr I1.env0 r ⟨ρ, h, ws, rh, rs, ql, af.wx⟩) fun r s' hq => ?_)
  cases r with
  | error e => exact passAt C.tk σ pins H1 s1 e s' I1 hq
  | ok fl =>
    cases fl with
    | ret u => exact I1.after hq
    | next => exact False.elim hq
    | brk => exact False.elim hq
    | cont => exact False.elim hq
end
end PW

set_option Elab.async false
set_option linter.all false
set_option maxRecDepth 100000
set_option maxHeartbeats 1000000
/-! PWl: [.. for .. in .. for .. in .. if ..]. -/
namespace PW
open PySem PySem.Spec PyProof.Rows L2
section
variable {X : Cx} {G : G0} {Wx : WX} {pos p : Pos} {tg iter elt tg1 iter1 : Expr} {ifs1 : List Expr} {scope : Scope} {own : List (Str × Nat)} {src src1 : DI} {t t1 : TGW} {sl sl1 : List Nat} {cnd : DB} {del : D}
theorem not_mem_ext {ρa ρb : List Addr} {Ha Hb : Hp} {D : Addr} {u : HO} (y : Ext ρa Ha ρb Hb) (n : D ∉ ρa) (e : Ha D = some u) : D ∉ ρb := fun z => by
  rcases y.fresh D z with q | q
  · exact n q
  · rw [e] at q; cases q
theorem ExtW.out {ρ ρ' : List Addr} {H H' : Hp} {D : Addr} {o u : HO} (x : ExtW ρ H ρ' H') (e : H' D = some u) (nu : NT u) : ExtW ρ H ρ' (upd H' D o) :=
  ⟨x.pre, fun a xs t q => by
    have h1 := x.tups a xs t q
    have : a ≠ D := fun z => by rw [z, e] at h1; cases h1; exact nu () t
    rw [upd_ne this]; exact h1⟩
/-- the inner loop: the new list stands at D -/
theorem lc_inner {g : Gc} {ρ1 ρ3 ρ4 : List Addr} {H1 H3 H4 : Hp} {σ2 : L2.St} {e1 : E} {J : It} {s : Src} {D : Addr} {acc0 : List W} {ws0 : List V} {h4 : Hq} {vs1 : List Nat} {P : Rs (List W) → Prop} {Nx : Hp → Prop} (hsl : ∀ j ∈ sl1, j ∈ vs1) (re3 : RE g [] ρ3 H3 e1 σ2) (x34 : ExtW ρ3 H3 ρ4 H4)
    (x14 : Ext ρ1 H1 ρ4 H4) (hD : H1 D = none) (rh4 : RH g ρ4 h4 H4) (sr : SrcR g ρ4 H4 s J) (rs0 : RWs g ρ4 H4 acc0.reverse ws0) (eD : H4 D = some (.lst ws0)) (nD : D ∉ ρ4) (l0 : acc0.length ≤ LIM)
    (hb : ¬ P .bad) (a : P (lcA (next s) t1 cnd del (wipeE e1 vs1) FUEL 0 acc0 h4))
    (fin : ∀ acc h' ρ' H' ws, P (.ok acc h') → Ext ρ1 H1 ρ' H' → RH g ρ' h' H' → RWs g ρ' H' acc.reverse ws → H' D = some (.lst ws) → D ∉ ρ' → Nx H') :
    ∃ W1 : Nat → Nat → Hp → Prop, (∃ m, W1 0 m H4) ∧ ∀ j k H, W1 j k H → (J.stop j H ∧ Nx H) ∨ (J.go j H ∧ ∃ Nx1 : Hp → Prop, (∀ H', Nx1 H' → ∃ k', k' < k ∧ W1 (j + 1) k' H') ∧ ∀ x H', J.yld j H x H' → rdT g [] sl1 t1 x (wipe σ2 vs1) H' fun σ3 H5 => wipe σ3 vs1 = wipe σ2 vs1 ∧ rd g [] rEqB F0 cnd σ3 H5 fun b H6 =>
        if b = true then rd g [] (RW g) F0 del σ3 H6 fun y H7 => ∃ acc, H7 D = some (.lst acc) ∧ acc.length < sizeLine ∧ Nx1 (upd H7 D (.lst (acc ++ [y]))) else Nx1 H6) := by
  refine ⟨fun j k Hc => ∃ ρ' h' acc ws, Ext ρ1 H1 ρ' Hc ∧ ExtW ρ4 H4 ρ' Hc ∧ RH g ρ' h' Hc ∧ RWs g ρ' Hc acc.reverse ws ∧ Hc D = some (.lst ws) ∧ D ∉ ρ' ∧ acc.length ≤ LIM + j ∧ j + k ≤ FUEL ∧ P (lcA (next s) t1 cnd del (wipeE e1 vs1) k j acc h'),
    ⟨FUEL, ρ4, h4, acc0, ws0, x14, .refl, rh4, rs0, eD, nD, by omega, by omega, a⟩, ?_⟩
  rintro j k Hc ⟨ρ', h', acc, ws, x, xw, rh, rs, eD, nD', la, lm, a⟩
  cases k with
  | zero => exact (hb a).elim
  | succ k =>
    have sn := sr ρ' Hc h' j xw rh
    unfold lcA at a
    cases qn : next s j h' with
    | none => rw [qn] at a; exact (hb a).elim
    | some o =>
      rw [qn] at a sn
      cases o with
      | none => exact .inl ⟨sn, fin acc h' ρ' Hc ws a x rh rs eD nD'⟩
      | some w =>
        dsimp only at a sn
        refine .inr ⟨sn.1, fun H' => ∃ ρ' h' acc ws, Ext ρ1 H1 ρ' H' ∧ ExtW ρ4 H4 ρ' H' ∧ RH g ρ' h' H' ∧ RWs g ρ' H' acc.reverse ws ∧ H' D = some (.lst ws) ∧ D ∉ ρ' ∧ acc.length ≤ LIM + (j + 1) ∧ j + 1 + k ≤ FUEL ∧ P (lcA (next s) t1 cnd del (wipeE e1 vs1) k (j + 1) acc h'),
          fun H' n => ⟨k, Nat.lt_succ_self k, n⟩, fun v H2 hy => ?_⟩
        obtain ⟨x2, rh2, rw2⟩ := sn.2 v H2 hy
        have D2 : H2 D = some (.lst ws) := x2.frame D _ eD nD'
        have reW := wipeRE (re3.extw ((x34.trans xw).trans x2.w)) vs1
        refine ⟨ρ', w, wipeE e1 vs1, h', reW, rh2, rw2, ?_⟩
        cases qt : t1 w (wipeE e1 vs1) h' with
        | ex z hh => rw [qt] at a; exact (hb a).elim
        | bad => rw [qt] at a; exact (hb a).elim
        | ok e5 hh =>
          rw [qt] at a
          dsimp only at a
          intro ρ5 H5 σ3 x5 rh5 re5 s5 l5
          have nD5 := not_mem_ext x5 nD' D2
          have D5 : H5 D = some (.lst ws) := x5.frame D _ D2 nD'
          refine ⟨wipe_same (by rw [l5, wipe_length]) fun i hi => s5 i fun z => hi (hsl i z), ρ5, e5, hh, re5, rh5, ?_⟩
          cases qc : cnd e5 hh with
          | ex z h2 => rw [qc] at a; exact (hb a).elim
          | bad => rw [qc] at a; exact (hb a).elim
          | ok c h2 =>
            rw [qc] at a
            dsimp only at a
            intro ρ6 H6 b x6 rh6 rb
            cases rb
            have nD6 := not_mem_ext x6 nD5 D5
            have D6 : H6 D = some (.lst ws) := x6.frame D _ D5 nD5
            have x26 := (x2.trans x5).trans x6
            cases c with
            | false =>
              rw [if_neg Bool.false_ne_true]
              exact ⟨ρ6, h2, acc, ws, x.trans x26, xw.trans x26.w, rh6, rs.ext x26, D6, nD6, by omega, by omega, a⟩
            | true =>
              rw [if_pos rfl]
              refine ⟨ρ6, e5, h2, re5.ext x6, rh6, ?_⟩
              dsimp only at a
              cases qe : del e5 h2 with
              | ex z h3 => rw [qe] at a; exact (hb a).elim
              | bad => rw [qe] at a; exact (hb a).elim
              | ok y h3 =>
                rw [qe] at a
                intro ρ7 H7 vy x7 rh7 ry
                have nD7 := not_mem_ext x7 nD6 D6
                have D7 : H7 D = some (.lst ws) := x7.frame D _ D6 nD6
                have x27 := x26.trans x7
                refine ⟨ws, D7, ?_, ρ7, h3, y :: acc, ws ++ [vy], (x.trans x27).out (u := .lst ws) hD, (xw.trans x27.w).out D7 (fun _ => nofun), rh7.out nD7 D7 (fun _ => nofun), ?_, upd_same, nD7, by rw [List.length_cons]; omega, by omega, a⟩
                · rw [← rs.length, List.length_reverse, sizeLine_eq]
                  have h1 : FUEL = 1000000 := rfl
                  have h2 : LIM = 100000 := rfl
                  omega
                · rw [List.reverse_cons]
                  exact ((rs.ext x27).app (.cons ry .nil)).out D7 (fun _ => nofun)
def lcBk (nxt : Nat → Hq → Option (Option W)) (tg : TGW) (src2 : DI) (tg2 : TGW) (cnd : DB) (elt : D) (wp : List Nat) (e0 : E) (m i : Nat) (r : Rs (List W)) : Rs (List W) := match r with
  | .ok acc2 h3 => (match short acc2 with
    | true => lcB nxt tg src2 tg2 cnd elt wp e0 m (i + 1) acc2 h3
    | false => .bad)
  | _ => .bad
theorem lc2_rd {vs vs1 : List Nat} {σ : L2.St} {H : Hp} {Q : VK} (hsl : ∀ j ∈ sl, j ∈ vs) (hsl1 : ∀ j ∈ sl1, j ∈ vs1) (q : rdC (gx X G) [] Wx (cLc2 src t src1 t1 cnd del vs vs1) σ H Q) :
    tLc2 (rd (gx X G) [] (SrcR (gx X G)) Wx src) (rdT (gx X G) [] sl t) (rd (gx X G) [] rEqB F0 tYes) (rd (gx X G) [] (SrcR (gx X G)) F0 src1) (rdT (gx X G) [] sl1 t1) (rd (gx X G) [] rEqB F0 cnd) (rd (gx X G) [] (RW (gx X G)) F0 del) vs vs1 σ H Q := by
  obtain ⟨ρ, e, h, re, rh, a⟩ := q
  refine ⟨ρ, e, h, re, rh, ?_⟩
  unfold cLc2 at a
  cases qs : src e h with
  | bad => rw [qs] at a; exact a
  | ex z h1 => rw [qs] at a; exact a
  | ok s h1 =>
    rw [qs] at a
    intro ρ1 H1 J x1 rh1 sr D hD
    have a : AftC (gx X G) ρ1 H1 Wx σ ((lcB (next s) t src1 t1 cnd del vs1 (wipeE e vs) FUEL 0 [] h1).bind fun acc h2 => .ok (rv acc []) h2) Q := AftC.ext x1 a
    have re1 := re.ext x1
    have nD : D ∉ ρ1 := fun z => by obtain ⟨u, e, _⟩ := rh1.nt D z; rw [hD] at e; cases e
    refine ⟨fun i m Hc => ∃ ρ' h' acc ws, Ext ρ1 H1 ρ' Hc ∧ RH (gx X G) ρ' h' Hc ∧ RWs (gx X G) ρ' Hc acc.reverse ws ∧ Hc D = some (.lst ws) ∧ D ∉ ρ' ∧ acc.length ≤ LIM ∧
      AftC (gx X G) ρ1 H1 Wx σ ((lcB (next s) t src1 t1 cnd del vs1 (wipeE e (vs)) m i acc h').bind fun acc h2 => .ok (rv acc []) h2) Q, ⟨FUEL, ρ1, h1, [], [], .new hD, rh1.new hD, .nil, upd_same, nD, Nat.zero_le _, a⟩, ?_⟩
    rintro i m Hc ⟨ρ', h', acc, ws, x, rh, rs, eD, nD', la, a⟩
    cases m with
    | zero => exact a.elim
    | succ m =>
      have sn := sr ρ' Hc h' i x.w rh
      unfold lcB at a
      cases qn : next s i h' with
      | none => rw [qn] at a; exact a.elim
      | some o =>
        rw [qn] at a sn
        cases o with
        | none =>
          have a : AftC (gx X G) ρ1 H1 Wx σ (.ok (rv acc []) h') Q := a
          refine .inl ⟨sn, a ρ' Hc D ws x rh ?_ eD nD' hD⟩
          rw [rvD, List.append_nil]
          exact rs
        | some w =>
          dsimp only at a sn
          refine .inr ⟨sn.1, fun Hc => ∃ ρ' h' acc ws, Ext ρ1 H1 ρ' Hc ∧ RH (gx X G) ρ' h' Hc ∧ RWs (gx X G) ρ' Hc acc.reverse ws ∧ Hc D = some (.lst ws) ∧ D ∉ ρ' ∧ acc.length ≤ LIM ∧
            AftC (gx X G) ρ1 H1 Wx σ ((lcB (next s) t src1 t1 cnd del vs1 (wipeE e (vs)) m (i + 1) acc h').bind fun acc h2 => .ok (rv acc []) h2) Q, fun H' n => ⟨m, Nat.lt_succ_self m, n⟩, fun v H2 hy => ?_⟩
          obtain ⟨x2, rh2, rw2⟩ := sn.2 v H2 hy
          have D2 : H2 D = some (.lst ws) := x2.frame D _ eD nD'
          have reW := wipeRE (re1.ext (x.trans x2)) (vs)
          refine ⟨ρ', w, wipeE e (vs), h', reW, rh2, rw2, ?_⟩
          cases qt : t w (wipeE e (vs)) h' with
          | ex z hh => rw [qt] at a; exact a
          | bad => rw [qt] at a; exact a
          | ok e3 hh =>
            rw [qt] at a
            dsimp only at a
            intro ρ3 H3 σ2 x3 rh3 re3 s3 l3
            have nD3 := not_mem_ext x3 nD' D2
            have D3 : H3 D = some (.lst ws) := x3.frame D _ D2 nD'
            refine ⟨wipe_same (by rw [l3, wipe_length]) fun j hj => s3 j fun z => hj (hsl j z), ρ3, e3, hh, re3, rh3, ?_⟩
            intro ρ3' H3' b x3' rh3' rb
            cases rb
            rw [if_pos rfl]
            have nD3' := not_mem_ext x3' nD3 D3
            have D3' : H3' D = some (.lst ws) := x3'.frame D _ D3 nD3
            refine ⟨ρ3', e3, hh, re3.ext x3', rh3', ?_⟩
            cases q1 : src1 e3 hh with
            | ex z h4 => rw [q1] at a; exact a.elim
            | bad => rw [q1] at a; exact a
            | ok s1 h4 =>
              rw [q1] at a
              dsimp only at a
              intro ρ4 H4 J1 x4 rh4 sr4
              have nD4 := not_mem_ext x4 nD3' D3'
              have D4 : H4 D = some (.lst ws) := x4.frame D _ D3' nD3'
              have x14 := (((x.trans x2).trans x3).trans x3').trans x4
              refine lc_inner (P := fun r => AftC (gx X G) ρ1 H1 Wx σ ((lcBk (next s) t src1 t1 cnd del vs1 (wipeE e vs) m i r).bind fun acc h2 => .ok (rv acc []) h2) Q) hsl1 (re3.ext x3') x4.w x14 hD rh4 sr4 ((((rs.ext x2).ext x3).ext x3').ext x4) D4 nD4 la (fun z => z) a ?_
              intro acc2 h5 ρ5 H5 ws5 pz x15 rh5 rs5 D5 nD5
              unfold lcBk at pz
              dsimp only at pz
              rw [shortD] at pz
              by_cases ql : acc2.length ≤ LIM
              · rw [decide_eq_true ql] at pz
                exact ⟨ρ5, h5, acc2, ws5, x15, rh5, rs5, D5, nD5, ql, pz⟩
              · rw [decide_eq_false ql] at pz; exact pz.elim
theorem sc_lc2 {vs1 : List Nat} (C : Cs X Wx) (hi : SI X G [] Wx tg iter src) (hg : ∀ (s : Shared) (H : Hp) (C : Addr) (cl : List (Str × Addr)) (fp : List Addr), SG (X.blk s H scope (compEnvC scope cl C X.env) fp) G [] sl tg t)
    (hi1 : ∀ (s : Shared) (H : Hp) (C : Addr) (cl : List (Str × Addr)) (fp : List Addr), SI (X.blk s H scope (compEnvC scope cl C X.env) fp) G [] F0 tg1 iter1 src1)
    (hg1 : ∀ (s : Shared) (H : Hp) (C : Addr) (cl : List (Str × Addr)) (fp : List Addr), SG (X.blk s H scope (compEnvC scope cl C X.env) fp) G [] sl1 tg1 t1)
    (ht1 : ∀ (s : Shared) (H : Hp) (C : Addr) (cl : List (Str × Addr)) (fp : List Addr), STs (X.blk s H scope (compEnvC scope cl C X.env) fp) G [] F0 ifs1 cnd)
    (he : ∀ (s : Shared) (H : Hp) (C : Addr) (cl : List (Str × Addr)) (fp : List Addr), SE (X.blk s H scope (compEnvC scope cl C X.env) fp) G [] F0 elt del)
    (hsl : ∀ j ∈ sl, j ∈ own.map (·.2) := by decide) (hsl1 : ∀ j ∈ sl1, j ∈ vs1 := by decide) (hv : ∀ i ∈ vs1, i ∈ own.map (·.2) := by decide) (ok : blkC X.N X.env.scope scope own = true := by kernel_rfl) (hs : ∀ x, foldedSetIterable iter X.env x = pure x := by intro _; rfl) (hs1 : ∀ env x, foldedSetIterable iter1 env x = pure x := by intro _ _; rfl) :
    SC X G [] Wx (.ListComp elt [⟨tg, iter, [], 0⟩, ⟨tg1, iter1, ifs1, 0⟩] scope pos) (cLc2 src t src1 t1 cnd del (own.map (·.2)) vs1) := PE.imp (pe_lc2 (g := rdT (gx X G) [] sl t) (tt := rd (gx X G) [] rEqB F0 tYes) (wi1 := rd (gx X G) [] (SrcR (gx X G)) F0 src1) (g1 := rdT (gx X G) [] sl1 t1) (tt1 := rd (gx X G) [] rEqB F0 cnd) (te := rd (gx X G) [] (RW (gx X G)) F0 del) C.calm C.nd hi (blkOk_by ok) hv hg (fun _ _ _ _ _ => sts_nil) hi1 hg1 ht1 he hs hs1) fun σ H Q q => lc2_rd hsl hsl1 q
end
end PW

set_option Elab.async false
set_option linter.all false
set_option maxRecDepth 100000
set_option maxHeartbeats 1000000
/-! PWm: {..} of ints, sorted. -/
namespace PW
open PySem PySem.Spec PyProof.Rows L2 PpSet
section
variable {X : Cx}
theorem addI_ok {pins : List (Addr × Obj)} {σ : L2.St} {H : Hp} {s : Shared} {E : Value → Shared → Prop} {D : Addr} {S : Int → Bool} {n : Nat} {y : Int} {tk : Tok} {Q : Value → Shared → Prop} (I : Inv X pins σ H s) (hD : H D = some (SetO X.w D S n)) (room : n + 1 < scanBound)
    (h : ∀ s', Inv X pins σ (upd H D (SetO X.w D (fun j => S j || decide (j = y)) (if S y = true then n else n + 1))) s' → Q .none s') : wpAny (model X.prog X.w) X.A (call (.builtin "set.add") [.ref D, .int y tk]) Q E s := by
  refine setR_add (setO_get I hD) room fun h' sb new => h _ (I.write (e := D) (t' := s.toks + 1) (by rw [hD]; trivial) (.inl rfl) (fun b u hb hu => (sb.2 b hb).trans hu) ?_ (setO_new new))
  have ⟨o, _, _, _, ho, _⟩ := new
  exact ⟨o, ho⟩
end
/-- {elt for target in iter if ..}, elt a truth value: D the new set -/
def tScI (w : World) (wi : TI) (g : TG) (tt : TT) (te : TE) (vs : List Nat) : TE := fun σ H Q => wi σ H fun J H1 => ∀ D, H1 D = none → ∃ W : Nat → Nat → Hp → Prop, (∃ m, W 0 m (upd H1 D (SetO w D (fun _ => false) 0))) ∧ ∀ i m H, W i m H →
  (J.stop i H ∧ Q (.ref D) H) ∨ (J.go i H ∧ ∃ Nx : Hp → Prop, (∀ H', Nx H' → ∃ m', m' < m ∧ W (i + 1) m' H') ∧ ∀ x H', J.yld i H x H' → g x (wipe σ vs) H' fun σ2 H2 => wipe σ2 vs = wipe σ vs ∧ tt σ2 H2 fun b H3 =>
    if b = true then te σ2 H3 fun y H4 => ∃ (c : Int) (S : Int → Bool) (n : Nat), y = .int c ∧ H4 D = some (SetO w D S n) ∧ n + 1 < scanBound ∧ Nx (upd H4 D (SetO w D (fun j => S j || decide (j = c)) (if S c = true then n else n + 1))) else Nx H3)
theorem sci_core {pins : List (Addr × Obj)} {s : Shared} {σ : L2.St} {H : Hp} {Q : VK} {elt tg iter : Expr} {ifs : List Expr} {scope : Scope} {own : List (PySem.Str × Nat)} {pos pos' : Pos} {wi : TI} {g : TG} {tt : TT} {te : TE} {use : Option (Value → Sem Unit)} {Qf : Value → Shared → Prop}
    (hc : X.calm = true) (hN : X.N.Nodup) (I : Inv X pins σ H s) (hi : PI X tg iter wi) (ok : BlkOk X.N X.env.scope scope own)
    (hg : ∀ (s : Shared) (H : Hp) (C : Addr) (cl : List (PySem.Str × Addr)) (fp : List Addr), PG (X.blk s H scope (compEnvC scope cl C X.env) fp) tg g) (ht : ∀ (s : Shared) (H : Hp) (C : Addr) (cl : List (PySem.Str × Addr)) (fp : List Addr), PTs (X.blk s H scope (compEnvC scope cl C X.env) fp) ifs tt)
    (he : ∀ (s : Shared) (H : Hp) (C : Addr) (cl : List (PySem.Str × Addr)) (fp : List Addr), PE (X.blk s H scope (compEnvC scope cl C X.env) fp) elt te) (hs : ∀ x, foldedSetIterable iter X.env x = pure x)
    (h : tScI X.w wi g tt te (own.map (·.2)) σ H Q)
    (hRR : ∀ D C s' m H', Inv X pins σ H' s' → Q (.ref D) H' → s'.heap.Ns C m → FpOk X pins H' C → compPost (model X.prog X.w) X.A X.xe use Qf (.ref D) C (.ok .next) s') :
    wpAny (model X.prog X.w) X.A (comprehension (.SetComp elt [⟨tg, iter, ifs, 0⟩] scope pos) scope X.env pos' (newSet (.type "set")) false (eval iter X.env) use) Qf X.xe s := by
  have hfree : ∀ y ∈ scope.names, y.2 = .free → ∃ c, X.env.cells.lookup y.1 = some c := fun y hy e => by
    rcases ok.free y hy e with k | k
    · exact I.ok.has _ (.inl k)
    · exact I.ok.has _ (.inr k)
  refine wpAny_comprehension_free (use := use) rfl hs (closure_ok hfree) ok.kind (fun y hy e => by rw [ok.uniq y hy, e])
    (thn (hi.run pins s σ H _ I h) fun xv s1 hx => thn hx fun itv s2 h2 => ?_)
  obtain ⟨it, fp, tn, J, H2, e, I2, T, st2, f2, q⟩ := h2
  subst e
  refine newSet_ok (newEnv_comp ?_)
  generalize hD : s2.heap.objs.size = D
  have hDn : H2 D = none := I2.hok.fresh (Nat.le_of_eq hD)
  obtain ⟨W, ⟨m0, w0⟩, turn⟩ := q D hDn
  -- the new list
  generalize hs3 : ({ s2 with heap := s2.heap.push { cls := .type "set", dict := none, data := .set #[] 0 (.fresh 0 0 (!X.w.params.followText "set-order")) } } : Shared) = s3
  have I3 : Inv X pins σ (upd H2 D (SetO X.w D (fun _ => false) 0)) s3 := by
    rw [← hs3]
    refine I2.laid (t' := s2.toks) (fun b o e => Heap.get?_push_of_some _ e) (Nat.le_of_eq hD) ?_
    rw [← hD]
    exact setO_new (setR_fresh X.w)
  have h3 : s3.heap = s2.heap.push { cls := .type "set", dict := none, data := .set #[] 0 (.fresh 0 0 (!X.w.params.followText "set-order")) } := by rw [← hs3]
  have sz : ∀ b ∈ fp, b < s2.heap.objs.size := fun b hb => by
    obtain ⟨o, e, _⟩ := T.obj _ _ st2 b hb
    exact Heap.lt_size e
  have f3 : ∀ b ∈ fp, FpOk X pins (upd H2 D (SetO X.w D (fun _ => false) 0)) b ∧ b < s3.heap.objs.size := fun b hb => by
    have hlt := sz b hb
    refine ⟨⟨?_, (f2 b hb).2⟩, by rw [h3, Heap.size_push]; exact Nat.lt_succ_of_lt hlt⟩
    rw [upd_ne (by rw [← hD]; exact Nat.ne_of_lt hlt)]
    exact (f2 b hb).1
  have st3 : tn 0 s3.heap := T.keep _ _ _ st2 fun b _ o e => by rw [h3]; exact Heap.get?_push_of_some _ e
  have I4 := block_start I3 ok hN f3
  have pg := hg s3 (upd H2 D (SetO X.w D (fun _ => false) 0)) s3.heap.objs.size (cellsFrom (s3.heap.objs.size + 1) scope.names (cloFrom X.env.cells scope.names [])) fp
  have pt := ht s3 (upd H2 D (SetO X.w D (fun _ => false) 0)) s3.heap.objs.size (cellsFrom (s3.heap.objs.size + 1) scope.names (cloFrom X.env.cells scope.names [])) fp
  have pe := he s3 (upd H2 D (SetO X.w D (fun _ => false) 0)) s3.heap.objs.size (cellsFrom (s3.heap.objs.size + 1) scope.names (cloFrom X.env.cells scope.names [])) fp
  show codeAny _ _ (.compStart (.SetComp elt [⟨tg, iter, ifs, 0⟩] scope pos) 0 (.ref it) (.ref D) (compEnvC scope (cellsFrom (s3.heap.objs.size + 1) scope.names (cloFrom X.env.cells scope.names [])) s3.heap.objs.size X.env)) (compPost (model X.prog X.w) X.A X.xe use Qf (.ref D) s3.heap.objs.size) { s3 with heap := pushCells (s3.heap.push { cls := .type "dict", data := .dict #[] }) scope.names }
  have nfp : ∀ b ∈ fp, (upd H2 D (SetO X.w D (fun _ => false) 0)) b = none := fun b hb => (f3 b hb).1.1
  generalize hce : compEnvC scope (cellsFrom (s3.heap.objs.size + 1) scope.names (cloFrom X.env.cells scope.names [])) s3.heap.objs.size X.env = ce at I4 pg pt pe ⊢
  have cL : ce.locals = s3.heap.objs.size := by subst hce; rfl
  generalize hH3 : upd H2 D (SetO X.w D (fun _ => false) 0) = H3 at I3 I4 pg pt pe w0 nfp f3
  generalize hs4 : ({ s3 with heap := pushCells (s3.heap.push { cls := .type "dict", data := .dict #[] }) scope.names } : Shared) = s4 at I4 ⊢
  have st4 : tn 0 s4.heap := T.keep _ _ _ st3 fun b _ o e => by rw [← hs4]; exact pushCells_keeps _ _ _ _ (Heap.get?_push_of_some _ e)
  have stat : ∀ {σ' : L2.St} {H' : Hp} {s' : Shared}, Inv (X.blk s3 H3 scope ce fp) [] σ' H' s' → (∀ b ∈ fp, H' b = none) → ∀ b ∈ fp, FpOk (X.blk s3 H3 scope ce fp) [] H' b := fun {σ' H' s'} I' hn b hb =>
    ⟨hn b hb, (I'.ok.exf b hb).1, I'.ok.exfs b hb, .inl hb, fun x c e => (I'.ok.exf b hb).2 x c e, fun p hp => absurd (show p ∈ ([] : List (Addr × Obj)) ++ [] from hp) (by simp)⟩
  have loop : codeAny (model X.prog X.w) X.A (.compLoop (.SetComp elt [⟨tg, iter, ifs, 0⟩] scope pos) 0 (.ref it) (.ref D) ce) (compPost (model X.prog X.w) X.A X.xe use Qf (.ref D) s3.heap.objs.size) s4 := by
    refine compLoopS_any (fun n s' => ∃ i H', Inv (X.blk s3 H3 scope ce fp) [] (wipe σ (own.map (·.2))) H' s' ∧ tn i s'.heap ∧ (∀ b ∈ fp, H' b = none) ∧ W i n H') ?_ m0 ⟨0, H3, I4, st4, nfp, w0⟩
    rintro n s5 ⟨i, H5, I5, st5, n5, w5⟩
    rcases turn i n H5 w5 with ⟨stop, qq⟩ | ⟨go, Nx, hNx, step⟩
    · have td := T.done (X.blk s3 H3 scope ce fp) rfl rfl rfl hc i [] s5 _ H5 (fun _ _ => False) I5 (stat I5 n5) st5 stop
      refine thnF td fun r s6 ⟨hr, I6⟩ => ?_
      subst hr
      -- back in the def's context
      have I7 : Inv X pins σ H5 s6 := I3.call' (ch := fp) I6.os I6.base I6.hok I6.bare fun b hb => ⟨(f3 b hb).1.2.2.2.1, (f3 b hb).1.2.1, (f3 b hb).1.2.2.2.2.1, (f3 b hb).1.2.2.2.2.2⟩
      have nC : H5 s3.heap.objs.size = none := by
        have z : H5 ce.locals = none := I6.free
        rw [cL] at z
        exact z
      obtain ⟨m, hn, _⟩ := I6.loc
      have hn : s6.heap.Ns ce.locals m := hn
      rw [cL] at hn
      exact hRR D s3.heap.objs.size s6 m H5 I7 qq hn (I3.fpOk (Nat.le_refl _) nC)
    · have ti := T.item (X.blk s3 H3 scope ce fp) rfl rfl rfl hc i [] s5 _ H5 (fun _ _ => False) I5 (stat I5 n5) st5 go
      refine thnF ti fun r s6 ⟨u, hr, h6⟩ => ?_
      subst hr
      refine thnF h6 fun _ s7 ⟨x, H7, I7, r7, y7, st7, n7⟩ => ?_
      have I7' := I7.pinned (stat I7 n7) (T.obj _ _ st7)
      refine thnF (pg.run _ s7 _ H7 x u _ I7' r7 (step x H7 y7)) fun _ s8 ⟨σ8, H8, I8, hw8, q8⟩ => ?_
      refine thnF (pt.run _ s8 σ8 H8 _ I8 q8) fun b s9 ⟨H9, I9, q9⟩ => ?_
      -- the turn's end
      have fin : ∀ {s' : Shared} {H' : Hp}, Inv (X.blk s3 H3 scope ce fp) ([] ++ pinsAt fp s7.heap) σ8 H' s' → Nx H' → ∃ m, m < n ∧ ∃ i H', Inv (X.blk s3 H3 scope ce fp) [] (wipe σ (own.map (·.2))) H' s' ∧ tn i s'.heap ∧ (∀ b ∈ fp, H' b = none) ∧ W i m H' := fun {s' H'} I' nx => by
        obtain ⟨m', hm, w'⟩ := hNx H' nx
        have pin' : ∀ b ∈ fp, ∀ o, s7.heap.get? b = some o → s'.heap.get? b = some o ∧ H' b = none := fun b hb o e =>
          let z := I'.pin (b, o) (List.mem_append_right _ (List.mem_append_right _ (mem_pinsAt hb e)))
          ⟨z.1, z.2.1⟩
        have hl : (wipe σ (own.map (·.2))).length = σ8.length := by rw [← hw8, wipe_length]
        refine ⟨m', hm, i + 1, H', (I'.unpinned (pins := [])).weak hl (fun j v e => ?_), T.keep _ _ _ st7 fun b hb o e => (pin' b hb o e).1, fun b hb => ?_, w'⟩
        · rw [← hw8] at e
          exact (wipe_some e).1
        · obtain ⟨o, e, _⟩ := T.obj _ _ st7 b hb
          exact (pin' b hb o e).2
      cases b with
      | false =>
        simp only [Bool.false_eq_true, if_false] at q9 ⊢
        exact fin I9 q9
      | true =>
        simp only [if_true] at q9 ⊢
        refine thnF (pe.run _ s9 σ8 H9 _ I9 q9) fun z s10 ⟨yv, H10, I10, r10, cb, S0, n0, ey, hD10, hz10, nx⟩ => ?_
        subst ey
        obtain ⟨tkz, rfl⟩ := r10
        exact addI_ok (X := X.blk s3 H3 scope ce fp) I10 hD10 hz10 fun s11 I11 => fin I11 nx
  exact codeAny_compStart_set loop (T.self X.A 0 _ _ _ st4 loop)
/-- as a value -/
theorem pe_sci {elt tg iter : Expr} {ifs : List Expr} {scope : Scope} {own : List (PySem.Str × Nat)} {pos : Pos} {wi : TI} {g : TG} {tt : TT} {te : TE} (hc : X.calm = true) (hN : X.N.Nodup) (hi : PI X tg iter wi) (ok : BlkOk X.N X.env.scope scope own)
    (hg : ∀ (s : Shared) (H : Hp) (C : Addr) (cl : List (PySem.Str × Addr)) (fp : List Addr), PG (X.blk s H scope (compEnvC scope cl C X.env) fp) tg g) (ht : ∀ (s : Shared) (H : Hp) (C : Addr) (cl : List (PySem.Str × Addr)) (fp : List Addr), PTs (X.blk s H scope (compEnvC scope cl C X.env) fp) ifs tt)
    (he : ∀ (s : Shared) (H : Hp) (C : Addr) (cl : List (PySem.Str × Addr)) (fp : List Addr), PE (X.blk s H scope (compEnvC scope cl C X.env) fp) elt te) (hs : ∀ x, foldedSetIterable iter X.env x = pure x := by intro _; rfl) :
    PE X (.SetComp elt [⟨tg, iter, ifs, 0⟩] scope pos) (tScI X.w wi g tt te (own.map (·.2))) := by
  refine ⟨fun pins s σ H Q I h => ?_⟩
  rw [eval_SetComp]
  refine sci_core hc hN I hi ok hg ht he hs h fun D C s' m H' I' q hn f => ⟨m, hn, fun h'' sb => ?_⟩
  obtain ⟨f0, f1, f2, f3, f4, f5⟩ := f
  exact ⟨.ref D, H', I'.turned (t' := s'.toks) (fun b o hb e => (sb.2 b hb).trans e) f0 f1 f3 f4 f5, rfl, q⟩

section
variable {X : Cx} {G : G0} {Wx : WX} {pos p p2 : Pos} {tg iter elt a : Expr} {ifs : List Expr} {scope : Scope} {own : List (Str × Nat)} {src : DI} {t : TGW} {sl : List Nat} {cnd : DB} {del : D}
theorem lcA_suf {nxt : Nat → Hq → Option (Option W)} {e0 : E} : ∀ (f i : Nat) (acc : List W) (h : Hq) (l : List W) (h' : Hq), lcA nxt t cnd del e0 f i acc h = .ok l h' → ∃ pre, l = pre ++ acc
  | 0, _, _, _, _, _, e => by cases e
  | f + 1, i, acc, h, l, h', e => by
    unfold lcA at e
    cases q1 : nxt i h with
    | none => rw [q1] at e; cases e
    | some o =>
      rw [q1] at e
      cases o with
      | none => cases e; exact ⟨[], rfl⟩
      | some w =>
        dsimp only at e
        cases q2 : t w e0 h with
        | bad => rw [q2] at e; cases e
        | ex z h => rw [q2] at e; cases e
        | ok e1 h1 =>
          rw [q2] at e
          dsimp only at e
          cases q3 : cnd e1 h1 with
          | bad => rw [q3] at e; cases e
          | ex z h => rw [q3] at e; cases e
          | ok c h2 =>
            rw [q3] at e
            dsimp only at e
            cases c with
            | false => exact lcA_suf f (i + 1) acc h2 l h' e
            | true =>
              dsimp only at e
              cases q4 : del e1 h2 with
              | bad => rw [q4] at e; cases e
              | ex z h => rw [q4] at e; cases e
              | ok y h3 =>
                rw [q4] at e
                obtain ⟨pre, hp⟩ := lcA_suf f (i + 1) (y :: acc) h3 l h' e
                exact ⟨pre ++ [y], by rw [hp, List.append_assoc]; rfl⟩
theorem lcA_nox {nxt : Nat → Hq → Option (Option W)} {e0 : E} : ∀ (f i : Nat) (acc : List W) (h : Hq) (z : Xc) (h' : Hq), lcA nxt t cnd del e0 f i acc h ≠ .ex z h'
  | 0, _, _, _, _, _ => by intro e; cases e
  | f + 1, i, acc, h, z, h' => by
    unfold lcA
    cases nxt i h with
    | none => intro e; cases e
    | some o =>
      cases o with
      | none => intro e; cases e
      | some w =>
        dsimp only
        cases t w e0 h with
        | bad => intro e; cases e
        | ex z h => intro e; cases e
        | ok e1 h1 =>
          dsimp only
          cases cnd e1 h1 with
          | bad => intro e; cases e
          | ex z h => intro e; cases e
          | ok c h2 =>
            dsimp only
            cases c with
            | false => exact lcA_nox f (i + 1) acc h2 z h'
            | true =>
              dsimp only
              cases del e1 h2 with
              | bad => intro e; cases e
              | ex z h => intro e; cases e
              | ok y h3 => exact lcA_nox f (i + 1) (y :: acc) h3 z h'
theorem intsO_l : ∀ {l : List W} {is : List Int}, intsO l = some is → l = is.map W.int
  | [], is, e => by
    simp only [intsO, mapO, Option.some.injEq] at e
    subst e; rfl
  | w :: l, is, e => by
    unfold intsO mapO at e
    cases w <;> first | cases e; done | skip
    rename_i i
    simp only [intO] at e
    cases q : mapO intO l with
    | none => rw [q] at e; cases e
    | some js =>
      rw [q] at e
      cases e
      rw [List.map_cons, ← intsO_l (l := l) (is := js) q]
theorem memI_D (c : Int) : ∀ l, memI l c = decide (c ∈ l)
  | [] => rfl
  | a :: r => by
    unfold memI
    rw [iEqD, memI_D c r]
    by_cases q : a = c
    · rw [decide_eq_true q]; simp [q]
    · rw [decide_eq_false q]
      by_cases z : c ∈ r
      · simp [z]
      · simp [z, Ne.symm q]
theorem ddI_D : ∀ (l a : List Int), a.Nodup → (ddI l a).Nodup ∧ ∀ k, k ∈ ddI l a ↔ k ∈ l ∨ k ∈ a
  | [], a, h => ⟨h, fun k => by simp [ddI]⟩
  | x :: r, a, h => by
    unfold ddI
    rw [memI_D]
    by_cases q : x ∈ a
    · rw [decide_eq_true q]
      obtain ⟨h1, h2⟩ := ddI_D r a h
      refine ⟨h1, fun k => ?_⟩
      rw [h2 k, List.mem_cons]
      constructor
      · rintro (z | z)
        · exact .inl (.inr z)
        · exact .inr z
      · rintro ((z | z) | z)
        · exact .inr (z ▸ q)
        · exact .inl z
        · exact .inr z
    · rw [decide_eq_false q]
      obtain ⟨h1, h2⟩ := ddI_D r (x :: a) (List.nodup_cons.mpr ⟨q, h⟩)
      refine ⟨h1, fun k => ?_⟩
      rw [h2 k, List.mem_cons, List.mem_cons]
      constructor
      · rintro (z | z | z)
        · exact .inl (.inr z)
        · exact .inl (.inl z)
        · exact .inr z
      · rintro ((z | z) | z)
        · exact .inr (.inl z)
        · exact .inl z
        · exact .inr (.inr z)
def setK (r : Rs (List W)) : R := r.bind fun acc h2 => match Nat.ble (len (rv acc [])) 60 with
  | true => (match intsO (rv acc []) with
    | some is => mk (.lst (mpI (srtI (ddI is []) []))) h2
    | none => .bad)
  | false => .bad
theorem setK_ok {g : Gc} {ρ : List Addr} {H : Hp} {σ : L2.St} {acc : List W} {h : Hq} {Q : VK} (a : Aft g (RW g) ρ H Wx σ (setK (.ok acc h)) Q) : ∃ is : List Int, acc.reverse = is.map W.int ∧ acc.length ≤ 60 ∧ Aft g (RW g) ρ H Wx σ (mk (.lst (mpI (srtI (ddI is []) []))) h) Q := by
  unfold setK at a
  simp only [Rs.bind] at a
  rw [bleD, lenD, rvD, List.append_nil] at a
  by_cases ql : acc.reverse.length ≤ 60
  · rw [decide_eq_true ql] at a
    dsimp only at a
    cases q : intsO acc.reverse with
    | none => rw [q] at a; exact a.elim
    | some is =>
      rw [q] at a
      exact ⟨is, intsO_l q, by rw [List.length_reverse] at ql; exact ql, a⟩
  · rw [decide_eq_false ql] at a; exact a.elim
theorem setO_ne {w : World} {D : Addr} {S : Int → Bool} {n : Nat} : NT (SetO w D S n) := fun _ z => by
  have z : false = true := z
  cases z
theorem set_rd {vs : List Nat} {σ : L2.St} {H : Hp} {Q : VK} (hsl : ∀ j ∈ sl, j ∈ vs) (q : rd (gx X G) [] (RW (gx X G)) Wx (cSrtSet (cLc src t cnd del vs)) σ H Q) :
    tScI X.w (rd (gx X G) [] (SrcR (gx X G)) Wx src) (rdT (gx X G) [] sl t) (rd (gx X G) [] rEqB F0 cnd) (rd (gx X G) [] (RW (gx X G)) F0 del) vs σ H (fun v H1 => rSortedSet X.w [v] H1 Q) := by
  obtain ⟨ρ, e, h, re, rh, a⟩ := q
  refine ⟨ρ, e, h, re, rh, ?_⟩
  unfold cSrtSet cLc at a
  cases qs : src e h with
  | bad => rw [qs] at a; exact a
  | ex z h1 => rw [qs] at a; exact a
  | ok s h1 =>
    rw [qs] at a
    intro ρ1 H1 J x1 rh1 sr D hD
    have a : Aft (gx X G) (RW (gx X G)) ρ1 H1 Wx σ (setK (lcA (next s) t cnd del (wipeE e vs) FUEL 0 [] h1)) Q := by
      have a := Aft.ext x1 a
      unfold setK
      simp only [Rs.bind] at a ⊢
      cases q : lcA (next s) t cnd del (wipeE e vs) FUEL 0 [] h1 with
      | ok l h2 => rw [q] at a; exact a
      | ex z h2 => rw [q] at a; exact a
      | bad => rw [q] at a; exact a
    have re1 := re.ext x1
    have nD : D ∉ ρ1 := fun z => by obtain ⟨u, e, _⟩ := rh1.nt D z; rw [hD] at e; cases e
    have look : ∀ {f i : Nat} {acc : List W} {h : Hq}, Aft (gx X G) (RW (gx X G)) ρ1 H1 Wx σ (setK (lcA (next s) t cnd del (wipeE e vs) f i acc h)) Q → acc.length ≤ 60 ∧ ∀ w ∈ acc, ∃ k, w = W.int k := fun {f i acc h} a => by
      cases q : lcA (next s) t cnd del (wipeE e vs) f i acc h with
      | bad => rw [q] at a; exact a.elim
      | ex z h2 => exact (lcA_nox _ _ _ _ _ _ q).elim
      | ok l h2 =>
        rw [q] at a
        obtain ⟨pre, hp⟩ := lcA_suf f i acc h l h2 q
        obtain ⟨is, e1, e2, _⟩ := setK_ok a
        refine ⟨by rw [hp, List.length_append] at e2; omega, fun w hw => ?_⟩
        have : w ∈ l.reverse := by rw [hp]; simp [hw]
        rw [e1] at this
        obtain ⟨k, _, hk⟩ := List.mem_map.mp this
        exact ⟨k, hk.symm⟩
    refine ⟨fun i m Hc => ∃ ρ' h' acc S n, Ext ρ1 H1 ρ' Hc ∧ RH (gx X G) ρ' h' Hc ∧ Hc D = some (SetO X.w D S n) ∧ (∀ k, S k = true ↔ W.int k ∈ acc) ∧ n ≤ acc.length ∧ D ∉ ρ' ∧
      Aft (gx X G) (RW (gx X G)) ρ1 H1 Wx σ (setK (lcA (next s) t cnd del (wipeE e vs) m i acc h')) Q, ⟨FUEL, ρ1, h1, [], fun _ => false, 0, .new hD, rh1.new hD, upd_same, fun k => by simp, Nat.le_refl _, nD, a⟩, ?_⟩
    rintro i m Hc ⟨ρ', h', acc, S, n, x, rh, eD, hS, hn, nD', a⟩
    cases m with
    | zero => exact a.elim
    | succ m =>
      have sn := sr ρ' Hc h' i x.w rh
      unfold lcA at a
      cases qn : next s i h' with
      | none => rw [qn] at a; exact a.elim
      | some o =>
        rw [qn] at a sn
        cases o with
        | none =>
          obtain ⟨is, e1, e2, a⟩ := setK_ok a
          refine .inl ⟨sn, D, S, n, rfl, eD, by omega, fun ns p hp hm hl hn => ?_⟩
          have en : ns = srtI (ddI is []) [] := by
            obtain ⟨d1, d2⟩ := ddI_D is [] (by simp)
            have pm := srtI_perm (ddI is []) []
            rw [List.append_nil] at pm
            have nn : ns.Nodup := hp.imp (fun h => by omega)
            refine sorted_one ((List.perm_ext_iff_of_nodup nn (pm.nodup_iff.mpr d1)).mpr fun k => ?_) (hp.imp (fun h => Int.le_of_lt h)) (srtI_sorted _ _ (by simp))
            rw [hm k, hS k, pm.mem_iff, d2 k, ← List.mem_reverse, e1, List.mem_map]
            constructor
            · rintro ⟨j, hj, hk⟩
              cases hk
              exact .inl hj
            · rintro (z | z)
              · exact ⟨k, z, rfl⟩
              · cases z
          have aa := Aft.ext x a
          rw [en]
          rw [mpI_D] at aa
          refine aft_lst aa rh ?_ hn
          generalize srtI (ddI is []) [] = l
          clear aa a en hl hm hp e1 sn
          induction l with
          | nil => exact .nil
          | cons i r ih => exact .cons (.int i) ih
        | some w =>
          dsimp only at a sn
          refine .inr ⟨sn.1, fun Hc => ∃ ρ' h' acc S n, Ext ρ1 H1 ρ' Hc ∧ RH (gx X G) ρ' h' Hc ∧ Hc D = some (SetO X.w D S n) ∧ (∀ k, S k = true ↔ W.int k ∈ acc) ∧ n ≤ acc.length ∧ D ∉ ρ' ∧
            Aft (gx X G) (RW (gx X G)) ρ1 H1 Wx σ (setK (lcA (next s) t cnd del (wipeE e vs) m (i + 1) acc h')) Q, fun H' n => ⟨m, Nat.lt_succ_self m, n⟩, fun v H2 hy => ?_⟩
          obtain ⟨x2, rh2, rw2⟩ := sn.2 v H2 hy
          have D2 : H2 D = some (SetO X.w D S n) := x2.frame D _ eD nD'
          have reW := wipeRE (re1.ext (x.trans x2)) vs
          refine ⟨ρ', w, wipeE e vs, h', reW, rh2, rw2, ?_⟩
          cases qt : t w (wipeE e vs) h' with
          | ex z hh => rw [qt] at a; exact a.elim
          | bad => rw [qt] at a; exact a.elim
          | ok e3 hh =>
            rw [qt] at a
            dsimp only at a
            intro ρ3 H3 σ3 x3 rh3 re3 s3 l3
            have nD3 := not_mem_ext x3 nD' D2
            have D3 : H3 D = some (SetO X.w D S n) := x3.frame D _ D2 nD'
            refine ⟨wipe_same (by rw [l3, wipe_length]) fun j hj => s3 j fun z => hj (hsl j z), ρ3, e3, hh, re3, rh3, ?_⟩
            cases qc : cnd e3 hh with
            | ex z h2 => rw [qc] at a; exact a.elim
            | bad => rw [qc] at a; exact a.elim
            | ok c h2 =>
              rw [qc] at a
              dsimp only at a
              intro ρ4 H4 b x4 rh4 rb
              cases rb
              have nD4 := not_mem_ext x4 nD3 D3
              have D4 : H4 D = some (SetO X.w D S n) := x4.frame D _ D3 nD3
              have x14 := ((x.trans x2).trans x3).trans x4
              cases c with
              | false =>
                rw [if_neg Bool.false_ne_true]
                exact ⟨ρ4, h2, acc, S, n, x14, rh4, D4, hS, hn, nD4, a⟩
              | true =>
                rw [if_pos rfl]
                refine ⟨ρ4, e3, h2, re3.ext x4, rh4, ?_⟩
                dsimp only at a
                cases qe : del e3 h2 with
                | ex z h3 => rw [qe] at a; exact a.elim
                | bad => rw [qe] at a; exact a.elim
                | ok y h3 =>
                  rw [qe] at a
                  dsimp only at a
                  obtain ⟨hl, hy⟩ := look a
                  obtain ⟨k, hk⟩ := hy y (by simp)
                  subst hk
                  rw [List.length_cons] at hl
                  intro ρ5 H5 vy x5 rh5 ry
                  cases ry
                  have nD5 := not_mem_ext x5 nD4 D4
                  have D5 : H5 D = some (SetO X.w D S n) := x5.frame D _ D4 nD4
                  refine ⟨k, S, n, rfl, D5, by unfold scanBound; omega, ρ5, h3, .int k :: acc, _, _, (x14.trans x5).out (u := SetO X.w D S n) hD, rh5.out nD5 D5 setO_ne, upd_same, fun j => ?_, ?_, nD5, a⟩
                  · rw [Bool.or_eq_true, decide_eq_true_eq, hS j, List.mem_cons]
                    constructor
                    · rintro (z | z)
                      · exact .inr z
                      · exact .inl (by rw [z])
                    · rintro (z | z)
                      · cases z; exact .inr rfl
                      · exact .inl z
                  · rw [List.length_cons]
                    split <;> omega
/-- sorted({..}) of ints -/
theorem se_csrtset (C : Cs X Wx) (g : X.mg "sorted" = none) (hi : SI X G [] Wx tg iter src) (hg : ∀ (s : Shared) (H : Hp) (C : Addr) (cl : List (Str × Addr)) (fp : List Addr), SG (X.blk s H scope (compEnvC scope cl C X.env) fp) G [] sl tg t)
    (ht : ∀ (s : Shared) (H : Hp) (C : Addr) (cl : List (Str × Addr)) (fp : List Addr), STs (X.blk s H scope (compEnvC scope cl C X.env) fp) G [] F0 ifs cnd)
    (he : ∀ (s : Shared) (H : Hp) (C : Addr) (cl : List (Str × Addr)) (fp : List Addr), SE (X.blk s H scope (compEnvC scope cl C X.env) fp) G [] F0 elt del)
    (hsl : ∀ j ∈ sl, j ∈ own.map (·.2) := by decide) (ok : blkC X.N X.env.scope scope own = true := by kernel_rfl) (hs : ∀ x, foldedSetIterable iter X.env x = pure x := by intro _; rfl)
    (hgl : Gl X "sorted" := by rfl) (na : starEach [.SetComp elt [⟨tg, iter, ifs, 0⟩] scope pos] X.env = (false, eval (.SetComp elt [⟨tg, iter, ifs, 0⟩] scope pos) X.env) :: starEach [] X.env := by rfl) (hpl : (backTo p2 (starEach [] X.env)).any (·.1) = false := by rfl) :
    SE X G [] Wx (.Call (.Name "sorted" p) [.SetComp elt [⟨tg, iter, ifs, 0⟩] scope pos] [] p2) (cSrtSet (cLc src t cnd del (own.map (·.2)))) :=
  PE.imp (pe_callB (cr_sortedSet C.calm) hgl g PyProof.Rows.boot_sorted (pa_cons (pe_sci (g := rdT (gx X G) [] sl t) (tt := rd (gx X G) [] rEqB F0 cnd) (te := rd (gx X G) [] (RW (gx X G)) F0 del) C.calm C.nd hi (blkOk_by ok) hg ht he hs) pa_nil na) (by decide) (by decide) na hpl) fun σ H Q q => set_rd hsl q
end
end PW

set_option Elab.async false
set_option linter.all false
set_option maxRecDepth 100000
set_option maxHeartbeats 1000000
/-! PWn: a def's body and its promise; one level above another. -/
namespace PW
open PySem PySem.Spec PyProof.Rows L2
theorem ss_bad {X : Cx} {G : G0} {pn : List PinT} {Wx : WX} {b : List Stmt} : SSs X G pn Wx b (fun _ _ => .bad) := ⟨fun _ _ _ _ _ _ ⟨_, _, _, _, _, a⟩ => a.elim⟩
theorem ss_tryN {X : Cx} {G : G0} {Wx : WX} {pos : Pos} {d : DS} {body : List Stmt} {h₀ : ExceptHandler} {hds : List ExceptHandler} {hs : List (Nat × Nat × (Xc → DS))} {n : Nat} (C : Cs X Wx) (hst : X.stack = X.env :: X.outer) (hfr : X.env.frame = some X.env.locals)
    (ex : ∀ i j, i < n → j < n → PySem.W.exmOne X.K (.ref (G.cad i)) (.ref (G.cad j)) = some (Nat.beq j i)) (hb : ∀ (W : WX) (pn : List (Addr × Obj)) (xe : Value → Shared → Prop), Cs (X.tr pn xe) W → SSs (X.tr pn xe) G [] W body d) (hh : Clauses X (h₀ :: hds) (mkCl (gx X G) hs))
    (hn : (hs.all fun q => decide (q.1 < n)) = true := by rfl) : SS X G [] Wx (.Try body (h₀ :: hds) [] [] pos) (sTry n d hs) :=
  ss_try C hst hfr (fun i hi q hq => ex i q.1 hi (of_decide_eq_true (List.all_eq_true.mp hn q hq))) hb hh
section
variable {P : Program} {w : World} {K : PySem.W.Frag} {mg : Str → Option Value} {base : Heap} {G : G0}
theorem cs_of {N : List Str} {x : Str} {sc : Scope} {f : Addr} {cdv : Value} {A : Around} {outer : List Env} {s : Shared} {H : Hp} {E : XK} {k : Nat} (nd : N.Nodup) (hr : Room k (A.deeper (envOfC x sc s.heap.objs.size f cdv))) :
    Cs (cxOf (L2.CX P w) P w K mg base N x sc f cdv A outer s H E) (fun cls d _ H => E cls d H) :=
  ⟨rfl, nd, passes_of (K := fun e s2 => L2.CX P w outer H s E e s2) (E₁ := fun e s2 => L2.CX P w outer H s E e s2) rfl, takes_of rfl rfl rfl rfl, by have := hr.un; show (A.deeper (envOfC x sc s.heap.objs.size f cdv)).units + 70 < cLine; omega⟩
theorem re_start {g : Gc} {ρ : List Addr} {H : Hp} {N : List Str} : ∀ {n : Nat} {ws : List W} {vs : List V}, RWs g ρ H ws vs → ws.length ≤ n → RE g [] ρ H (mkE n ws) (vs.map some ++ List.replicate (n - vs.length) none)
  | 0, _, _, .nil, _ => ⟨rfl, fun i w h => by simp [mkE] at h, by simp⟩
  | n + 1, _, _, .nil, _ => by
    have ih := re_start (g := g) (ρ := ρ) (H := H) (N := N) (n := n) .nil (Nat.zero_le _)
    refine ⟨by have := ih.len; simp [mkE] at this ⊢; exact this, fun i w h => ?_, by simp⟩
    cases i with
    | zero => simp [mkE] at h
    | succ i =>
      have h' : (mkE n [])[i]? = some (some w) := by simpa [mkE] using h
      obtain ⟨v, h1, h2⟩ := ih.at_ i w h'
      refine ⟨v, ?_, h2⟩
      simp at h1 ⊢
      rw [List.replicate_succ, List.getElem?_cons_succ]
      exact h1
  | n + 1, _, _, .cons r rs, hl => by
    rename_i w v l vs
    have hl' : l.length ≤ n := by simpa using hl
    have ih := re_start (g := g) (ρ := ρ) (H := H) (N := N) (n := n) rs hl'
    refine ⟨?_, fun i w' h => ?_, by simp⟩
    · have := ih.len
      simp only [mkE, List.length_cons, List.map_cons, List.cons_append, Nat.add_sub_add_right] at this ⊢
      omega
    · cases i with
      | zero =>
        have e : w' = w := by simpa [mkE] using h.symm
        subst e
        exact ⟨v, by simp, r⟩
      | succ i =>
        have h' : (mkE n l)[i]? = some (some w') := by simpa [mkE] using h
        obtain ⟨v', h1, h2⟩ := ih.at_ i w' h'
        refine ⟨v', ?_, h2⟩
        simp only [List.length_cons, Nat.add_sub_add_right, List.map_cons, List.cons_append, List.getElem?_cons_succ]
        exact h1
theorem aft_fin {g : Gc} {ρ : List Addr} {H : Hp} {r : RS} {Q : VK} {E : XK} (a : Aft g (RW g) ρ H (fun cls d _ H => E cls d H) [] (fin r) Q) : AftS g [] ρ H (fun cls d _ H => E cls d H) r { nx := fun _ H' => Q .non H', rt := Q } := by
  cases r with
  | nx e h => exact fun ρ' H' σ' x rh re => a ρ' H' .non x rh .non
  | rt w h => exact a
  | ex z e h => exact fun ρ' H' σ' cls d x rh re rx => a ρ' H' cls d x rh rx
  | bk e h => exact a.elim
  | ct e h => exact a.elim
  | bad => exact a.elim
/-- a def's body, one level up -/
theorem step {Pr : CT → Nat → Option Fn} {k i : Nat} {x : Str} {st : Stmt} {ps N : List Str} {d : Fn} {oc kV doc pm cdv ct : Value} {od an : Option Addr} {osl : Array (Option Value)} (lk : K.lookup (G.fad i) = some ⟨oc, od, .func (PySem.W.fnOf x x (defArgs st) (defBody st) (defScope st) .none kV doc pm an cdv ct), osl⟩) (hcd : PySem.W.codeIn K cdv x = true)
    (S : FnScope N ps (defScope st)) (hd : Pr (callN Pr k) i = some d) (hs : d.slots = N.length) (ha : d.ar = ps.length)
    (hb : ∀ (A : Around) (outer : List Env) (s : Shared) (H : Hp) (E : XK), Room k (A.deeper (envOfC x (defScope st) s.heap.objs.size (G.fad i) cdv)) →
      SSs (cxOf (L2.CX P w) P w K mg base N x (defScope st) (G.fad i) cdv A outer s H E) G [] (fun cls d _ H => E cls d H) (defBody st) d.body) :
    FnOk P w K mg base (L2.CX P w) (k + 1) (G.fad i) (PySem.W.fnOf x x (defArgs st) (defBody st) (defScope st) .none kV doc pm an cdv ct) ps (spC ⟨G, K, w⟩ (callN Pr (k + 1)) i ps.length) := by
  refine fn_of lk hcd S (fun vs H Q E h => h.1) fun A outer s H vs Q E hr ⟨hl, ρ, h, ws, rh, rs, a⟩ => ⟨_, hb A outer s H E hr, ρ, mkE N.length ws, h, ?_, rh, ?_⟩
  · have hle : ws.length ≤ N.length := by
      rw [rs.length, hl]
      have := congrArg List.length S.pre
      rw [List.length_take] at this
      omega
    exact re_start (N := N) rs hle
  · unfold callN at a
    rw [hd] at a
    dsimp only at a
    rw [show Nat.beq (len ws) d.ar = true by rw [lenD, ha, rs.length, hl]; exact Nat.beq_refl _, hs] at a
    exact aft_fin a
end
end PW

set_option Elab.async false
set_option linter.all false
set_option maxRecDepth 100000
set_option maxHeartbeats 1000000
/-! PWo: what stands behind the top: facts of the written part. -/
namespace PW
open PySem PySem.Spec PyProof.Rows L2
abbrev Fc := PySem.W.Frag → Bool
def obsX (fs : List Fc) (fn : List He.FnD) (K : PySem.W.Frag) : He.Al := ((fs.all fun f => f K) && fn.all fun d => (He.Fa.code d.at_ d.qual).ok K, fn.map fun d => He.fnObs K d.at_)
def SaysX (fs : List Fc) (fn : List He.FnD) (K : PySem.W.Frag) : Prop := obsX fs fn K = He.valE fn
def obsXG (n : Nat) (fs : List Fc) (fn : List He.FnD) (g : Addr → Option Obj) : He.Al := obsX fs fn (He.frG g (He.asG g n))
def hookX (n : Nat) (fs : List Fc) (fn : List He.FnD) : PySem.W.Hook where
  α := He.Al
  obs := fun s => obsXG n fs fn s.heap.get?
  val := fun _ => He.valE fn
  says := fun _ h => ∃ K : PySem.W.Frag, K.In h ∧ SaysX fs fn K
  of := fun _ _ e => ⟨_, He.frG_in, e⟩
  keeps := fun _ _ _ ⟨K, hK, c⟩ k => ⟨K, PySem.W.Frag.In.keeps hK k, c⟩
theorem obsXG_eq {n : Nat} {fs : List Fc} {fn : List He.FnD} {g : Addr → Option Obj} {s : Shared} (h : ∀ a, g a = s.heap.get? a) : obsXG n fs fn g = (hookX n fs fn).obs s := by
  have e : g = s.heap.get? := funext h
  rw [e] <;> rfl
section
variable {fs : List Fc} {fn : List He.FnD} {K : PySem.W.Frag}
theorem SaysX.fact (c : SaysX fs fn K) (i : Nat) {f : Fc} (h : fs[i]? = some f := by rfl) : f K = true := by
  have c1 := (He.ba (show ((fs.all fun f => f K) && fn.all fun d => (He.Fa.code d.at_ d.qual).ok K) = true from congrArg (fun z : He.Al => z.1) c)).1
  exact List.all_eq_true.mp c1 f (List.mem_of_getElem? h)
theorem SaysX.def_ (c : SaysX fs fn K) (i : Nat) {d : He.FnD} (h : fn[i]? = some d := by rfl) :
    ∃ oc od osl kV doc pm an cdv ct, K.lookup (He.fAd K d.at_) = some ⟨oc, od, .func (PySem.W.fnOf d.name d.qual d.params d.body d.scope .none kV doc pm an cdv ct), osl⟩ ∧ PySem.W.codeIn K cdv d.qual = true := by
  have c2 := (He.ba (show ((fs.all fun f => f K) && fn.all fun d => (He.Fa.code d.at_ d.qual).ok K) = true from congrArg (fun z : He.Al => z.1) c)).2
  have e : fn.map (fun d => He.fnObs K d.at_) = fn.map He.FnD.val := congrArg (fun z : He.Al => z.2) c
  have e2 : (fn.map fun d => He.fnObs K d.at_)[i]? = (fn.map He.FnD.val)[i]? := by rw [e]
  rw [List.getElem?_map, List.getElem?_map, h] at e2
  exact He.fn_ok (Option.some.inj e2) (List.all_eq_true.mp c2 d (List.mem_of_getElem? h))
end
/-! an error class -/
def ownCls (newId : String) (bmB : List Value) (x : Str) (K : PySem.W.Frag) : Bool := match K.lookup (He.ga K x) with
  | some ⟨.type "type", _, .cls cd, sl⟩ => (match sl.toList with
    | [_, _, _, _, some (.builtin n), _] => n == newId && (!cd.hasDel && (cd.hasDict && decide (cd.mro = .ref (He.ga K x) :: bmB)))
    | _ => false)
  | _ => false
theorem ownCls_ok {K : PySem.W.Frag} {newId : String} {bmB : List Value} {x : Str} (q : ownCls newId bmB x K = true) : ∃ nm q N bs sn sub ab col dd k0 k1 k2 k3 k5, K.lookup (He.ga K x) = some (excClassObj nm q (He.ga K x) N bs bmB true sn sub ab col dd k0 k1 k2 k3 k5 newId) := by
  unfold ownCls at q
  split at q
  · rename_i dd cd sl ho
    split at q
    · rename_i k0 k1 k2 k3 n k5 hs
      obtain ⟨b1, q1⟩ := He.ba q
      obtain ⟨b2, q2⟩ := He.ba q1
      obtain ⟨b3, b4⟩ := He.ba q2
      have c1 := beq_iff_eq.mp b1
      have c2 : cd.hasDel = false := by simpa using b2
      have c4 := of_decide_eq_true b4
      clear b1 b2 b4 q q1 q2
      obtain ⟨nm, bs, mro, ns, qn, hd, sn, sub, ab, col, del⟩ := cd
      dsimp only at c2 b3 c4
      subst c1 c2 b3 c4
      have hsl : sl = #[k0, k1, k2, k3, some (.builtin n), k5] := by
        obtain ⟨l⟩ := sl
        simp only at hs
        rw [hs]
      subst hsl
      exact ⟨nm, qn, ns, bs, sn, sub, ab, col, dd, k0, k1, k2, k3, k5, ho⟩
    · cases q
  · cases q
/-- its facts; f: its field -/
def errFs (newId : String) (bmB : List Value) (x f : Str) : List Fc := [
  ownCls newId bmB x,
  fun K => He.eqO (PySem.W.findIn K (.ref (He.ga K x)) "__setattr__") (some (some (.builtin "object.__setattr__"))),
  fun K => He.eqO (PySem.W.findIn K (.ref (He.ga K x)) f) (some none),
  fun K => He.eqO (PySem.W.findIn K (.ref (He.ga K x)) "__init__") (some (some (.ref (He.fAd K (x, some "__init__"))))),
  fun K => decide (PySem.W.typeIn K (.ref (He.fAd K (x, some "__init__"))) = some (.type "function"))]
/-- .. with __init__ or without -/
def excFs (x : Str) (b : String) : List Fc := [
  (He.Fa.glo x).ok,
  (He.Fa.keep x).ok,
  fun K => (PySem.W.clsIn K (He.ga K x)).isSome,
  fun K => He.eqO (PySem.W.findIn K (.ref (He.ga K x)) "__getattribute__") (some (some (.builtin "BaseException.__getattribute__"))),
  fun K => He.eqO (PySem.W.findIn K (.ref (He.ga K x)) "__getattr__") (some none),
  fun K => decide (PySem.W.subIn K (.ref (He.ga K x)) (.type "BaseException") = some true),
  fun K => He.eqO (PySem.W.findIn K (.ref (He.ga K x)) "__class__") (some (some (.builtin "object.__class__"))),
  fun K => He.eqO (PySem.W.specialIn K (.builtin "object.__class__") "__get__") (some (some (.builtin "getset_descriptor.__get__"))),
  fun K => decide (PySem.W.takesIn K (.builtin "object.__class__") = some true),
  fun K => decide (PySem.W.mroIn K (He.ga K x) (.type "object") = some true),
  fun K => decide (PySem.W.typeIn K (.ref (He.ga K x)) = some (.type "type")),
  fun K => PySem.W.hasDictIn K (He.ga K x),
  fun K => decide (PySem.W.kitOne K (.ref (He.ga K x)) (.type b) = some true)]
def AllOk (fs : List Fc) (K : PySem.W.Frag) : Prop := ∀ (i : Nat) (f : Fc), fs[i]? = some f → f K = true
theorem AllOk.at {fs : List Fc} {K : PySem.W.Frag} (c : AllOk fs K) (i : Nat) {f : Fc} (h : fs[i]? = some f := by rfl) : f K = true := c i f h
section
variable {K : PySem.W.Frag} {x f : Str} {b newId initId : String} {bmB : List Value}
theorem exc_k (c : AllOk (excFs x b) K) : ExcK K (He.ga K x) :=
  ⟨c.at 2, He.eqO_ok (c.at 3), He.eqO_ok (c.at 4), of_decide_eq_true (c.at 5), He.eqO_ok (c.at 6), He.eqO_ok (c.at 7), of_decide_eq_true (c.at 8), of_decide_eq_true (c.at 9)⟩
theorem exc_own {h : Heap} {mg : Str → Option Value} (X : K.In h) (G : h.Ns mainGlobals mg) (c : AllOk (excFs x b) K) (e : AllOk (errFs newId bmB x f) K) (bf : ExcBaseFacts b newId initId bmB) (sf : StoreFacts b bmB "object.__setattr__" "object") (fo : FldOk f)
    (fn : ∃ (oc : Value) (od : Option Addr) (qn : Str) (kV doc pm : Value) (an : Option Addr) (cdv ct : Value) (osl : Array (Option Value)) (p1 p2 q1 q2 q3 q4 : Pos),
      K.lookup (He.fAd K (x, some "__init__")) = some ⟨oc, od, .func (PySem.W.fnOf "__init__" qn (iA f p1 p2) (iB f q1 q2 q3 q4) (iS f) .none kV doc pm an cdv ct), osl⟩ ∧ PySem.W.codeIn K cdv qn = true) :
    OwnTxt K mg x f (He.ga K x) (He.fAd K (x, some "__init__")) b newId initId bmB :=
  ⟨He.glo_ok X G (c.at 0), bf, sf, ownCls_ok (e.at 0), He.eqO_ok (e.at 1), He.eqO_ok (c.at 3), He.eqO_ok (c.at 4), He.eqO_ok (e.at 2), He.eqO_ok (e.at 3), of_decide_eq_true (e.at 4), c.at 1, of_decide_eq_true (c.at 5), of_decide_eq_true (c.at 10), c.at 11, fo, fn⟩
end
end PW

set_option Elab.async false
set_option linter.all false
set_option maxRecDepth 100000
set_option maxHeartbeats 1000000
/-! PWq: all defs at once. -/
namespace PW
open PySem PySem.Spec PyProof.Rows L2
theorem beq_no {i n : Nat} (h : i ≠ n) : Nat.beq i n = false := by
  cases q : Nat.beq i n with
  | false => rfl
  | true => exact (h (Nat.eq_of_beq_eq_true q)).elim
theorem lookup_in {β : Type} {a : Addr} {o : β} : ∀ {l : List (Addr × β)}, l.lookup a = some o → (a, o) ∈ l
  | [], e => by cases e
  | (b, u) :: r, e => by
    unfold List.lookup at e
    split at e
    · rename_i h
      have : a = b := beq_iff_eq.mp h
      cases e
      rw [this]
      exact List.mem_cons_self
    · exact List.mem_cons_of_mem _ (lookup_in e)
theorem noStar_at {n : List Nat} {c : CT} {i : Nat} (h : memN n i = false) : noStar n c i = c i := by
  funext ws hh
  unfold noStar
  rw [h]
theorem Callee.noStar {M : Amb} {G : G0} {n : List Nat} {c : CT} {i : Nat} {x : Str} {st : Stmt} {ps : List Str} (h : memN n i = false) (T : Callee M G c i x st ps) : Callee M G (noStar n c) i x st ps := by
  have e : spC ⟨G, M.K, M.w⟩ (PW.noStar n c) i ps.length = spC ⟨G, M.K, M.w⟩ c i ps.length := by
    unfold spC
    rw [noStar_at h]
  exact ⟨by rw [e]; exact T.ex, T.kp, T.mg, by rw [noStar_at h]; exact T.ar⟩
/-- a program's rows: name, def, parameters; none: a def with *things -/
abbrev Rws := List (Option (Str × Stmt × List Str))
def rowsN : Rws → List Str → List Str
  | [], _ => []
  | o :: r, s => match o with
    | some (x, _, _) => x :: rowsN r s
    | none => s.headD "" :: rowsN r s.tail
theorem rowsN_at : ∀ (rows : Rws) (s : List Str) {i : Nat} {x : Str} {st : Stmt} {ps : List Str}, rows[i]? = some (some (x, st, ps)) → (rowsN rows s)[i]? = some x
  | [], _, i, _, _, _, e => by simp at e
  | o :: r, s, 0, x, st, ps, e => by
    simp only [List.getElem?_cons_zero, Option.some.injEq] at e
    subst e
    rfl
  | o :: r, s, i + 1, x, st, ps, e => by
    simp only [List.getElem?_cons_succ] at e
    cases o with
    | none => simpa [rowsN] using rowsN_at r s.tail e
    | some y => simpa [rowsN] using rowsN_at r s e
/-- the addresses, from the written part -/
def gOf (nm : List Str) (cn : List Str) (fl : List Str) (K : PySem.W.Frag) : G0 := ⟨fun i => He.fAd K (nm.getD i "", none), fun k => He.ga K (cn.getD k ""), fun k => fl.getD k ""⟩
/-- level k -/
def Lv (P : Program) (w : World) (K : PySem.W.Frag) (mg : Str → Option Value) (base : Heap) (G : G0) (Pr : CT → Nat → Option Fn) (rows : Rws) (k : Nat) : Prop :=
  (∀ (i : Nat) (x : Str) (st : Stmt) (ps : List Str), rows[i]? = some (some (x, st, ps)) → ∃ (kV doc pm : Value) (an : Option Addr) (cdv ct : Value), FnOk P w K mg base (L2.CX P w) k (G.fad i) (PySem.W.fnOf x x (defArgs st) (defBody st) (defScope st) .none kV doc pm an cdv ct) ps (spC ⟨G, K, w⟩ (callN Pr k) i ps.length)) ∧
  ∀ i : Nat, rows[i]? = some none → FnR P w K mg base (L2.CX P w) k (G.fad i) (spS ⟨G, K, w⟩ (callN Pr k) i)
section
variable {P : Program} {w : World} {K : PySem.W.Frag} {mg : Str → Option Value} {base : Heap} {G : G0} {Pr : CT → Nat → Option Fn} {rows : Rws} {star : List Nat}
theorem lv0 : Lv P w K mg base G Pr rows 0 :=
  ⟨fun i x st ps _ => ⟨.none, .none, .none, none, .none, .none, fun _ _ _ _ h => h.1, fun _ _ _ _ _ _ _ _ _ _ _ _ _ ⟨_, _, _, _, _, _, a⟩ => a.elim⟩, fun _ _ => fun _ _ _ _ _ _ _ _ _ _ _ ⟨_, _, _, _, _, _, a⟩ => a.elim⟩
/-- how many parameters the table says -/
def ArOk (Pr : CT → Nat → Option Fn) (rows : Rws) : Prop := ∀ (C : CT) (i : Nat) (x : Str) (st : Stmt) (ps : List Str), rows[i]? = some (some (x, st, ps)) → ∃ d, Pr C i = some d ∧ d.ar = ps.length
theorem callN_ar (ha : ArOk Pr rows) {k i : Nat} {x : Str} {st : Stmt} {ps : List Str} (h : rows[i]? = some (some (x, st, ps))) : ∀ ws hh, ws.length ≠ ps.length → callN Pr k i ws hh = .bad := fun ws hh n => by
  cases k with
  | zero => rfl
  | succ k =>
    obtain ⟨d, h1, h2⟩ := ha (callN Pr k) i x st ps h
    unfold callN
    rw [h1]
    dsimp only
    rw [show Nat.beq (len ws) d.ar = false by rw [lenD, h2]; exact beq_no n]
theorem tab_of (ha : ArOk Pr rows) {A : Around} {k : Nat} (hr : Room k A) (hm : ∀ (i : Nat) (x : Str) (st : Stmt) (ps : List Str), rows[i]? = some (some (x, st, ps)) → PySem.W.keepIn K (.ref (G.fad i)) = true ∧ mg x = some (.ref (G.fad i))) (ih : Lv P w K mg base G Pr rows k) :
    ∀ (i : Nat) (x : Str) (st : Stmt) (ps : List Str), rows[i]? = some (some (x, st, ps)) → Callee ⟨P, w, K, mg, base, A⟩ G (callN Pr k) i x st ps := fun i x st ps h => by
  obtain ⟨kV, doc, pm, an, cdv, ct, F⟩ := ih.1 i x st ps h
  exact ⟨⟨k, kV, doc, pm, an, cdv, ct, F, hr⟩, (hm i x st ps h).1, (hm i x st ps h).2, callN_ar ha h⟩
theorem tabV_of {A : Around} {k : Nat} (T : ∀ (i : Nat) (x : Str) (st : Stmt) (ps : List Str), rows[i]? = some (some (x, st, ps)) → Callee ⟨P, w, K, mg, base, A⟩ G (callN Pr k) i x st ps) (hb : ∀ (i : Nat) (x : Str) (st : Stmt) (ps : List Str), rows[i]? = some (some (x, st, ps)) → BindP x st ps)
    (hs : ∀ i : Nat, rows[i]? = some none → memN star i = true) (ho : ∀ (C : CT) (i : Nat), rows[i]? = none → Pr C i = none) : ∀ i : Nat, (∀ ws h, noStar star (callN Pr k) i ws h = .bad) ∨ ∃ x st ps, Callee ⟨P, w, K, mg, base, A⟩ G (noStar star (callN Pr k)) i x st ps ∧ BindP x st ps := fun i => by
  cases e : memN star i with
  | true => exact .inl fun ws h => by unfold noStar; rw [e]
  | false =>
    cases q : rows[i]? with
    | none =>
      refine .inl fun ws h => ?_
      rw [noStar_at e]
      cases k with
      | zero => rfl
      | succ k => unfold callN; rw [ho _ i q]
    | some o =>
      cases o with
      | none => rw [hs i q] at e; cases e
      | some r =>
        obtain ⟨x, st, ps⟩ := r
        exact .inr ⟨x, st, ps, (T i x st ps q).noStar e, hb i x st ps q⟩
/-- a def with *things, one level up -/
theorem step_star {k i : Nat} {x pv : Str} {st : Stmt} {N : List Str} {d : Fn} {oc kV doc pm cdv ct : Value} {od an : Option Addr} {osl : Array (Option Value)} (lk : K.lookup (G.fad i) = some ⟨oc, od, .func (PySem.W.fnOf x x (defArgs st) (defBody st) (defScope st) .none kV doc pm an cdv ct), osl⟩) (hcd : PySem.W.codeIn K cdv x = true)
    (S : FnScope N [pv] (defScope st)) (hd : Pr (callN Pr k) i = some d) (hs : d.slots = N.length) (ha : d.ar = 1)
    (hbd : ∀ rest : List Value, bindArgs (PySem.W.fnOf x x (defArgs st) (defBody st) (defScope st) .none kV doc pm an cdv ct) ⟨rest, []⟩ = (newTuple rest >>= fun t => pure [(pv, t)]))
    (hb : ∀ (A : Around) (outer : List Env) (s : Shared) (H : Hp) (E : XK), Room k (A.deeper (envOfC x (defScope st) s.heap.objs.size (G.fad i) cdv)) →
      SSs (cxOf (L2.CX P w) P w K mg base N x (defScope st) (G.fad i) cdv A outer s H E) G [] (fun cls d _ H => E cls d H) (defBody st) d.body) :
    FnR P w K mg base (L2.CX P w) (k + 1) (G.fad i) (spS ⟨G, K, w⟩ (callN Pr (k + 1)) i) := by
  have F := StX.fn_star (P := P) (w := w) (mg := mg) (base := base) (k := k) (ps := []) (N := N) (sp := spC ⟨G, K, w⟩ (callN Pr (k + 1)) i 1) lk hcd S StX.cxUp (fun us rest hu => by
      have e : us = [] := List.length_eq_zero_iff.mp hu
      subst e
      exact hbd rest) fun A outer s H vs Q E hr ⟨hl, ρ, h, ws, rh, rs, a⟩ => ⟨_, hb A outer s H E hr, ρ, mkE N.length ws, h, by
        refine re_start (N := N) rs ?_
        rw [rs.length, hl]
        have := congrArg List.length S.pre
        rw [List.length_take] at this
        simp at this
        omega, rh, by
        unfold callN at a
        rw [hd] at a
        dsimp only at a
        rw [show Nat.beq (len ws) d.ar = true by rw [lenD, ha, rs.length, hl]; rfl, hs] at a
        exact aft_fin a⟩
  intro A outer s H us vs Q E hr e0 r ⟨ρ, h, ws, rh, rs, hl, a⟩
  refine F A outer s H us vs Q E hr e0 r ⟨[], vs, rfl, rfl, lim_line (by rw [← rs.length]; exact hl), fun p hp => ⟨rfl, ρ, h, [.tup ws], rh.new hp, .cons (.tup upd_same (rs.ext (.new hp))) .nil, Aft.ext (.new hp) a⟩⟩
end
theorem AllOk.l {a b : List Fc} {K : PySem.W.Frag} (c : AllOk (a ++ b) K) : AllOk a K := fun i f h => c i f (by rw [List.getElem?_append_left (List.getElem?_eq_some_iff.mp h).1]; exact h)
theorem AllOk.r {a b : List Fc} {K : PySem.W.Frag} (c : AllOk (a ++ b) K) : AllOk b K := fun i f h => c (a.length + i) f (by rw [List.getElem?_append_right (Nat.le_add_right _ _), Nat.add_sub_cancel_left]; exact h)
theorem hm_of {K : PySem.W.Frag} {h : Heap} {mg : Str → Option Value} {nm cn fl : List Str} (X : K.In h) (Gn : h.Ns mainGlobals mg) (ca : AllOk (nm.map fun x => (He.Fa.glo x).ok) K) (cb : AllOk (nm.map fun x => (He.Fa.keep x).ok) K) :
    ∀ (i : Nat) (x : Str), nm[i]? = some x → PySem.W.keepIn K (.ref ((gOf nm cn fl K).fad i)) = true ∧ mg x = some (.ref ((gOf nm cn fl K).fad i)) := fun i x e => by
  have h1 := ca i (He.Fa.glo x).ok (by rw [List.getElem?_map, e]; rfl)
  have h2 := cb i (He.Fa.keep x).ok (by rw [List.getElem?_map, e]; rfl)
  have ef : (gOf nm cn fl K).fad i = He.ga K x := by
    show He.fAd K (nm.getD i "", none) = _
    rw [List.getD_eq_getElem?_getD, e]
    rfl
  rw [ef]
  exact ⟨h2, He.glo_ok X Gn h1⟩
theorem hm_rows {K : PySem.W.Frag} {h : Heap} {mg : Str → Option Value} {rows : Rws} {s : List Str} {nm cn fl : List Str} (hn : nm = rowsN rows s) (X : K.In h) (Gn : h.Ns mainGlobals mg) (ca : AllOk (nm.map fun x => (He.Fa.glo x).ok) K) (cb : AllOk (nm.map fun x => (He.Fa.keep x).ok) K) :
    ∀ (i : Nat) (x : Str) (st : Stmt) (ps : List Str), rows[i]? = some (some (x, st, ps)) → PySem.W.keepIn K (.ref ((gOf nm cn fl K).fad i)) = true ∧ mg x = some (.ref ((gOf nm cn fl K).fad i)) := fun i x st ps e =>
  hm_of X Gn ca cb i x (by rw [hn]; exact rowsN_at rows s e)
def rowAr : Option (Str × Stmt × List Str) → Nat
  | some (_, _, ps) => ps.length
  | none => 1
theorem arOk_of {rows : Rws} (tbl : CT → List Fn) (h : ∀ C, (tbl C).map Fn.ar = rows.map rowAr) : ArOk (fun C f => nth (tbl C) f) rows := fun C i x st ps e => by
  have h1 : ((tbl C).map Fn.ar)[i]? = (rows.map rowAr)[i]? := by rw [h]
  rw [List.getElem?_map, List.getElem?_map, e] at h1
  obtain ⟨d, h2, h3⟩ := Option.map_eq_some_iff.mp h1
  exact ⟨d, by show nth (tbl C) i = some d; rw [nthD]; exact h2, h3⟩
theorem ho_of {rows : Rws} (tbl : CT → List Fn) (h : ∀ C, (tbl C).map Fn.ar = rows.map rowAr) : ∀ (C : CT) (i : Nat), rows[i]? = none → (fun C f => nth (tbl C) f : CT → Nat → Option Fn) C i = none := fun C i e => by
  have h1 : ((tbl C).map Fn.ar)[i]? = (rows.map rowAr)[i]? := by rw [h]
  rw [List.getElem?_map, List.getElem?_map, e] at h1
  show nth (tbl C) i = none
  rw [nthD]
  exact Option.map_eq_none_iff.mp h1
theorem hs_of {rows : Rws} {star : List Nat} (h : (List.range rows.length).all (fun i => match rows[i]? with | some none => memN star i | _ => true) = true) : ∀ i : Nat, rows[i]? = some none → memN star i = true := fun i e => by
  have hi := (List.getElem?_eq_some_iff.mp e).1
  have := List.all_eq_true.mp h i (List.mem_range.mpr hi)
  rw [e] at this
  exact this
/-! the script -/
def noList (K : PySem.W.Frag) : Bool := K.all fun p => match p.2.cls with
  | .type n => !(n == "list")
  | _ => true
theorem noList_ok {K : PySem.W.Frag} (h : noList K = true) {a : Addr} {o : Obj} (e : K.lookup a = some o) : o.cls ≠ .type "list" := fun z => by
  have m : (a, o) ∈ K := lookup_in e
  have := List.all_eq_true.mp h (a, o) m
  dsimp only at this
  rw [z] at this
  simp at this
theorem script_sp {G : G0} {K : PySem.W.Frag} {c : CT} {i : Nat} {H : Hp} {a : Addr} {ns : List Int} (nl : noList K = true) (hS : SqL K H a (ns.map V.int)) (ok : ∃ h', c i [.ref 0] (Hq.e.push (.rol (mpI ns))) = .ok (.bl true) h') :
    spC ⟨G, K, w⟩ c i 1 [.ref a] H (fun v _ => v = .bl true) fun _ _ _ => False := by
  have hR : ∃ u, H a = some u ∧ NT u := by
    rcases hS with (h | ⟨o, h⟩) | ⟨o, its, n, h1, h2, _⟩
    · exact ⟨_, h, fun _ => nofun⟩
    · exact ⟨_, h, fun _ => nofun⟩
    · exact (noList_ok nl h1 h2).elim
  obtain ⟨u, hu, nt⟩ := hR
  obtain ⟨h', e⟩ := ok
  have rs : ∀ (ρ : List Addr) (ns : List Int), RWs (⟨G, K, w⟩ : Gc) ρ H (mpI ns) (ns.map V.int) := fun ρ ns => by
    induction ns with
    | nil => exact .nil
    | cons i r ih => exact .cons (.int i) ih
  have r0 : RH (⟨G, K, w⟩ : Gc) [] Hq.e H := ⟨rfl, Nat.zero_le _, by simp, fun n o a _ h2 => by simp at h2, by simp⟩
  have r1 : RH (⟨G, K, w⟩ : Gc) [a] (Hq.e.push (.rol (mpI ns))) H := r0.adopt hu (by simp) (by decide) nt ⟨_, hS, rs _ ns⟩
  refine ⟨rfl, [a], _, [.ref 0], r1, .cons (.ref rfl) .nil, ?_⟩
  rw [e]
  intro ρ' H' b _ _ r
  cases r
  rfl
end PW

set_option Elab.async false
set_option linter.all false
set_option maxRecDepth 100000
set_option maxHeartbeats 1000000
/-! PWr: the end. -/
namespace PW
open PySem PySem.Spec PyProof.Rows L2
theorem walkX {l : PySem.W.OpenLaw} {n k : Nat} {q : Program} {loose : List Str} {XP : (Str → Option Value) → Heap → Prop} {YP : World → Heap → Prop} {d : DefRec} {x : Str} (hn : l.most = some n) (hn2 : n ≤ sizeLine) (hdf : d.params.defaults = []) (hr : Room k callerA)
    (F : ∀ (w : World) (mg : Str → Option Value) (fa : Addr) (h : Heap), YP w h → h.Ns mainGlobals mg → mg d.name = some (.ref fa) →
      ∃ (K : PySem.W.Frag) (fd : FuncData) (sp : Sp), K.In h ∧ (∀ (s : Shared) (u : Value), BindsTo s fd ⟨[u], []⟩ [(x, u)]) ∧ (∀ (H : Hp) (a : Addr) (ns : List Int), ns.length ≤ n → Only H → SqL K H a (ns.map V.int) → sp [.ref a] H (fun v _ => v = .bl true) fun _ _ _ => False) ∧
        ∀ base : Heap, K.In base → base.Ns mainGlobals mg → FnOk l.prog w K mg base (L2.CX l.prog w) k fa fd [x] sp) :
    PySem.W.WalkO q loose XP YP l.row.toRowW d [] (fun f vs => PySem.call f vs) :=
  Att.attach_call hn hdf fun w s₀ s₁ mg mb fa o pm cd doc a vs ns G Y ho hd hcd hmg hobj hints hlen hg => by
    obtain ⟨K, fd, sp, KX, hb, hsp, hF⟩ := F w mg fa _ Y G.T.g hmg
    exact law_call KX G.T.g G.T.b G.T.builtins G.T.nolimit hg hobj hints (Nat.le_trans hlen hn2) hr hF hb (fun H hO hS => hsp H a ns hlen hO hS) fun H e s' ⟨_, _, _, _, _, _, _, _, _, _, _, _, z⟩ => z
end PW

set_option Elab.async false
set_option linter.all false
set_option maxRecDepth 100000
set_option maxHeartbeats 1000000
/-! PWz: enumerate(zip(a, b)), a and b tuples: the pair that zip hands out stays held by enumerate's. -/
namespace PW
open PySem PySem.Spec PyProof.Rows L2
abbrev ZF (h : Heap) (z TI TO : Addr) (own : Value) (f : Bool) : Prop := h.get? z = some { cls := .type "zip", dict := none, data := .fields #[own, .bool f, .bool false, .ref TI, .ref TO], slots := #[] }
def OwnV (own : Value) : Prop := own = .none ∨ ∃ T : Addr, own = rawInt T
section
variable {prog : Program} {w : World} {A : Around} {E : Value → Shared → Prop} {s : Shared}
theorem alive_any {a : Addr} {Q : Option Obj → Shared → Prop} (h : Q (s.heap.get? a) s) : wpAny (model prog w) A (loadIfAlive a) Q E s := fun _ _ _ => h
theorem owned_look {z TI TO : Addr} {own : Value} {f : Bool} {Q : Bool → Shared → Prop} (ho : OwnV own) (hz : ZF s.heap z TI TO own f) (ht : Q true s) (hf : ∀ h', ZF h' z TI TO own true → Heap.SameBut z s.heap h' → Q false { s with heap := h' }) :
    wpAny (model prog w) A (Builtin.SmallTypes.ownedTupleIsFree (.ref z)) Q E s := by
  unfold Builtin.SmallTypes.ownedTupleIsFree
  refine wpAny_bind (wpAny_field hz rfl (x := own) rfl ?_)
  rcases ho with rfl | ⟨T, rfl⟩
  · exact wpAny_pure ht
  · show wpAny _ _ (loadIfAlive ((T : Int).toNat) >>= _) _ _ _
    rw [Int.toNat_natCast]
    refine wpAny_bind (alive_any ?_)
    cases q : s.heap.get? T with
    | none => exact wpAny_pure ht
    | some oT =>
      simp only [Option.isNone_some, Bool.false_eq_true, if_false]
      refine wpAny_bind (wpAny_field hz rfl (x := .bool f) rfl ?_)
      cases f with
      | true =>
        rw [if_neg (show ¬ ((Value.bool true != Value.bool true) = true) from Bool.false_ne_true)]
        exact wpAny_pure (hf s.heap hz (Heap.SameBut.refl _ _))
      | false =>
        rw [if_pos (show (Value.bool false != Value.bool true) = true from rfl)]
        exact wpAny_bind (wpAny_setField_rec hz (by simp) fun h₁ hz₁ hs₁ => wpAny_pure (hf h₁ hz₁ hs₁))
theorem zipA_item {z TI TO i1 i2 l1 l2 : Addr} {own : Value} {f : Bool} {k1 k2 : Nat} {xs ys : Array Value} {x y a b : Value} {Q : Value → Shared → Prop} (D : ZipApart z TI TO i1 i2 l1 l2) (ho : OwnV own)
    (hz : ZF s.heap z TI TO own f) (hTI : IsPair s.heap TI (.ref i1) (.ref i2)) (hTO : IsPair s.heap TO a b)
    (h1 : s.heap.IsTupleIter i1 l1 k1) (h2 : s.heap.IsTupleIter i2 l2 k2) (hl1 : s.heap.IsTuple l1 xs) (hl2 : s.heap.IsTuple l2 ys) (hx : xs[k1]? = some x) (hy : ys[k2]? = some y)
    (hQ : ∀ h' own' f', OwnV own' → ZF h' z TI TO own' f' → (∃ a b, IsPair h' TO a b) → h'.IsTupleIter i1 l1 (k1 + 1) → h'.IsTupleIter i2 l2 (k2 + 1) → IsPair h' s.heap.objs.size x y → h'.objs.size = s.heap.objs.size + 1 →
      (∀ c o, c ≠ z → c ≠ TO → c ≠ i1 → c ≠ i2 → s.heap.get? c = some o → h'.get? c = some o) → Q (.ref s.heap.objs.size) { s with heap := h' }) :
    wpAny (model prog w) A (Builtin.«zip.__next__» ⟨[.ref z], []⟩) (fun fin s' => ∃ v, fin = .done (.ret v) ∧ Q v s') E s := by
  show wpAny _ _ (field (.ref z) 2 >>= _) _ _ _
  refine wpAny_bind (wpAny_field hz rfl (x := .bool false) rfl ?_)
  show wpAny _ _ (field (.ref z) 3 >>= _) _ _ _
  refine wpAny_bind (wpAny_field hz rfl (x := .ref TI) rfl ?_)
  refine wpAny_bind (wpAny_seqItems hTI rfl ?_)
  show wpAny _ _ (Builtin.SmallTypes.ownedTupleIsFree (.ref z) >>= _) _ _ _
  refine wpAny_bind (owned_look ho hz ?_ fun h₁ hz₁ hs₁ => ?_)
  · simp only [if_true]
    refine wpAny_bind (wpAny_rule ?_)
    refine wpAny_bind (wpAny_field hz rfl (x := .ref TO) rfl ?_)
    refine wpAny_bind (wpAny_setField_rec hz (by simp) fun h₁ hz₁ hs₁ => ?_)
    replace hz₁ : ZF h₁ z TI TO .ellipsis f := hz₁
    refine wpAny_bind ?_
    simp only [List.zipIdx_cons, List.zipIdx_nil, List.forIn_cons, List.forIn_nil]

    refine wpAny_bind (wpAny_bind (wpAny_onRaise ?_))
    show wpAny _ _ (Builtin.SmallTypes.nextOf (.ref i1) >>= _) _ _ _
    refine wpAny_bind (RZ.nextOf_tuple_item (h1.extBut hs₁.extBut D.i1z) (hl1.extBut hs₁.extBut D.l1z) hx fun h₂ h1₂ hs₂ => wpAny_pure ?_)
    have hTO₂ : IsPair h₂ TO a b := hs₂.extBut _ _ D.TOi1 (hs₁.extBut _ _ D.TOz hTO)
    refine wpAny_bind (wpAny_seqItems hTO₂ rfl ?_)
    refine wpAny_bind (wpAny_updateSeq_pair hTO₂ fun h₃ hTO₃ hs₃ => ?_)
    replace hTO₃ : IsPair h₃ TO x b := hTO₃
    refine wpAny_bind (wpAny_letGo (wpAny_pure ?_))

    refine wpAny_bind (wpAny_bind (wpAny_onRaise ?_))
    show wpAny _ _ (Builtin.SmallTypes.nextOf (.ref i2) >>= _) _ _ _
    refine wpAny_bind (RZ.nextOf_tuple_item (((h2.extBut hs₁.extBut D.i2z).extBut hs₂.extBut D.i12.symm).extBut hs₃.extBut D.TOi2.symm)
      (((hl2.extBut hs₁.extBut D.l2z).extBut hs₂.extBut D.l2i1).extBut hs₃.extBut D.l2TO) hy fun h₄ h2₄ hs₄ => wpAny_pure ?_)
    have hTO₄ : IsPair h₄ TO x b := hs₄.extBut _ _ D.TOi2 hTO₃
    refine wpAny_bind (wpAny_seqItems hTO₄ rfl ?_)
    refine wpAny_bind (wpAny_updateSeq_pair hTO₄ fun h₅ hTO₅ hs₅ => ?_)
    replace hTO₅ : IsPair h₅ TO x y := hTO₅
    refine wpAny_bind (wpAny_letGo (wpAny_pure (wpAny_pure ?_)))

    refine wpAny_bind (wpAny_seqItems hTO₅ rfl ?_)
    refine wpAny_bind (wpAny_newTuple ?_)
    have hsz : h₅.objs.size = s.heap.objs.size := by rw [hs₅.1, hs₄.1, hs₃.1, hs₂.1, hs₁.1]
    have hz₅ : ZF h₅ z TI TO .ellipsis f := hs₅.extBut _ _ D.TOz.symm (hs₄.extBut _ _ D.i2z.symm (hs₃.extBut _ _ D.TOz.symm (hs₂.extBut _ _ D.i1z.symm hz₁)))
    have hk₅ : ∀ c o, c ≠ z → c ≠ TO → c ≠ i1 → c ≠ i2 → s.heap.get? c = some o → h₅.get? c = some o := fun c o c1 c2 c3 c4 e =>
      hs₅.extBut _ _ c2 (hs₄.extBut _ _ c4 (hs₃.extBut _ _ c2 (hs₂.extBut _ _ c3 (hs₁.extBut _ _ c1 e))))
    have h1₅ : h₅.IsTupleIter i1 l1 (k1 + 1) := ((h1₂.extBut hs₃.extBut D.TOi1.symm).extBut hs₄.extBut D.i12).extBut hs₅.extBut D.TOi1.symm
    have h2₅ : h₅.IsTupleIter i2 l2 (k2 + 1) := h2₄.extBut hs₅.extBut D.TOi2.symm
    have hzlt : z < h₅.objs.size := Heap.lt_size hz₅
    have hTOlt : TO < h₅.objs.size := Heap.lt_size hTO₅
    have hi1lt : i1 < h₅.objs.size := by obtain ⟨_, e, _⟩ := h1₅; exact Heap.lt_size e
    have hi2lt : i2 < h₅.objs.size := by obtain ⟨_, e, _⟩ := h2₅; exact Heap.lt_size e
    show wpAny _ _ (Builtin.SmallTypes.ownedTupleHandOut (.ref z) (.ref h₅.objs.size) >>= _) _ _ _
    refine wpAny_bind ?_
    unfold Builtin.SmallTypes.ownedTupleHandOut
    have hz₆ : ZF (h₅.push { cls := .type "tuple", data := .seq #[x, y] }) z TI TO .ellipsis f := Heap.get?_push_of_some _ hz₅
    refine wpAny_bind (wpAny_setField_rec hz₆ (by simp) fun h₇ hz₇ hs₇ => ?_)
    replace hz₇ : ZF h₇ z TI TO (rawInt h₅.objs.size) f := hz₇
    refine wpAny_setField_rec hz₇ (by simp) fun h₈ hz₈ hs₈ => ?_
    replace hz₈ : ZF h₈ z TI TO (rawInt h₅.objs.size) false := hz₈
    have up : ∀ c o, c ≠ z → h₅.get? c = some o → h₈.get? c = some o := fun c o c1 e => hs₈.extBut _ _ c1 (hs₇.extBut _ _ c1 (Heap.get?_push_of_some _ e))
    have hT₈ : IsPair h₈ h₅.objs.size x y := hs₈.extBut _ _ (Nat.ne_of_gt hzlt) (hs₇.extBut _ _ (Nat.ne_of_gt hzlt) (Heap.get?_push_size _ rfl))
    have hz8 : h₈.objs.size = h₅.objs.size + 1 := by rw [hs₈.1, hs₇.1, Heap.size_push]
    rw [hsz] at hz₈ hT₈ hz8
    refine wpAny_pure ⟨_, rfl, ?_⟩
    show Q (.ref h₅.objs.size) _
    rw [hsz]
    exact hQ h₈ _ _ (.inr ⟨_, rfl⟩) hz₈ ⟨_, _, up _ _ D.TOz hTO₅⟩ (h1₅.at fun o e => up _ o D.i1z e) (h2₅.at fun o e => up _ o D.i2z e) hT₈ hz8 fun c o c1 c2 c3 c4 e => up c o c1 (hk₅ c o c1 c2 c3 c4 e)

  · skip
    simp only [Bool.false_eq_true, if_false]
    refine wpAny_bind ?_
    rw [← Array.forIn_toList]
    simp only [List.forIn_cons, List.forIn_nil]
    refine wpAny_bind (wpAny_bind (wpAny_holding ?_))
    show wpAny _ _ (Builtin.SmallTypes.nextOf (.ref i1) >>= _) _ _ _
    refine wpAny_bind (RZ.nextOf_tuple_item (s := { s with heap := h₁ }) (h1.extBut hs₁.extBut D.i1z) (hl1.extBut hs₁.extBut D.l1z) hx fun h₂ h1₂ hs₂ => wpAny_pure ?_)
    refine wpAny_pure ?_
    refine wpAny_bind (wpAny_bind (wpAny_holding ?_))
    show wpAny _ _ (Builtin.SmallTypes.nextOf (.ref i2) >>= _) _ _ _
    refine wpAny_bind (RZ.nextOf_tuple_item (s := { s with heap := h₂ }) ((h2.extBut hs₁.extBut D.i2z).extBut hs₂.extBut D.i12.symm) ((hl2.extBut hs₁.extBut D.l2z).extBut hs₂.extBut D.l2i1) hy fun h₃ h2₃ hs₃ => wpAny_pure ?_)
    refine wpAny_pure (wpAny_pure ?_)
    show wpAny _ _ (newTuple [x, y] >>= _) _ _ _
    refine wpAny_bind (wpAny_newTuple ?_)
    have hsz : h₃.objs.size = s.heap.objs.size := by rw [hs₃.1, hs₂.1, hs₁.1]
    have hz₃ : ZF h₃ z TI TO own true := hs₃.extBut _ _ D.i2z.symm (hs₂.extBut _ _ D.i1z.symm hz₁)
    have hk : ∀ c o, c ≠ z → c ≠ i1 → c ≠ i2 → s.heap.get? c = some o → h₃.get? c = some o := fun c o c1 c2 c3 e => hs₃.extBut _ _ c3 (hs₂.extBut _ _ c2 (hs₁.extBut _ _ c1 e))
    have h1₃ : h₃.IsTupleIter i1 l1 (k1 + 1) := h1₂.extBut hs₃.extBut D.i12
    refine wpAny_pure ⟨_, rfl, ?_⟩
    show Q (.ref h₃.objs.size) _
    have hp : IsPair (h₃.push { cls := .type "tuple", data := .seq #[x, y] }) h₃.objs.size x y := Heap.get?_push_size _ rfl
    have hz4 : (h₃.push { cls := .type "tuple", data := .seq #[x, y] }).objs.size = h₃.objs.size + 1 := Heap.size_push ..
    rw [hsz] at hp hz4 ⊢
    exact hQ _ _ _ ho (Heap.get?_push_of_some _ hz₃) ⟨_, _, Heap.get?_push_of_some _ (hs₃.extBut _ _ D.TOi2 (hs₂.extBut _ _ D.TOi1 (hs₁.extBut _ _ D.TOz hTO)))⟩ (h1₃.at fun o e => Heap.get?_push_of_some _ e) (h2₃.at fun o e => Heap.get?_push_of_some _ e) hp hz4 fun c o c1 _ c2 c3 e => Heap.get?_push_of_some _ (hk c o c1 c2 c3 e)

theorem zipA_end {z TI TO i1 i2 l1 l2 : Addr} {own : Value} {f : Bool} {k1 k2 : Nat} {xs ys : Array Value} {a b : Value} {Q : Fin → Shared → Prop} (hh : A.handled = none) (D : ZipApart z TI TO i1 i2 l1 l2) (ho : OwnV own)
    (hz : ZF s.heap z TI TO own f) (hTI : IsPair s.heap TI (.ref i1) (.ref i2)) (hTO : IsPair s.heap TO a b)
    (h1 : s.heap.IsTupleIter i1 l1 k1) (h2 : s.heap.IsTupleIter i2 l2 k2) (hl1 : s.heap.IsTuple l1 xs) (hl2 : s.heap.IsTuple l2 ys) (hend : xs[k1]? = none ∨ ys[k2]? = none)
    (hE : ∀ h' e, (∀ c o, c ≠ z → c ≠ TO → c ≠ i1 → c ≠ i2 → s.heap.get? c = some o → h'.get? c = some o) → (∃ o, h'.get? e = some o ∧ o.cls = .type "StopIteration") → E (.ref e) { s with heap := h' }) :
    wpAny (model prog w) A (Builtin.«zip.__next__» ⟨[.ref z], []⟩) Q E s := by
  show wpAny _ _ (field (.ref z) 2 >>= _) _ _ _
  refine wpAny_bind (wpAny_field hz rfl (x := .bool false) rfl ?_)
  show wpAny _ _ (field (.ref z) 3 >>= _) _ _ _
  refine wpAny_bind (wpAny_field hz rfl (x := .ref TI) rfl ?_)
  refine wpAny_bind (wpAny_seqItems hTI rfl ?_)
  show wpAny _ _ (Builtin.SmallTypes.ownedTupleIsFree (.ref z) >>= _) _ _ _
  refine wpAny_bind (owned_look ho hz ?_ fun h₁ hz₁ hs₁ => ?_)
  · simp only [if_true]
    refine wpAny_bind (wpAny_rule ?_)
    refine wpAny_bind (wpAny_field hz rfl (x := .ref TO) rfl ?_)
    refine wpAny_bind (wpAny_setField_rec hz (by simp) fun h₁ hz₁ hs₁ => ?_)
    replace hz₁ : ZF h₁ z TI TO .ellipsis f := hz₁
    refine wpAny_bind ?_
    simp only [List.zipIdx_cons, List.zipIdx_nil, List.forIn_cons, List.forIn_nil]
    refine wpAny_bind (wpAny_bind (wpAny_onRaise ?_))
    show wpAny _ _ (Builtin.SmallTypes.nextOf (.ref i1) >>= _) _ _ _
    cases hx : xs[k1]? with
    | none =>
      refine wpAny_bind (RZ.nextOf_tuple_end hh (h1.extBut hs₁.extBut D.i1z) (hl1.extBut hs₁.extBut D.l1z) hx fun h₂ e hs₂ he => ?_)
      obtain ⟨oe, hoe, hce⟩ := he
      have hz₂ : ZF h₂ z TI TO .ellipsis f := hs₂ _ _ D.i1z.symm hz₁
      have hez : e ≠ z := fun x => by subst x; rw [hz₂] at hoe; cases hoe; simp at hce
      refine wpAny_setField_rec hz₂ (by simp) fun h₃ _ hs₃ => hE h₃ e (fun c o c1 _ c3 _ x => hs₃.extBut _ _ c1 (hs₂ _ _ c3 (hs₁.extBut _ _ c1 x))) ⟨oe, hs₃.extBut _ _ hez hoe, hce⟩
    | some x =>
      have hy : ys[k2]? = none := by rcases hend with h | h; rw [hx] at h; cases h; exact h
      refine wpAny_bind (RZ.nextOf_tuple_item (h1.extBut hs₁.extBut D.i1z) (hl1.extBut hs₁.extBut D.l1z) hx fun h₂ h1₂ hs₂ => wpAny_pure ?_)
      have hTO₂ : IsPair h₂ TO a b := hs₂.extBut _ _ D.TOi1 (hs₁.extBut _ _ D.TOz hTO)
      refine wpAny_bind (wpAny_seqItems hTO₂ rfl ?_)
      refine wpAny_bind (wpAny_updateSeq_pair hTO₂ fun h₃ hTO₃ hs₃ => ?_)
      refine wpAny_bind (wpAny_letGo (wpAny_pure ?_))
      refine wpAny_bind (wpAny_bind (wpAny_onRaise ?_))
      show wpAny _ _ (Builtin.SmallTypes.nextOf (.ref i2) >>= _) _ _ _
      refine wpAny_bind (RZ.nextOf_tuple_end hh (((h2.extBut hs₁.extBut D.i2z).extBut hs₂.extBut D.i12.symm).extBut hs₃.extBut D.TOi2.symm)
        (((hl2.extBut hs₁.extBut D.l2z).extBut hs₂.extBut D.l2i1).extBut hs₃.extBut D.l2TO) hy fun h₄ e hs₄ he => ?_)
      obtain ⟨oe, hoe, hce⟩ := he
      have hz₄ : ZF h₄ z TI TO .ellipsis f := hs₄ _ _ D.i2z.symm (hs₃.extBut _ _ D.TOz.symm (hs₂.extBut _ _ D.i1z.symm hz₁))
      have hez : e ≠ z := fun x => by subst x; rw [hz₄] at hoe; cases hoe; simp at hce
      refine wpAny_setField_rec hz₄ (by simp) fun h₅ _ hs₅ => hE h₅ e (fun c o c1 c2 c3 c4 x => hs₅.extBut _ _ c1 (hs₄ _ _ c4 (hs₃.extBut _ _ c2 (hs₂.extBut _ _ c3 (hs₁.extBut _ _ c1 x))))) ⟨oe, hs₅.extBut _ _ hez hoe, hce⟩

  · skip
    simp only [Bool.false_eq_true, if_false]
    refine wpAny_bind ?_
    rw [← Array.forIn_toList]
    simp only [List.forIn_cons, List.forIn_nil]
    refine wpAny_bind (wpAny_bind (wpAny_holding ?_))
    show wpAny _ _ (Builtin.SmallTypes.nextOf (.ref i1) >>= _) _ _ _
    cases hx : xs[k1]? with
    | none =>
      refine wpAny_bind (RZ.nextOf_tuple_end (s := { s with heap := h₁ }) hh (h1.extBut hs₁.extBut D.i1z) (hl1.extBut hs₁.extBut D.l1z) hx fun h₂ e hs₂ he => ?_)
      exact hE h₂ e (fun c o c1 _ c2 _ x => hs₂ _ _ c2 (hs₁.extBut _ _ c1 x)) he
    | some x =>
      have hy : ys[k2]? = none := by rcases hend with h | h; rw [hx] at h; cases h; exact h
      refine wpAny_bind (RZ.nextOf_tuple_item (s := { s with heap := h₁ }) (h1.extBut hs₁.extBut D.i1z) (hl1.extBut hs₁.extBut D.l1z) hx fun h₂ h1₂ hs₂ => wpAny_pure ?_)
      refine wpAny_pure ?_
      refine wpAny_bind (wpAny_bind (wpAny_holding ?_))
      show wpAny _ _ (Builtin.SmallTypes.nextOf (.ref i2) >>= _) _ _ _
      refine wpAny_bind (RZ.nextOf_tuple_end (s := { s with heap := h₂ }) hh ((h2.extBut hs₁.extBut D.i2z).extBut hs₂.extBut D.i12.symm) ((hl2.extBut hs₁.extBut D.l2z).extBut hs₂.extBut D.l2i1) hy fun h₃ e hs₃ he => ?_)
      exact hE h₃ e (fun c o c1 _ c2 c3 x => hs₃ _ _ c3 (hs₂.extBut _ _ c2 (hs₁.extBut _ _ c1 x))) he

end
end PW

set_option Elab.async false
set_option linter.all false
set_option maxRecDepth 100000
set_option maxHeartbeats 1000000
/-! PWy: enumerate over such a zip. -/
namespace PW
open PySem PySem.Spec PyProof.Rows L2
section
variable {prog : Program} {w : World} {A : Around} {E : Value → Shared → Prop} {s : Shared}
theorem nextZ_item {z TI TO i1 i2 l1 l2 : Addr} {own : Value} {f : Bool} {k1 k2 : Nat} {xs ys : Array Value} {x y a b : Value} {Q : Value → Shared → Prop} (D : ZipApart z TI TO i1 i2 l1 l2) (ho : OwnV own)
    (hz : ZF s.heap z TI TO own f) (hTI : IsPair s.heap TI (.ref i1) (.ref i2)) (hTO : IsPair s.heap TO a b)
    (h1 : s.heap.IsTupleIter i1 l1 k1) (h2 : s.heap.IsTupleIter i2 l2 k2) (hl1 : s.heap.IsTuple l1 xs) (hl2 : s.heap.IsTuple l2 ys) (hx : xs[k1]? = some x) (hy : ys[k2]? = some y)
    (hQ : ∀ h' own' f', OwnV own' → ZF h' z TI TO own' f' → (∃ a b, IsPair h' TO a b) → h'.IsTupleIter i1 l1 (k1 + 1) → h'.IsTupleIter i2 l2 (k2 + 1) → IsPair h' s.heap.objs.size x y → h'.objs.size = s.heap.objs.size + 1 →
      (∀ c o, c ≠ z → c ≠ TO → c ≠ i1 → c ≠ i2 → s.heap.get? c = some o → h'.get? c = some o) → Q (.ref s.heap.objs.size) { s with heap := h' }) :
    wpAny (model prog w) A (Builtin.SmallTypes.nextOf (.ref z)) Q E s := by
  have hTy : s.TypeIs (.ref z) "zip" := ⟨_, hz, rfl⟩
  unfold Builtin.SmallTypes.nextOf
  exact wpAny_bind (wpAny_callSpecial?_slot (name := Str.ofString "__next__") hTy F.slot_zip_next
    (wpAny_call_entry F.slot_zip_next hTy F.entry_zip_next (zipA_item D ho hz hTI hTO h1 h2 hl1 hl2 hx hy fun h' a1 a2 a3 a4 a5 a6 a7 a8 a9 a10 => wpAny_pure (hQ h' a1 a2 a3 a4 a5 a6 a7 a8 a9 a10)) (F.args_zip_next_1 _)))
theorem nextZ_end {z TI TO i1 i2 l1 l2 : Addr} {own : Value} {f : Bool} {k1 k2 : Nat} {xs ys : Array Value} {a b : Value} {Q : Value → Shared → Prop} (hh : A.handled = none) (D : ZipApart z TI TO i1 i2 l1 l2) (ho : OwnV own)
    (hz : ZF s.heap z TI TO own f) (hTI : IsPair s.heap TI (.ref i1) (.ref i2)) (hTO : IsPair s.heap TO a b)
    (h1 : s.heap.IsTupleIter i1 l1 k1) (h2 : s.heap.IsTupleIter i2 l2 k2) (hl1 : s.heap.IsTuple l1 xs) (hl2 : s.heap.IsTuple l2 ys) (hend : xs[k1]? = none ∨ ys[k2]? = none)
    (hE : ∀ h' e, (∀ c o, c ≠ z → c ≠ TO → c ≠ i1 → c ≠ i2 → s.heap.get? c = some o → h'.get? c = some o) → (∃ o, h'.get? e = some o ∧ o.cls = .type "StopIteration") → E (.ref e) { s with heap := h' }) :
    wpAny (model prog w) A (Builtin.SmallTypes.nextOf (.ref z)) Q E s := by
  have hTy : s.TypeIs (.ref z) "zip" := ⟨_, hz, rfl⟩
  unfold Builtin.SmallTypes.nextOf
  exact wpAny_bind (wpAny_callSpecial?_slot (name := Str.ofString "__next__") hTy F.slot_zip_next
    (wpAny_call_entry F.slot_zip_next hTy F.entry_zip_next (zipA_end hh D ho hz hTI hTO h1 h2 hl1 hl2 hend hE) (F.args_zip_next_1 _)))
theorem enumZ_item {e z TI TO i1 i2 l1 l2 : Addr} {own old : Value} {f : Bool} {c : Int} {k1 k2 : Nat} {xs ys : Array Value} {x y a b : Value} {Q : Value → Shared → Prop} (D : ZipApart z TI TO i1 i2 l1 l2) (ae : e ≠ z ∧ e ≠ TO ∧ e ≠ i1 ∧ e ≠ i2) (he : IsEnum s.heap e z c old) (ho : OwnV own)
    (hz : ZF s.heap z TI TO own f) (hTI : IsPair s.heap TI (.ref i1) (.ref i2)) (hTO : IsPair s.heap TO a b)
    (h1 : s.heap.IsTupleIter i1 l1 k1) (h2 : s.heap.IsTupleIter i2 l2 k2) (hl1 : s.heap.IsTuple l1 xs) (hl2 : s.heap.IsTuple l2 ys) (hx : xs[k1]? = some x) (hy : ys[k2]? = some y)
    (hQ : ∀ h₁ own' f' h' tk, OwnV own' → ZF h₁ z TI TO own' f' → (∃ a b, IsPair h₁ TO a b) → h₁.IsTupleIter i1 l1 (k1 + 1) → h₁.IsTupleIter i2 l2 (k2 + 1) → IsPair h₁ s.heap.objs.size x y → h₁.objs.size = s.heap.objs.size + 1 →
      (∀ c o, c ≠ z → c ≠ TO → c ≠ i1 → c ≠ i2 → s.heap.get? c = some o → h₁.get? c = some o) → IsEnumOut h' e z (c + 1) (.ref s.heap.objs.size) h₁.objs.size →
      h'.get? h₁.objs.size = some { cls := .type "tuple", data := .seq #[.int c tk, .ref s.heap.objs.size] } → (∀ b o, b ≠ e → h₁.get? b = some o → h'.get? b = some o) → Q (.ref h₁.objs.size) { s with heap := h', toks := tk + 1 }) :
    wpAny (model prog w) A (Builtin.«enumerate.__next__» ⟨[.ref e], []⟩) (fun fin s' => ∃ v, fin = .done (.ret v) ∧ Q v s') E s := by
  obtain ⟨hp, g, d, tk, os⟩ := s
  show wpAny _ _ (field (.ref e) 2 >>= _) _ _ _
  refine wpAny_bind (wpAny_field he rfl (x := .ref z) rfl ?_)
  refine wpAny_bind (nextZ_item D ho hz hTI hTO h1 h2 hl1 hl2 hx hy fun h₁ own' f' ho' hz' hTO' h1' h2' hT' hsz₁ hk₁ => ?_)
  replace hk₁ : ∀ c o, c ≠ z → c ≠ TO → c ≠ i1 → c ≠ i2 → hp.get? c = some o → h₁.get? c = some o := hk₁
  replace hsz₁ : h₁.objs.size = hp.objs.size + 1 := hsz₁
  replace hT' : IsPair h₁ hp.objs.size x y := hT'
  show wpAny _ _ _ _ _ ⟨h₁, g, d, tk, os⟩
  generalize hxv : Value.ref (Shared.mk hp g d tk os).heap.objs.size = xv
  have hxv : Value.ref hp.objs.size = xv := hxv
  have he₁ : IsEnum h₁ e z c old := hk₁ e _ ae.1 ae.2.1 ae.2.2.1 ae.2.2.2 he
  show wpAny _ _ (field (.ref e) 3 >>= _) _ _ ⟨h₁, g, d, tk, os⟩
  refine wpAny_bind (wpAny_field he₁ rfl (x := rawInt c) rfl ?_)
  show wpAny _ _ (field (.ref e) 4 >>= _) _ _ ⟨h₁, g, d, tk, os⟩
  refine wpAny_bind (wpAny_field he₁ rfl (x := .none) rfl ?_)
  show wpAny _ _ (mkInt c >>= _) _ _ ⟨h₁, g, d, tk, os⟩
  refine wpAny_bind (wpAny_mkInt ?_)
  show wpAny _ _ (setField (.ref e) 3 (rawInt (c + 1)) >>= _) _ _ ⟨h₁, g, d, tk + 1, os⟩
  refine wpAny_bind (wpAny_setField_rec he₁ (by simp) fun h₂ he₂ hs₂ => ?_)
  replace hs₂ : Heap.SameBut e h₁ h₂ := hs₂
  replace he₂ : IsEnum h₂ e z (c + 1) old := he₂
  show wpAny _ _ (setField (.ref e) 4 .none >>= _) _ _ ⟨h₂, g, d, tk + 1, os⟩
  refine wpAny_bind (wpAny_setField_rec he₂ (by simp) fun h₃ he₃ hs₃ => ?_)
  replace hs₃ : Heap.SameBut e h₂ h₃ := hs₃
  replace he₃ : IsEnum h₃ e z (c + 1) old := he₃
  show wpAny _ _ (newTuple [.int c tk, xv] >>= _) _ _ ⟨h₃, g, d, tk + 1, os⟩
  refine wpAny_bind (wpAny_newTuple ?_)
  have he₄ : IsEnum (h₃.push { cls := .type "tuple", data := .seq #[.int c tk, xv] }) e z (c + 1) old := Heap.get?_push_of_some _ he₃
  generalize hh₄ : h₃.push { cls := .type "tuple", data := .seq #[.int c tk, xv] } = h₄ at he₄
  have hsz : h₃.objs.size = h₁.objs.size := by rw [hs₃.1, hs₂.1]
  have hel : e < h₁.objs.size := Heap.lt_size he₁
  have ht₄ : h₄.get? h₁.objs.size = some { cls := .type "tuple", data := .seq #[.int c tk, xv] } := by rw [← hh₄, ← hsz]; exact Heap.get?_push_size _ rfl
  have hk₄ : ∀ b o, b ≠ e → h₁.get? b = some o → h₄.get? b = some o := fun b o hbe hb => by
    rw [← hh₄]; exact Heap.get?_push_of_some _ (hs₃.extBut b o hbe (hs₂.extBut b o hbe hb))
  show wpAny _ _ (Builtin.SmallTypes.ownedTupleIsFree (.ref e) >>= _) _ _ ⟨h₄, g, d, tk + 1, os⟩
  rw [hsz]
  clear hh₄ he₃ hs₃ he₂ hs₂ hsz h₃ h₂
  refine wpAny_bind ?_
  · unfold Builtin.SmallTypes.ownedTupleIsFree
    refine wpAny_bind (wpAny_field he₄ rfl (x := .none) rfl (wpAny_pure ?_))
    simp only [if_true]
    refine wpAny_bind (wpAny_rule ?_)
    refine wpAny_bind (wpAny_field he₄ rfl (x := old) rfl ?_)
    refine wpAny_bind (wpAny_setField_rec he₄ (by simp) fun h₅ he₅ hs₅ => ?_)
    replace hs₅ : Heap.SameBut e h₄ h₅ := hs₅
    replace he₅ : IsEnum h₅ e z (c + 1) xv := he₅
    show wpAny _ _ (Builtin.SmallTypes.ownedTupleHandOut (.ref e) (.ref h₁.objs.size) >>= _) _ _ ⟨h₅, g, d, tk + 1, os⟩
    refine wpAny_bind ?_
    · unfold Builtin.SmallTypes.ownedTupleHandOut
      refine wpAny_bind (wpAny_setField_rec he₅ (by simp) fun h₆ he₆ hs₆ => ?_)
      replace hs₆ : Heap.SameBut e h₅ h₆ := hs₆
      replace he₆ : IsEnumOut h₆ e z (c + 1) xv h₁.objs.size := he₆
      refine wpAny_setField_rec he₆ (by simp) fun h₇ he₇ hs₇ => ?_
      replace hs₇ : Heap.SameBut e h₆ h₇ := hs₇
      replace he₇ : IsEnumOut h₇ e z (c + 1) xv h₁.objs.size := he₇
      refine wpAny_bind (wpAny_letGo (wpAny_pure ⟨_, rfl, ?_⟩))
      subst hxv
      exact hQ h₁ own' f' h₇ tk ho' hz' hTO' h1' h2' hT' hsz₁ hk₁ he₇ (hs₇.extBut _ _ (Nat.ne_of_gt hel) (hs₆.extBut _ _ (Nat.ne_of_gt hel) (hs₅.extBut _ _ (Nat.ne_of_gt hel) ht₄))) fun b o hbe hb => hs₇.extBut b o hbe (hs₆.extBut b o hbe (hs₅.extBut b o hbe (hk₄ b o hbe hb)))
end
end PW

set_option linter.all false
/-! PWv: what enumerate(zip(a, b)) of two tuples hands out. -/
namespace PW
open PySem
def iEnmZ (a b : D) : DI := fun e h => (a e h).bind fun x h1 => (b e h1).bind fun y h2 => match seqOf h2 x with
  | some s => (match seqOf h2 y with
    | some t => (match s, t with
      | .tup _, .tup _ => .ok (.enm (.zip s t)) h2
      | _, _ => .bad)
    | none => .bad)
  | none => .bad
end PW

set_option Elab.async false
set_option linter.all false
set_option maxRecDepth 100000
set_option maxHeartbeats 1000000
/-! PWx: for i, (x, y) in enumerate(zip(a, b)). -/
namespace PW
open PySem PySem.Spec PyProof.Rows L2
theorem meets_enumZ (z TI TO : Addr) :
    Meets (Builtin.«enumerate.__new__» ⟨[.type "enumerate", .ref z], []⟩) (fun _ R s => IsZip s.heap z TI TO .none ∧
      R (.ok (.ret (.ref s.heap.objs.size))) { s with heap := s.heap.push { cls := .type "enumerate", data := .fields #[.none, .bool false, .ref z, rawInt 0, .none, .none] } }) :=
  .of_wp fun prog w A R s h => by
    obtain ⟨hp, g, d, tk, os⟩ := s; obtain ⟨hL, h⟩ := h
    have hsub := sub_enumerate
    have q1 : ∀ {A' : Around} {E : Value → Shared → Prop} {Q : Value → Shared → Prop}, Q (.ref z) ⟨hp, g, d, tk, os⟩ → wpAny (model prog w) A' (pyIter (.ref z)) Q E ⟨hp, g, d, tk, os⟩ := fun q => wpAny_pyIter_zip hL q
    wp_walk using q1
    refine wpAny_stack_any fun st => wpAny_pure ?_
    split
    · rename_i c _ _ _ _ _
      cases (c == Value.type "enumerate")
      · wp_walk using q1
        exact ⟨_, rfl, h⟩
      · wp_walk using q1
        exact ⟨_, rfl, h⟩
    · wp_walk using q1
      exact ⟨_, rfl, h⟩
section
variable {prog : Program} {w : World} {A : Around} {E : Value → Shared → Prop} {s : Shared}
theorem call_enumZ {z TI TO : Addr} {Q : Value → Shared → Prop} (hz : IsZip s.heap z TI TO .none)
    (h : ∀ h', IsEnum h' s.heap.objs.size z 0 .none → (∀ b o, s.heap.get? b = some o → h'.get? b = some o) → Q (.ref s.heap.objs.size) { s with heap := h' }) :
    wpAny (model prog w) A (call (.type "enumerate") [.ref z]) Q E s := by
  refine callType_new F.called_enumerate (by decide) (F.typeCall_enumerate_1 _) (F.newCall_enumerate_1 _) (fun obj => F.args_object_init_2 obj _) F.entry_enumerate_new
    (meets_enumZ z TI TO) ⟨hz, ?_⟩
  have he : IsEnum (s.heap.push { cls := .type "enumerate", data := .fields #[.none, .bool false, .ref z, rawInt 0, .none, .none] }) s.heap.objs.size z 0 .none := Heap.get?_push_size _ rfl
  exact ⟨⟨_, he, rfl⟩, h _ he fun b o x => Heap.get?_push_of_some _ x⟩
theorem pyNext_enumZ_item {e z TI TO i1 i2 l1 l2 : Addr} {own old : Value} {f : Bool} {c : Int} {k1 k2 : Nat} {xs ys : Array Value} {x y a b : Value} {Q : Option Value → Shared → Prop} (D : ZipApart z TI TO i1 i2 l1 l2) (ae : e ≠ z ∧ e ≠ TO ∧ e ≠ i1 ∧ e ≠ i2) (he : IsEnum s.heap e z c old) (ho : OwnV own)
    (hz : ZF s.heap z TI TO own f) (hTI : IsPair s.heap TI (.ref i1) (.ref i2)) (hTO : IsPair s.heap TO a b)
    (h1 : s.heap.IsTupleIter i1 l1 k1) (h2 : s.heap.IsTupleIter i2 l2 k2) (hl1 : s.heap.IsTuple l1 xs) (hl2 : s.heap.IsTuple l2 ys) (hx : xs[k1]? = some x) (hy : ys[k2]? = some y)
    (hQ : ∀ h₁ own' f' h' tk, OwnV own' → ZF h₁ z TI TO own' f' → (∃ a b, IsPair h₁ TO a b) → h₁.IsTupleIter i1 l1 (k1 + 1) → h₁.IsTupleIter i2 l2 (k2 + 1) → IsPair h₁ s.heap.objs.size x y → h₁.objs.size = s.heap.objs.size + 1 →
      (∀ c o, c ≠ z → c ≠ TO → c ≠ i1 → c ≠ i2 → s.heap.get? c = some o → h₁.get? c = some o) → IsEnumOut h' e z (c + 1) (.ref s.heap.objs.size) h₁.objs.size →
      h'.get? h₁.objs.size = some { cls := .type "tuple", data := .seq #[.int c tk, .ref s.heap.objs.size] } → (∀ b o, b ≠ e → h₁.get? b = some o → h'.get? b = some o) → Q (some (.ref h₁.objs.size)) { s with heap := h', toks := tk + 1 }) :
    wpAny (model prog w) A (pyNext (.ref e)) Q E s := by
  have hT : s.TypeIs (.ref e) "enumerate" := ⟨_, he, rfl⟩
  unfold pyNext
  exact wpAny_bind (wpAny_attempt (wpAny_callSpecial?_slot (name := Str.ofString "__next__") hT F.slot_enumerate_next
    (wpAny_call_entry F.slot_enumerate_next hT F.entry_enumerate_next
      (enumZ_item D ae he ho hz hTI hTO h1 h2 hl1 hl2 hx hy fun h₁ own' f' h' tk b1 b2 b3 b4 b5 b6 b7 b8 b9 b10 b11 => wpAny_pure (hQ h₁ own' f' h' tk b1 b2 b3 b4 b5 b6 b7 b8 b9 b10 b11)) (F.args_enumerate_next_1 _))))
theorem pyNext_enumZ_end {e z TI TO i1 i2 l1 l2 : Addr} {own old : Value} {f : Bool} {c : Int} {k1 k2 : Nat} {xs ys : Array Value} {a b : Value} {Q : Option Value → Shared → Prop} (hh : A.handled = none) (D : ZipApart z TI TO i1 i2 l1 l2) (he : IsEnum s.heap e z c old) (ho : OwnV own)
    (hz : ZF s.heap z TI TO own f) (hTI : IsPair s.heap TI (.ref i1) (.ref i2)) (hTO : IsPair s.heap TO a b)
    (h1 : s.heap.IsTupleIter i1 l1 k1) (h2 : s.heap.IsTupleIter i2 l2 k2) (hl1 : s.heap.IsTuple l1 xs) (hl2 : s.heap.IsTuple l2 ys) (hend : xs[k1]? = none ∨ ys[k2]? = none)
    (hQ : ∀ h', (∀ c o, c ≠ z → c ≠ TO → c ≠ i1 → c ≠ i2 → s.heap.get? c = some o → h'.get? c = some o) → Q none { s with heap := h' }) : wpAny (model prog w) A (pyNext (.ref e)) Q E s := by
  have hT : s.TypeIs (.ref e) "enumerate" := ⟨_, he, rfl⟩
  unfold pyNext
  refine wpAny_bind (wpAny_attempt (wpAny_callSpecial?_slot (name := Str.ofString "__next__") hT F.slot_enumerate_next
    (wpAny_call_entry F.slot_enumerate_next hT F.entry_enumerate_next ?_ (F.args_enumerate_next_1 _))))
  show wpAny _ _ (field (.ref e) 2 >>= _) _ _ _
  refine wpAny_bind (wpAny_field he rfl (x := .ref z) rfl ?_)
  refine wpAny_bind (nextZ_end hh D ho hz hTI hTO h1 h2 hl1 hl2 hend fun h' x he' hx' => ?_)
  obtain ⟨o, ho, hc⟩ := hx'
  refine wpAny_bind (wpAny_isInstance (T := "StopIteration") (b := true) ⟨o, ho, hc⟩ isSubtype_stop ?_)
  exact wpAny_pure (hQ _ he')
end
/-- the tuples at a and b, their items in new pairs, each in a new pair with its number -/
def IteZ (K : PySem.W.Frag) (a b : Addr) : It :=
  ⟨fun i H => ∃ (xs ys : List V) (x y : V), SqT K H a xs ∧ SqT K H b ys ∧ xs[i]? = some x ∧ ys[i]? = some y,
    fun i H v H' => ∃ T T2 x y, v = .ref T2 ∧ H T = none ∧ H T2 = none ∧ T2 ≠ T ∧ H' = upd (upd H T (.tup [x, y])) T2 (.tup [.int (i : Nat), .ref T]) ∧ (∀ xs, SqT K H a xs → xs[i]? = some x) ∧ ∀ ys, SqT K H b ys → ys[i]? = some y,
    fun i H => ∃ xs ys : List V, SqT K H a xs ∧ SqT K H b ys ∧ (xs.length ≤ i ∨ ys.length ≤ i)⟩
theorem turn_enumZ {P : Program} {w : World} {K : PySem.W.Frag} {elts : List Expr} {kk : Nat} {tpos : Pos} {a b e z TI TO i1 i2 : Addr} (D : ZipApart z TI TO i1 i2 a b) (ae : e ≠ z ∧ e ≠ TO ∧ e ≠ i1 ∧ e ≠ i2) (aI : e ≠ TI) :
    Turn P w K (.Tuple elts kk tpos) (IteZ K a b) [e, z, TI, TO, i1, i2] e (fun i h => (∃ old, IsEnum h e z ((i : Nat) : Int) old) ∧ (∃ own f, OwnV own ∧ ZF h z TI TO own f) ∧ IsPair h TI (.ref i1) (.ref i2) ∧ (∃ x y, IsPair h TO x y) ∧ h.IsTupleIter i1 a i ∧ h.IsTupleIter i2 b i) where
  mem := by simp
  obj := fun i h st c hc => by
    obtain ⟨⟨old, he⟩, ⟨own, f, _, hz⟩, hTI, ⟨x, y, hTO⟩, ⟨o1, e1, _, d1⟩, ⟨o2, e2, _, d2⟩⟩ := st
    have e' : c = e ∨ c = z ∨ c = TI ∨ c = TO ∨ c = i1 ∨ c = i2 := by simpa using hc
    rcases e' with q | q | q | q | q | q
    · rw [q]; exact ⟨_, he, fun v q => nomatch q⟩
    · rw [q]; exact ⟨_, hz, fun v q => nomatch q⟩
    · rw [q]; exact ⟨_, hTI, fun v q => nomatch q⟩
    · rw [q]; exact ⟨_, hTO, fun v q => nomatch q⟩
    · rw [q]; exact ⟨o1, e1, fun v q => by rw [d1] at q; cases q⟩
    · rw [q]; exact ⟨o2, e2, fun v q => by rw [d2] at q; cases q⟩
  keep := fun i h h' st k => by
    obtain ⟨⟨old, he⟩, ⟨own, f, ho, hz⟩, hTI, ⟨x, y, hTO⟩, h1, h2⟩ := st
    exact ⟨⟨old, k e (by simp) _ he⟩, ⟨own, f, ho, k z (by simp) _ hz⟩, k TI (by simp) _ hTI, ⟨x, y, k TO (by simp) _ hTO⟩, h1.at fun o q => k i1 (by simp) o q, h2.at fun o q => k i2 (by simp) o q⟩
  item := by
    intro X hP hw hK hc i pins s σ H E I hf st hg
    subst hP hw hK
    obtain ⟨⟨old, he⟩, ⟨own, f, ho, hz⟩, hTI, ⟨x0, y0, hTO⟩, h1, h2⟩ := st
    obtain ⟨xs, ys, x, y, hqx, hqy, hx, hy⟩ := hg
    obtain ⟨its, rv, p, _⟩ := I.tuple hqx
    obtain ⟨its2, rv2, p2, _⟩ := I.tuple hqy
    obtain ⟨u, hu, ru⟩ := rv.get hx
    obtain ⟨u2, hu2, ru2⟩ := rv2.get hy
    have lt : ∀ c ∈ [e, z, TI, TO, i1, i2], c < s.heap.objs.size := fun c hcm => by
      have e' : c = e ∨ c = z ∨ c = TI ∨ c = TO ∨ c = i1 ∨ c = i2 := by simpa using hcm
      rcases e' with q | q | q | q | q | q
      · rw [q]; exact Heap.lt_size he
      · rw [q]; exact Heap.lt_size hz
      · rw [q]; exact Heap.lt_size hTI
      · rw [q]; exact Heap.lt_size hTO
      · rw [q]; obtain ⟨_, e1, _⟩ := h1; exact Heap.lt_size e1
      · rw [q]; obtain ⟨_, e2, _⟩ := h2; exact Heap.lt_size e2
    refine pyNext_enumZ_item D ae he ho hz hTI hTO h1 h2 p p2 (x := u) (y := u2) (by simpa using hu) (by simpa using hu2) fun h₁ own' f' h' tk ho' hz' hTO' h1' h2' hT hsz hk hE hT2 hk2 => ?_
    refine ⟨_, rfl, wpAny_letOwnedTupleGo_enum (s := { s with heap := h', toks := tk + 1 }) hE fun h'' he'' sb => ?_⟩
    have newT : ObjOk X.prog X.w (upd H s.heap.objs.size (.tup [x, y])) h₁ s.heap.objs.size (.tup [x, y]) :=
      ⟨by show 2 ≤ sizeLine; decide, [u, u2], .cons ru (.cons ru2 .nil), ⟨_, hT, rfl, _, rfl⟩⟩
    have I1 : Inv X pins σ (upd H s.heap.objs.size (.tup [x, y])) { s with heap := h₁ } :=
      I.turnedNew (t' := s.toks) (ch := [e, z, TI, TO, i1, i2]) (fun c o hb q => hk c o (fun q' => hb (by simp [q'])) (fun q' => hb (by simp [q'])) (fun q' => hb (by simp [q'])) (fun q' => hb (by simp [q'])) q) hf (Nat.le_refl _) newT
    have hel : e < h₁.objs.size := by rw [hsz]; exact Nat.lt_succ_of_lt (lt e (by simp))
    have hT2' : h''.get? h₁.objs.size = some { cls := .type "tuple", data := .seq #[.int i tk, .ref s.heap.objs.size] } := (sb.2 _ (Nat.ne_of_gt hel)).trans hT2
    have newT2 : ObjOk X.prog X.w (upd (upd H s.heap.objs.size (.tup [x, y])) h₁.objs.size (.tup [.int (i : Nat), .ref s.heap.objs.size])) h'' h₁.objs.size (.tup [.int (i : Nat), .ref s.heap.objs.size]) :=
      ⟨by show 2 ≤ sizeLine; decide, [.int i tk, .ref s.heap.objs.size], .cons ⟨_, rfl⟩ (.cons rfl .nil), ⟨_, hT2', rfl, _, rfl⟩⟩
    have hf1 : ∀ c ∈ [e, z, TI, TO, i1, i2], FpOk X pins (upd H s.heap.objs.size (.tup [x, y])) c := fun c hcm => ⟨by rw [upd_ne (Nat.ne_of_lt (lt c hcm))]; exact (hf c hcm).1, (hf c hcm).2⟩
    have I2 : Inv X pins σ (upd (upd H s.heap.objs.size (.tup [x, y])) h₁.objs.size (.tup [.int (i : Nat), .ref s.heap.objs.size])) { s with heap := h'', toks := tk + 1 } :=
      I1.turnedNew (t' := tk + 1) (ch := [e, z, TI, TO, i1, i2]) (fun c o hb q => (sb.2 c (fun q' => hb (by simp [q']))).trans (hk2 c o (fun q' => hb (by simp [q'])) q)) hf1 (Nat.le_refl _) newT2
    have up : ∀ c o, c ≠ e → h₁.get? c = some o → h''.get? c = some o := fun c o c1 q => (sb.2 c c1).trans (hk2 c o c1 q)
    refine ⟨.ref h₁.objs.size, _, I2, rfl, ⟨s.heap.objs.size, h₁.objs.size, x, y, rfl, I.hok.fresh (Nat.le_refl _), I.hok.fresh (by rw [hsz]; exact Nat.le_succ _), by rw [hsz]; exact Nat.succ_ne_self _, rfl, fun l hl => by rw [I.tuple_inj hl hqx]; exact hx, fun l hl => by rw [I.tuple_inj hl hqy]; exact hy⟩, ⟨⟨.ref s.heap.objs.size, ?_⟩, ⟨own', f', ho', up _ _ ae.1.symm hz'⟩, ?_, ?_, ?_, ?_⟩, fun c hcm => ?_⟩
    · have e1 : ((i + 1 : Nat) : Int) = (i : Int) + 1 := by omega
      rw [e1]; exact he''
    · exact up _ _ aI.symm (hk _ _ D.TIz D.TITO D.TIi1 D.TIi2 hTI)
    · obtain ⟨a0, b0, q⟩ := hTO'
      exact ⟨a0, b0, up _ _ ae.2.1.symm q⟩
    · exact h1'.at fun o q => up _ o ae.2.2.1.symm q
    · exact h2'.at fun o q => up _ o ae.2.2.2.symm q
    · rw [upd_ne (Nat.ne_of_lt (by rw [hsz]; exact Nat.lt_succ_of_lt (lt c hcm))), upd_ne (Nat.ne_of_lt (lt c hcm))]
      exact (hf c hcm).1
  done := by
    intro X hP hw hK hc i pins s σ H E I hf st hg
    subst hP hw hK
    obtain ⟨⟨old, he⟩, ⟨own, f, ho, hz⟩, hTI, ⟨x0, y0, hTO⟩, h1, h2⟩ := st
    obtain ⟨xs, ys, hqx, hqy, hend⟩ := hg
    obtain ⟨its, rv, p, _⟩ := I.tuple hqx
    obtain ⟨its2, rv2, p2, _⟩ := I.tuple hqy
    have l1 := rv.length
    have l2 := rv2.length
    have hn : its.toArray[i]? = none ∨ its2.toArray[i]? = none := by
      rcases hend with q | q
      · exact .inl (by simp; omega)
      · exact .inr (by simp; omega)
    exact pyNext_enumZ_end (I.ok.hd hc) D he ho hz hTI hTO h1 h2 p p2 hn fun h' hk => ⟨rfl, I.turnedL (t' := s.toks) (ch := [e, z, TI, TO, i1, i2]) (fun c o hb q =>
      hk c o (fun q' => hb (by simp [q'])) (fun q' => hb (by simp [q'])) (fun q' => hb (by simp [q'])) (fun q' => hb (by simp [q'])) q) hf⟩
  self := fun A i s Q E st h => let ⟨⟨_, he⟩, _⟩ := st; wpAny_pyIter_enum he h
def iEnumZ (K : PySem.W.Frag) (ta : TA) : TI := fun σ H R => ta σ H fun vs H1 => ∃ a b xs ys, vs = [.ref a, .ref b] ∧ SqT K H1 a xs ∧ SqT K H1 b ys ∧ R (IteZ K a b) H1
theorem pi_enumZ {X : Cx} {e e2 : Expr} {ta : TA} {p p2 pos pos2 tpos : Pos} {elts : List Expr} {kk : Nat} (hg1 : Gl X "enumerate") (hm1 : X.mg "enumerate" = none) (hg : Gl X "zip") (hm : X.mg "zip" = none) (ha : PA X [e, e2] ta)
    (hs1 : starEach [.Call (.Name "zip" p2) [e, e2] [] pos2] X.env = [(false, eval (.Call (.Name "zip" p2) [e, e2] [] pos2) X.env)]) (hs : starEach [e, e2] X.env = (false, eval e X.env) :: starEach [e2] X.env) (hpl : (backTo pos2 (starEach [e2] X.env)).any (·.1) = false) :
    PI X (.Tuple elts kk tpos) (.Call (.Name "enumerate" p) [.Call (.Name "zip" p2) [e, e2] [] pos2] [] pos) (iEnumZ X.K ta) := by
  refine ⟨fun pins s σ H R I h => ?_⟩
  refine Call_ (ld_blt I hg1 hm1 boot_enumerate (PyProof.Rows.callWith_type1 ?_ hs1 rfl))
  rw [hs1]
  refine Calls.spliced_cons ?_
  refine Call_ (ld_blt I hg hm PyProof.Rows.boot_zip (PyProof.Rows.callWith_type1 (thn (ha.run pos2 pins s σ H _ I h) fun us s1 ⟨vs, H1, I1, r1, q1⟩ => ?_) hs hpl))
  obtain ⟨a, b, xs, ys, ex, hqx, hqy, q⟩ := q1
  subst ex
  cases r1 with
  | cons r rr =>
    cases rr with
    | cons r' rr =>
      cases rr
      cases r
      cases r'
      have fresh6 : ∀ c, c ∈ [s1.heap.objs.size + 5, s1.heap.objs.size + 4, s1.heap.objs.size + 2, s1.heap.objs.size + 3, s1.heap.objs.size, s1.heap.objs.size + 1] → FpOk X pins H1 c := fun c hcm => by
        have hle : s1.heap.objs.size ≤ c := by
          have e' : c = s1.heap.objs.size + 5 ∨ c = s1.heap.objs.size + 4 ∨ c = s1.heap.objs.size + 2 ∨ c = s1.heap.objs.size + 3 ∨ c = s1.heap.objs.size ∨ c = s1.heap.objs.size + 1 := by simpa using hcm
          omega
        exact I1.fpOk hle (I1.hok.fresh hle)
      obtain ⟨its, rv, p1, _⟩ := I1.tuple hqx
      obtain ⟨its2, rv2, p2', _⟩ := I1.tuple hqy
      obtain ⟨o1, ho1, _⟩ := id p1
      obtain ⟨o2, ho2, _⟩ := id p2'
      refine RZ.call_zipT (show s1.heap.IsTuple a its.toArray from p1) (show s1.heap.IsTuple b its2.toArray from p2') fun h' hz hTI hTO h1 h2 hsz hk => ?_
      refine Calls.spliced_nil (call_enumZ hz fun h2' he hk2 => wpAny_pyIter_enum he ?_)
      have es : h'.objs.size = s1.heap.objs.size + 5 := hsz
      have I2 : Inv X pins σ H1 { s1 with heap := h2' } := I1.kept (t' := s1.toks) (fun c o q => hk2 c o (hk c o q))
      have D := PySem.W.ktu_apart s1.heap.objs.size a b (Heap.lt_size ho1) (Heap.lt_size ho2)
      have g1 : h'.objs.size ≠ s1.heap.objs.size + 4 := by omega
      have g2 : h'.objs.size ≠ s1.heap.objs.size + 3 := by omega
      have g3 : h'.objs.size ≠ s1.heap.objs.size := by omega
      have g4 : h'.objs.size ≠ s1.heap.objs.size + 1 := by omega
      have g5 : h'.objs.size ≠ s1.heap.objs.size + 2 := by omega
      have fresh6' : ∀ c, c ∈ [h'.objs.size, s1.heap.objs.size + 4, s1.heap.objs.size + 2, s1.heap.objs.size + 3, s1.heap.objs.size, s1.heap.objs.size + 1] → FpOk X pins H1 c := es ▸ fresh6
      exact ⟨h'.objs.size, [h'.objs.size, s1.heap.objs.size + 4, s1.heap.objs.size + 2, s1.heap.objs.size + 3, s1.heap.objs.size, s1.heap.objs.size + 1], _, _, H1, rfl, I2,
        turn_enumZ D ⟨g1, g2, g3, g4⟩ g5,
        ⟨⟨.none, he⟩, ⟨.none, false, .inl rfl, hk2 _ _ hz⟩, hk2 _ _ hTI, ⟨_, _, hk2 _ _ hTO⟩, h1.at (fun o q => hk2 _ o q), h2.at (fun o q => hk2 _ o q)⟩, fresh6', q⟩
section
variable {g : Gc} {ρ : List Addr} {h : Hq} {H : Hp}
theorem src_enmZ {l r : List W} {a b : Addr} {vs ws : List V} (ht : TupA g H a vs) (rs : RWs g ρ H l vs) (hu : TupA g H b ws) (rs2 : RWs g ρ H r ws) : SrcR g ρ H (.enm (.zip (.tup l) (.tup r))) (IteZ g.K a b) := by
  intro ρ' H' h' i x rh
  have ht' : SqT g.K H' a vs := (ht.extw x).sq
  have hu' : SqT g.K H' b ws := (hu.extw x).sq
  have rs' := rs.extw x
  have rs2' := rs2.extw x
  simp only [next, nthD]
  cases q : l[i]? with
  | none => exact ⟨vs, ws, ht', hu', .inl (rs'.at_none q)⟩
  | some w =>
    cases q2 : r[i]? with
    | none => exact ⟨vs, ws, ht', hu', .inr (rs2'.at_none q2)⟩
    | some w' =>
      obtain ⟨v, e1, r1⟩ := rs'.get q
      obtain ⟨v', e2, r2⟩ := rs2'.get q2
      refine ⟨⟨vs, ws, v, v', ht', hu', e1, e2⟩, fun y H'' ⟨T, T2, y1, y2, z1, z2, z2', zn, z3, z4, z5⟩ => ?_⟩
      subst z1 z3
      have k1 := z4 vs ht'
      rw [e1] at k1
      cases k1
      have k2 := z5 ws hu'
      rw [e2] at k2
      cases k2
      obtain ⟨x1, rh1, p1⟩ := pair_new rh z2 r1 r2
      have z2'' : upd H' T (.tup [v, v']) T2 = none := by rw [upd_ne zn]; exact z2'
      obtain ⟨x2, rh2, p2⟩ := pair_new rh1 z2'' (.int _) p1
      exact ⟨x1.trans x2, rh2, p2⟩
end
section
variable {X : Cx} {G : G0} {pn : List PinT} {Wx : WX} {pos pos2 p p2 tpos : Pos} {a b : Expr} {da db : D} {elts : List Expr} {kk : Nat}
theorem si_enms (g1 : X.mg "enumerate" = none) (g : X.mg "zip" = none) (ha : SE X G pn Wx a da) (hb : SE X G pn Wx b db) (hg1 : Gl X "enumerate" := by rfl) (hg : Gl X "zip" := by rfl)
    (hs1 : starEach [.Call (.Name "zip" p2) [a, b] [] pos2] X.env = [(false, eval (.Call (.Name "zip" p2) [a, b] [] pos2) X.env)] := by rfl)
    (hs : starEach [a, b] X.env = (false, eval a X.env) :: starEach [b] X.env := by rfl) (hpl : (backTo pos2 (starEach [b] X.env)).any (·.1) = false := by rfl)
    (hs3 : starEach (b :: []) X.env = (false, eval b X.env) :: starEach [] X.env := by rfl) :
    SI X G pn Wx (.Tuple elts kk tpos) (.Call (.Name "enumerate" p) [.Call (.Name "zip" p2) [a, b] [] pos2] [] pos) (PW.iEnmZ da db) := PI.imp (pi_enumZ hg1 g1 hg g (sl_cons ha (sl_cons hb sl_nil hs3) hs) hs1 hs hpl) fun σ H R q => by
  refine (rd_l2 q).imp ?_
  rintro vs H1 ⟨v, v', ρ, e, wx, wy, h, rfl, re, rh, rx, ry, af⟩
  cases q1 : seqOf h wx with
  | none => rw [q1] at af; exact af.elim
  | some s =>
    rw [q1] at af
    dsimp only at af
    cases q2 : seqOf h wy with
    | none => rw [q2] at af; exact af.elim
    | some t =>
      rw [q2] at af
      rcases seqOf_cases rh rx q1 with ⟨l, a1, vs1, rfl, rfl, ht, rs⟩ | ⟨n, a1, vs1, rfl, rfl, hn, hs1⟩ <;> rcases seqOf_cases rh ry q2 with ⟨r, a2, vs2, rfl, rfl, ht2, rs2⟩ | ⟨m, a2, vs2, rfl, rfl, hm, hs2⟩
      · exact ⟨a1, a2, vs1, vs2, rfl, ht.sq, ht2.sq, Aft.go (rel := SrcR (gx X G)) af .refl rh (src_enmZ ht rs ht2 rs2)⟩
      · exact af.elim
      · exact af.elim
      · exact af.elim
end
end PW

set_option Elab.async false
set_option linter.all false
set_option maxRecDepth 100000
set_option maxHeartbeats 1000000
/-! PWt: what the laws' own defs over the script come to in the model. -/
namespace PW
theorem HT.put_put : ∀ (f : Nat) (t : HT) (i : Nat) (a b : Ob), HT.put f (HT.put f t i a) i b = HT.put f t i b := by
  intro f
  induction f with
  | zero => intro t i a b; rfl
  | succ f ih =>
    intro t i a b
    cases e : Nat.beq i 0 with
    | true => simp only [HT.put, e, HT.lf, HT.rt]
    | false =>
      cases e2 : Nat.beq (i % 2) 1 with
      | true => simp only [HT.put, e, e2, HT.lf, HT.rt, HT.top, ih]
      | false => simp only [HT.put, e, e2, HT.lf, HT.rt, HT.top, ih]
theorem Hq.put_put (h : Hq) (i : Nat) (a b : Ob) : (h.put i a).put i b = h.put i b := by
  simp only [Hq.put, HT.put_put]
theorem HT.put_same : ∀ (f : Nat) (t : HT) (i : Nat) (a : Ob), i + 2 ≤ 2 ^ f → t.get i = some a → HT.put f t i a = t := by
  intro f
  induction f with
  | zero => intro t i a h; simp at h
  | succ f ih =>
    intro t i a h g
    rw [Nat.pow_succ] at h
    cases t with
    | nil => cases g
    | node v l r =>
      have g' : (match Nat.beq i 0 with | true => v | false => match Nat.beq (i % 2) 1 with | true => l.get (i / 2) | false => r.get (i / 2 - 1)) = some a := g
      cases e : Nat.beq i 0 with
      | true => rw [e] at g'; simp only [HT.put, e, HT.lf, HT.rt]; rw [← g']
      | false =>
        rw [e] at g'
        rw [beqD] at e
        have hi : i ≠ 0 := by simpa using e
        cases e2 : Nat.beq (i % 2) 1 with
        | true =>
          rw [e2] at g'
          rw [beqD] at e2
          have hj : i % 2 = 1 := by simpa using e2
          simp only [HT.put, beqD, e, e2, HT.lf, HT.rt, HT.top]
          rw [ih l _ a (by omega) g']
        | false =>
          rw [e2] at g'
          rw [beqD] at e2
          have hj : i % 2 ≠ 1 := by simpa using e2
          simp only [HT.put, beqD, e, e2, HT.lf, HT.rt, HT.top]
          rw [ih r _ a (by omega) g']
theorem Hq.put_same {h : Hq} {i : Nat} {a : Ob} (hl : h.n ≤ LINE) (g : h.get i = some a) : h.put i a = h := by
  have hi := Hq.get_lt g
  have g' : h.t.get i = some a := by
    unfold Hq.get at g
    have q : ¬ h.n ≤ i := by omega
    rw [bleD, decide_eq_false q] at g
    exact g
  unfold Hq.put
  rw [HT.put_same 20 h.t i a (by have : LINE = 1000000 := rfl; omega) g']
def isT : R → Bool
  | .ok (.bl true) _ => true
  | _ => false
def hO : R → Hq
  | .ok _ h => h
  | _ => Hq.e
theorem isT_ok {r : R} (h : isT r = true) : r = .ok (.bl true) (hO r) := by
  cases r with
  | ok w h' =>
    cases w
    case bl b => cases b <;> first | (cases h; done) | rfl
    all_goals cases h
  | ex => cases h
  | bad => cases h
theorem mpI_len : ∀ ns : List Int, (mpI ns).length = ns.length
  | [] => rfl
  | _ :: r => by show (mpI r).length + 1 = _; rw [mpI_len r]; rfl
theorem mpI_tak : ∀ (k : Nat) (ns : List Int), tak k (mpI ns) = mpI (ns.take k)
  | 0, _ => by simp [tak, mpI]
  | _ + 1, [] => rfl
  | k + 1, a :: r => by
    show W.int a :: tak k (mpI r) = _
    rw [mpI_tak k r]
    rfl
theorem mpI_get : ∀ (ns : List Int) (i : Nat), nth (mpI ns) i = (match ns[i]? with | some z => some (.int z) | none => none)
  | [], _ => rfl
  | a :: r, 0 => rfl
  | a :: r, i + 1 => by
    show nth (mpI r) i = _
    rw [mpI_get r i]
    simp
end PW

set_option Elab.async false
set_option linter.all false
set_option maxRecDepth 100000
set_option maxHeartbeats 0
/-! PWu: the laws' own defs over the script (cells, box, take), whatever the law. -/
namespace PW
def xBox (k : Int) : DS :=
  (sSeq (sAsg (dIf (tVal (dOp oLt (dVar 1) (dB bLen (lCons (dVar 0) lNil)))) (dOp oIx (dVar 0) (dVar 1)) (dC (.int 0))) (tN 2))
  (sRet (dLst (lCons (dOp oMul (dB bAbs (lCons (dVar 2) lNil)) (dB bInt (lCons (dOp oGe (dB bAbs (lCons (dVar 2) lNil)) (dOp oPow (dC (.int 10)) (dC (.int 18)))) lNil))) (lCons (dOp oAdd (dOp oAdd (dOp oMod (dB bInt (lCons (dVar 2) lNil)) (dC (.int 2305843009213693951))) (dOp oMul (dC (.int 39373)) (dVar 1))) (dC (.int k))) (lCons (dC (.int 0)) lNil))))))
def xTake : DS :=
  (sSeq (sIf (tVal (dOp oGt (dOp oIx (dVar 0) (dC (.int 0))) (dC (.int 0)))) (sSeq (sAsg (dOp oMod (dB bInt (lCons (dOp oIx (dVar 0) (dC (.int 0))) lNil)) (dVar 1)) (tN 2))
  (sSeq (sAsg (dOp oDiv (dOp oIx (dVar 0) (dC (.int 0))) (dVar 1)) (tS (dVar 0) (dC (.int 0))))
  (sRet (dVar 2)))) sNil)
  (sSeq (sAsg (dOp oAdd (dOp oIx (dVar 0) (dC (.int 2))) (dC (.int 1))) (tS (dVar 0) (dC (.int 2))))
  (sSeq (sAsg (dOp oMod (dB bInt (lCons (dOp oMul (dOp oAdd (dOp oIx (dVar 0) (dC (.int 1))) (dOp oMul (dC (.int 48271)) (dOp oIx (dVar 0) (dC (.int 2))))) (dOp oAdd (dC (.int 39373)) (dOp oIx (dVar 0) (dC (.int 2))))) lNil)) (dC (.int 2147483647))) (tN 3))
  (sSeq (sAsg (dOp oAdd (dOp oMod (dB bInt (lCons (dVar 3) lNil)) (dC (.int 40009))) (dC (.int 7))) (tN 4))
  (sSeq (sAsg (dOp oMod (dB bInt (lCons (dOp oMul (dOp oAdd (dOp oAdd (dVar 3) (dOp oIx (dVar 0) (dC (.int 2)))) (dOp oDiv (dOp oIx (dVar 0) (dC (.int 1))) (dC (.int 1000003)))) (dVar 4)) lNil)) (dC (.int 2147483629))) (tN 5))
  (sRet (dOp oMod (dB bInt (lCons (dOp oDiv (dOp oMod (dB bInt (lCons (dOp oAdd (dOp oMul (dVar 5) (dC (.int 48271))) (dVar 3)) lNil)) (dC (.int 2147483587))) (dC (.int 64))) lNil)) (dVar 1))))))))
def xCells : DS :=
  (sSeq (sAsg (dOrT (dB bList (lCons (dSl (dVar 0) oNone (oSome (dVar 1))) lNil)) (dLst (lCons (dC (.int 0)) lNil))) (tN 2))
  (sSeq (sFor (iEnm (dSl (dVar 0) (oSome (dVar 1)) (oSome (dC (.int 63))))) (tT 2 (tLc (tN 3) (tLc (tN 4) tLn))) (sSeq (sAsg (dOp oMod (dB bInt (lCons (dVar 3) lNil)) (dVar 1)) (tN 5))
  (sAsg (dOp oAdd (dOp oIx (dVar 2) (dVar 5)) (dOp oMul (dVar 4) (dOp oAdd (dVar 3) (dC (.int 2))))) (tS (dVar 2) (dVar 5)))))
  (sRet (dVar 2))))
theorem st_0 {h : Hq} {n : Nat} {a w : W} {l : List W} (hg : h.get n = some (.lst (a :: l))) : stW (.ref n) (.int 0) w h = some (h.put n (.lst (w :: l))) := by
  unfold stW
  simp only [hg]
  have k : Nat.blt 0 (len (a :: l)) = true := by rw [bltD, lenD]; simp
  show (match Nat.blt 0 (len (a :: l)) with | true => some (h.put n (.lst (setN (a :: l) 0 w))) | false => none) = _
  rw [k]
  rfl
/-- what the walk over the rest leaves -/
theorem cells_loop {B : Hq} {c s2 : Nat} {ms : List Int} (hc : c < B.n) (hL : B.n ≤ LINE) (hs : B.get s2 = some (.lst (mpI ms))) (hne : s2 ≠ c) (hm : ms.length ≤ 100) :
    ∀ (m f i : Nat) (x y z : Option W) (s : Int), i + m = ms.length → m < f → ∃ x' y' z' s',
      forS (next (.enm (.lst s2))) (tT 2 (tLc (tN 3) (tLc (tN 4) tLn))) (sSeq (sAsg (dOp oMod (dB bInt (lCons (dVar 3) lNil)) (dVar 1)) (tN 5)) (sAsg (dOp oAdd (dOp oIx (dVar 2) (dVar 5)) (dOp oMul (dVar 4) (dOp oAdd (dVar 3) (dC (.int 2))))) (tS (dVar 2) (dVar 5))))
        f i [some (.ref 0), some (.int 1), some (.ref c), x, y, z] (B.put c (.lst [.int s])) = .nx [some (.ref 0), some (.int 1), some (.ref c), x', y', z'] (B.put c (.lst [.int s'])) := by
  have gs : ∀ o, (B.put c o).seq s2 = some (mpI ms) := fun o => by
    simp only [Hq.seq, Hq.get_put hc hL, hne, if_false, hs]
  have gc : ∀ o, (B.put c o).get c = some o := fun o => by simp only [Hq.get_put hc hL, if_true]
  intro m
  induction m with
  | zero =>
    intro f i x y z s hi hf
    obtain ⟨f, rfl⟩ : ∃ g, f = g + 1 := ⟨f - 1, by omega⟩
    refine ⟨x, y, z, s, ?_⟩
    have hn : ms[i]? = none := List.getElem?_eq_none_iff.mpr (by omega)
    simp only [forS, next, gs, mpI_get, hn]
  | succ m ih =>
    intro f i x y z s hi hf
    obtain ⟨f, rfl⟩ : ∃ g, f = g + 1 := ⟨f - 1, by omega⟩
    have hi' : i < ms.length := by omega
    have hg : ms[i]? = some ms[i] := List.getElem?_eq_getElem hi'
    obtain ⟨x', y', z', s', e⟩ := ih f (i + 1) (some (.int (Int.ofNat i))) (some (.int ms[i])) (some (.int 0)) (s + ms[i] * (Int.ofNat i + 2)) (by omega) (by omega)
    refine ⟨x', y', z', s', ?_⟩
    have k1 : Int.ofNat i % 1 = 0 := Int.emod_one _
    have k2 : small (Int.ofNat i + 2) = true := by
      simp only [small, iLtD, BIG, Bool.and_eq_true, decide_eq_true_eq]
      have : Int.ofNat i = (i : Int) := rfl
      omega
    have k3 : iLt 0 1 = true := rfl
    have k4 : Nat.beq (len [W.int (Int.ofNat i), W.int ms[i]]) 2 = true := rfl
    have k5 : atW [W.int s] 0 = some (.int s) := rfl
    have k6 : Nat.blt 0 (len [W.int s]) = true := rfl
    have st : stW (.ref c) (.int 0) (.int (s + ms[i] * (Int.ofNat i + 2))) (B.put c (.lst [.int s])) = some (B.put c (.lst [.int (s + ms[i] * (Int.ofNat i + 2))])) := by
      rw [st_0 (gc _), Hq.put_put]
    rw [forS]
    simp only [next, gs, mpI_get, hg, tT, k4, tLc, tLn, tN, Rs.bind, setN, sSeq, sAsg, dOp, dB, lCons, lNil, dVar, nth, bInt, oMod, k3, k1, oIx, gc, k5, oAdd, dC, oMul, k2, Bool.or_true, tS, st]
    exact e
theorem mkk {g : Hq} {o : Ob} (hg : g.n + 1 ≤ LINE) : mk o g = .ok (.ref g.n) (g.push o) := by
  rw [mk, bltD, decide_eq_true (by omega)]
theorem cells_of {h : Hq} {x : Int} {r : List Int} (hL : h.n + 10 ≤ LINE) (h0 : h.get 0 = some (.rol (mpI (x :: r)))) (hn : 0 < h.n) (hl : (x :: r).length ≤ 63) :
    ∃ s2 s', fin (xCells [some (.ref 0), some (.int 1), none, none, none, none] h) = .ok (.ref (h.n + 1)) ((((h.push (.lst [.int x])).push (.lst [.int x])).push (.lst s2)).put (h.n + 1) (.lst [.int s'])) := by
  have hll : (x :: r).length = r.length + 1 := rfl
  have a1 : h.seq 0 = some (mpI (x :: r)) := by simp only [Hq.seq, h0]
  have a2 : short (mpI (x :: r)) = true := by rw [short, bleD, lenD, mpI_len, decide_eq_true]; have : LIM = 100000 := rfl; omega
  have a3 : cut (mpI (x :: r)) none (some 1) = [.int x] := by
    have e : sIx (len (mpI (x :: r))) (len (mpI (x :: r))) (some 1) = 1 := by
      show (match Nat.ble 1 (len (mpI (x :: r))) with | true => 1 | false => len (mpI (x :: r))) = 1
      rw [bleD, lenD, mpI_len, decide_eq_true (by omega)]
    unfold cut
    rw [e]
    rfl
  obtain ⟨k, a4⟩ : ∃ k, cut (mpI (x :: r)) (some 1) (some 63) = tak k (mpI r) := by
    have e : sIx (len (mpI (x :: r))) 0 (some 1) = 1 := by
      show (match Nat.ble 1 (len (mpI (x :: r))) with | true => 1 | false => len (mpI (x :: r))) = 1
      rw [bleD, lenD, mpI_len, decide_eq_true (by omega)]
    unfold cut
    rw [e]
    exact ⟨_, rfl⟩
  rw [mpI_tak] at a4
  obtain ⟨A, eA⟩ : ∃ A, A = h.push (.lst [.int x]) := ⟨_, rfl⟩
  have nA : A.n = h.n + 1 := by rw [eA]; rfl
  have gA : ∀ j, A.get j = if j = h.n then some (.lst [.int x]) else h.get j := fun j => by rw [eA]; exact Hq.get_push (by omega) j
  obtain ⟨B, eB⟩ : ∃ B, B = A.push (.lst [.int x]) := ⟨_, rfl⟩
  have nB : B.n = h.n + 2 := by rw [eB]; show A.n + 1 = _; rw [nA]
  have gB : ∀ j, B.get j = if j = A.n then some (.lst [.int x]) else A.get j := fun j => by rw [eB]; exact Hq.get_push (by omega) j
  obtain ⟨D, eD⟩ : ∃ D, D = B.push (.lst (mpI (r.take k))) := ⟨_, rfl⟩
  have nD : D.n = h.n + 3 := by rw [eD]; show B.n + 1 = _; rw [nB]
  have gD : ∀ j, D.get j = if j = B.n then some (.lst (mpI (r.take k))) else B.get j := fun j => by rw [eD]; exact Hq.get_push (by omega) j
  have b1 : A.seq h.n = some [.int x] := by simp only [Hq.seq, gA, if_true]
  have b2 : B.get (h.n + 1) = some (.lst [.int x]) := by rw [gB, nA]; simp
  have b3 : B.seq 0 = some (mpI (x :: r)) := by
    have e1 : ¬ 0 = A.n := by omega
    have e2 : ¬ 0 = h.n := by omega
    simp only [Hq.seq, gB, gA, e1, e2, if_false, h0]
  have b4 : D.get (h.n + 2) = some (.lst (mpI (r.take k))) := by rw [gD, nB]; simp
  have b5 : D.seq (h.n + 2) = some (mpI (r.take k)) := by simp only [Hq.seq, b4]
  have b6 : D.get (h.n + 1) = some (.lst [.int x]) := by
    have e1 : ¬ h.n + 1 = B.n := by omega
    rw [gD, if_neg e1, b2]
  have hpu : D.put (h.n + 1) (.lst [.int x]) = D := Hq.put_same (by omega) b6
  have lk : (r.take k).length ≤ 100 := by rw [List.length_take]; omega
  obtain ⟨x', y', z', s', e⟩ := cells_loop (B := D) (c := h.n + 1) (s2 := h.n + 2) (ms := r.take k) (by omega) (by omega) b4 (by omega) lk (r.take k).length FUEL 0 none none none x (by omega) (by have : FUEL = 1000000 := rfl; omega)
  rw [hpu] at e
  refine ⟨mpI (r.take k), s', ?_⟩
  rw [← eA, ← eB, ← eD]
  have t1 : tru B (.ref (h.n + 1)) = some true := by simp only [tru, b2]
  have m1 := mkk (g := h) (o := .lst [.int x]) (by omega)
  have m2 := mkk (g := A) (o := .lst [.int x]) (by omega)
  have m3 := mkk (g := B) (o := .lst (mpI (r.take k))) (by omega)
  rw [← eA] at m1
  rw [← eB, nA] at m2
  rw [← eD, nB] at m3
  simp only [xCells, sSeq, sAsg, dOrT, dB, lCons, lNil, dSl, dVar, nth, oNone, oSome, Rs.bind, slW, a1, a2, a3, m1, bList, b1, m2, t1, tN, setN, sFor, iEnm, dC, b3, a4, m3, seqOf, b5]
  simp only [e, sRet, dVar, nth, fin]
/-- the empty script: a zero -/
theorem cells_nil {h : Hq} (hL : h.n + 10 ≤ LINE) (h0 : h.get 0 = some (.rol (mpI []))) (hn : 0 < h.n) :
    fin (xCells [some (.ref 0), some (.int 1), none, none, none, none] h) = .ok (.ref (h.n + 2)) ((((h.push (.lst [])).push (.lst [])).push (.lst [.int 0])).push (.lst [])) := by
  have a1 : h.seq 0 = some [] := by simp only [Hq.seq, h0]; rfl
  have a2 : short ([] : List W) = true := rfl
  have a3 : cut ([] : List W) none (some 1) = [] := rfl
  have a4 : cut ([] : List W) (some 1) (some 63) = [] := rfl
  have a5 : short [W.int 0] = true := rfl
  obtain ⟨A, eA⟩ : ∃ A, A = h.push (.lst []) := ⟨_, rfl⟩
  have nA : A.n = h.n + 1 := by rw [eA]; rfl
  have gA : ∀ j, A.get j = if j = h.n then some (.lst []) else h.get j := fun j => by rw [eA]; exact Hq.get_push (by omega) j
  obtain ⟨B, eB⟩ : ∃ B, B = A.push (.lst []) := ⟨_, rfl⟩
  have nB : B.n = h.n + 2 := by rw [eB]; show A.n + 1 = _; rw [nA]
  have gB : ∀ j, B.get j = if j = A.n then some (.lst []) else A.get j := fun j => by rw [eB]; exact Hq.get_push (by omega) j
  obtain ⟨D, eD⟩ : ∃ D, D = B.push (.lst [.int 0]) := ⟨_, rfl⟩
  have nD : D.n = h.n + 3 := by rw [eD]; show B.n + 1 = _; rw [nB]
  have gD : ∀ j, D.get j = if j = B.n then some (.lst [.int 0]) else B.get j := fun j => by rw [eD]; exact Hq.get_push (by omega) j
  obtain ⟨F, eF⟩ : ∃ F, F = D.push (.lst []) := ⟨_, rfl⟩
  have gF : ∀ j, F.get j = if j = D.n then some (.lst []) else D.get j := fun j => by rw [eF]; exact Hq.get_push (by omega) j
  have b1 : A.seq h.n = some [] := by simp only [Hq.seq, gA, if_true]
  have b2 : B.get (h.n + 1) = some (.lst []) := by rw [gB, nA]; simp
  have b3 : D.seq 0 = some [] := by
    have e1 : ¬ 0 = B.n := by omega
    have e2 : ¬ 0 = A.n := by omega
    have e3 : ¬ 0 = h.n := by omega
    simp only [Hq.seq, gD, gB, gA, e1, e2, e3, if_false, h0]; rfl
  have b5 : F.seq (h.n + 3) = some [] := by simp only [Hq.seq, gF, nD, if_true]
  rw [← eA, ← eB, ← eD, ← eF]
  have t1 : tru B (.ref (h.n + 1)) = some false := by simp only [tru, b2]
  have m1 := mkk (g := h) (o := .lst []) (by omega)
  have m2 := mkk (g := A) (o := .lst []) (by omega)
  have m3 := mkk (g := B) (o := .lst [.int 0]) (by omega)
  have m4 := mkk (g := D) (o := .lst []) (by omega)
  rw [← eA] at m1
  rw [← eB, nA] at m2
  rw [← eD, nB] at m3
  rw [← eF, nD] at m4
  have e : forS (next (.enm (.lst (h.n + 3)))) (tT 2 (tLc (tN 3) (tLc (tN 4) tLn))) (sSeq (sAsg (dOp oMod (dB bInt (lCons (dVar 3) lNil)) (dVar 1)) (tN 5)) (sAsg (dOp oAdd (dOp oIx (dVar 2) (dVar 5)) (dOp oMul (dVar 4) (dOp oAdd (dVar 3) (dC (.int 2))))) (tS (dVar 2) (dVar 5))))
        FUEL 0 [some (.ref 0), some (.int 1), some (.ref (h.n + 2)), none, none, none] F = .nx [some (.ref 0), some (.int 1), some (.ref (h.n + 2)), none, none, none] F := by
    have : FUEL = 999999 + 1 := rfl
    rw [this, forS]
    simp only [next, b5, nth]
  simp only [xCells, sSeq, sAsg, dOrT, dB, lCons, lNil, dSl, dVar, nth, oNone, oSome, Rs.bind, slW, a1, a2, a3, m1, bList, b1, m2, t1, dLst, dC, a5, m3, tN, setN, sFor, iEnm, b3, a4, m4, seqOf, b5]
  simp only [e, sRet, dVar, nth, fin]
theorem box_of {k : Int} {h : Hq} {c : Nat} {s : Int} (hL : h.n < LINE) (hc : h.get c = some (.lst [.int s])) :
    ∃ u v, fin (xBox k [some (.ref c), some (.int 0), none] h) = .ok (.ref h.n) (h.push (.lst [.int u, .int v, .int 0])) := by
  obtain ⟨b, eb⟩ : ∃ b, bAbs [.int s] h = .ok (.int b) h := ⟨_, rfl⟩
  have k1 : iLt 0 (Int.ofNat (len [W.int s])) = true := rfl
  have k2 : atW [W.int s] 0 = some (.int s) := rfl
  have k3 : (iLt (-1) 18 && iLt 18 1000001 && small 10) = true := rfl
  have k4 : ∀ b : Bool, small (b2i b) = true := fun b => by cases b <;> rfl
  have k5 : iLt 0 2305843009213693951 = true := rfl
  have k6 : small 39373 = true := rfl
  have m1 : ∀ o, mk o h = .ok (.ref h.n) (h.push o) := fun o => by rw [mk, bltD, decide_eq_true hL]
  have k7 : ∀ a b c : W, short [a, b, c] = true := fun _ _ _ => rfl
  simp only [xBox, sSeq, sAsg, dIf, tVal, dOp, dVar, nth, dB, lCons, lNil, Rs.bind, bLen, hc, oLt, k1, oIx, k2, tN, setN, sRet, dLst, eb, oGe, oPow, dC, k3, bInt, oMul, k4, Bool.or_true, oMod, k5, oAdd, k6, Bool.true_or, k7, m1, fin]
  exact ⟨_, _, rfl⟩
theorem take_of {h : Hq} {b : Nat} {u v m : Int} (hb : b < h.n) (hL : h.n ≤ LINE) (hm : 0 < m) (hm2 : m < 1073741824) (hc : h.get b = some (.lst [.int u, .int v, .int 0])) :
    ∃ d o, 0 ≤ d ∧ d < m ∧ fin (xTake [some (.ref b), some (.int m), none, none, none, none] h) = .ok (.int d) (h.put b o) := by
  have a0 : ∀ x y z : Int, atW [W.int x, W.int y, W.int z] 0 = some (.int x) := fun _ _ _ => rfl
  have a1 : ∀ x y z : Int, atW [W.int x, W.int y, W.int z] 1 = some (.int y) := fun _ _ _ => rfl
  have a2 : ∀ x y z : Int, atW [W.int x, W.int y, W.int z] 2 = some (.int z) := fun _ _ _ => rfl
  have k1 : iLt 0 m = true := by rw [iLtD]; exact decide_eq_true hm
  have k2 : iLt m 1073741824 = true := by rw [iLtD]; exact decide_eq_true hm2
  have k3 : small 48271 = true := rfl
  have k4 : small (39373 + (0 + 1)) = true := rfl
  have k5 : iLt 0 2147483647 = true := rfl
  have k6 : iLt 0 40009 = true := rfl
  have k7 : iLt 0 2147483629 = true := rfl
  have k8 : iLt 0 2147483587 = true := rfl
  have k9 : iLt 0 1000003 = true := rfl
  have k9b : iLt 1000003 1073741824 = true := rfl
  have k10 : iLt 0 64 = true := rfl
  have k10b : iLt 64 1073741824 = true := rfl
  have k11 : ∀ z : Int, small (z % 40009 + 7) = true := fun z => by
    simp only [small, iLtD, BIG, Bool.and_eq_true, decide_eq_true_eq]
    omega
  have st0 : ∀ w : W, stW (.ref b) (.int 0) w h = some (h.put b (.lst [w, .int v, .int 0])) := fun w => st_0 hc
  have st2 : stW (.ref b) (.int 2) (.int (0 + 1)) h = some (h.put b (.lst [.int u, .int v, .int (0 + 1)])) := by
    unfold stW
    simp only [hc]
    rfl
  have g2 : (h.put b (.lst [.int u, .int v, .int (0 + 1)])).get b = some (.lst [.int u, .int v, .int (0 + 1)]) := by rw [Hq.get_put hb hL]; simp
  have hmm : ∀ z : Int, 0 ≤ z % m ∧ z % m < m := fun z => ⟨Int.emod_nonneg _ (by omega), Int.emod_lt_of_pos _ hm⟩
  simp only [xTake, sSeq, sIf, tVal, dOp, dVar, nth, Rs.bind, dC, oIx, hc, a0, oGt]
  cases iLt 0 u with
  | true =>
    simp only [sAsg, dOp, dB, lCons, lNil, dVar, nth, Rs.bind, dC, oIx, hc, a0, bInt, oMod, k1, tN, setN, oDiv, k2, Bool.and_self, tS, st0, sRet, fin]
    exact ⟨_, _, (hmm _).1, (hmm _).2, rfl⟩
  | false =>
    simp only [sNil, sAsg, dOp, dB, lCons, lNil, dVar, nth, Rs.bind, dC, oIx, hc, a0, a1, a2, bInt, oMod, k1, tN, setN, oDiv, k2, tS, st2, g2, sRet, fin, oAdd, oMul, k3, k4, k5, k6, k7, k8, k9, k9b, k10, k10b, k11, Bool.and_self, Bool.or_true, Bool.true_or]
    exact ⟨_, _, (hmm _).1, (hmm _).2, rfl⟩
end PW

set_option Elab.async false
set_option linter.all false
set_option maxRecDepth 100000
set_option maxHeartbeats 0
/-! PWu2: the draw of a law, whatever the law. -/
namespace PW
/-- what a part comes to: true, how many objects, the script's place -/
def ob3 : R → Bool × Nat × Option Ob
  | .ok (.bl true) h => (true, h.n, h.t.top)
  | _ => (false, 0, none)
theorem ob3_ok {r : R} {n : Nat} {o : Option Ob} (h : ob3 r = (true, n, o)) : ∃ t, r = .ok (.bl true) ⟨n, t⟩ ∧ t.top = o := by
  cases r with
  | ok w h' =>
    cases w
    case bl b =>
      cases b
      · cases h
      · obtain ⟨m, t⟩ := h'
        have h : (true, m, t.top) = (true, n, o) := h
        obtain ⟨rfl, rfl⟩ : m = n ∧ t.top = o := by
          constructor
          · exact congrArg (fun z => z.2.1) h
          · exact congrArg (fun z => z.2.2) h
        exact ⟨t, rfl, rfl⟩
    all_goals cases h
  | ex => cases h
  | bad => cases h
theorem get0 {n : Nat} {t : HT} {o : Option Ob} (hn : 0 < n) (h : t.top = o) : Hq.get ⟨n, t⟩ 0 = o := by
  unfold Hq.get
  rw [bleD, decide_eq_false (by show ¬ n ≤ 0; omega), ← h, HT.get_def]
  simp
/-- the draw of a small number -/
def tkF (v m : Int) : Int := (((((v + 48271 * (0 + 1)) * (39373 + (0 + 1))) % 2147483647 + (0 + 1) + v / 1000003) * (((v + 48271 * (0 + 1)) * (39373 + (0 + 1))) % 2147483647 % 40009 + 7) % 2147483629 * 48271 + ((v + 48271 * (0 + 1)) * (39373 + (0 + 1))) % 2147483647) % 2147483587 / 64) % m
theorem take_z {h : Hq} {b : Nat} {v m : Int} (hb : b < h.n) (hL : h.n ≤ LINE) (hm : 0 < m) (hm2 : m < 1073741824) (hc : h.get b = some (.lst [.int 0, .int v, .int 0])) :
    ∃ o, fin (xTake [some (.ref b), some (.int m), none, none, none, none] h) = .ok (.int (tkF v m)) (h.put b o) := by
  have a0 : ∀ x y z : Int, atW [W.int x, W.int y, W.int z] 0 = some (.int x) := fun _ _ _ => rfl
  have a1 : ∀ x y z : Int, atW [W.int x, W.int y, W.int z] 1 = some (.int y) := fun _ _ _ => rfl
  have a2 : ∀ x y z : Int, atW [W.int x, W.int y, W.int z] 2 = some (.int z) := fun _ _ _ => rfl
  have k1 : iLt 0 m = true := by rw [iLtD]; exact decide_eq_true hm
  have k3 : small 48271 = true := rfl
  have k4 : small (39373 + (0 + 1)) = true := rfl
  have k5 : iLt 0 2147483647 = true := rfl
  have k6 : iLt 0 40009 = true := rfl
  have k7 : iLt 0 2147483629 = true := rfl
  have k8 : iLt 0 2147483587 = true := rfl
  have k9 : iLt 0 1000003 = true := rfl
  have k9b : iLt 1000003 1073741824 = true := rfl
  have k10 : iLt 0 64 = true := rfl
  have k10b : iLt 64 1073741824 = true := rfl
  have k0 : iLt 0 0 = false := rfl
  have k11 : ∀ z : Int, small (z % 40009 + 7) = true := fun z => by
    simp only [small, iLtD, BIG, Bool.and_eq_true, decide_eq_true_eq]
    omega
  have st2 : stW (.ref b) (.int 2) (.int (0 + 1)) h = some (h.put b (.lst [.int 0, .int v, .int (0 + 1)])) := by
    unfold stW
    simp only [hc]
    rfl
  have g2 : (h.put b (.lst [.int 0, .int v, .int (0 + 1)])).get b = some (.lst [.int 0, .int v, .int (0 + 1)]) := by rw [Hq.get_put hb hL]; simp
  simp only [xTake, sSeq, sIf, tVal, dOp, dVar, nth, Rs.bind, dC, oIx, hc, a0, oGt, k0, sNil, sAsg, dB, lCons, lNil, a1, a2, bInt, oMod, k1, tN, setN, oDiv, tS, st2, g2, sRet, fin, oAdd, oMul, k3, k4, k5, k6, k7, k8, k9, k9b, k10, k10b, k11, Bool.and_self, Bool.or_true, Bool.true_or]
  exact ⟨_, rfl⟩
theorem box_z {k : Int} {h : Hq} {c : Nat} (hL : h.n < LINE) (hc : h.get c = some (.lst [.int 0])) :
    fin (xBox k [some (.ref c), some (.int 0), none] h) = .ok (.ref h.n) (h.push (.lst [.int (0 * 0), .int (0 + 39373 * 0 + k), .int 0])) := by
  have eb : bAbs [.int 0] h = .ok (.int 0) h := rfl
  have k1 : iLt 0 (Int.ofNat (len [W.int 0])) = true := rfl
  have k2 : atW [W.int 0] 0 = some (.int 0) := rfl
  have k3 : (iLt (-1) 18 && iLt 18 1000001 && small 10) = true := rfl
  have k4 : ∀ b : Bool, small (b2i b) = true := fun b => by cases b <;> rfl
  have k5 : iLt 0 2305843009213693951 = true := rfl
  have k6 : small 39373 = true := rfl
  have m1 : ∀ o, mk o h = .ok (.ref h.n) (h.push o) := fun o => by rw [mk, bltD, decide_eq_true hL]
  have k7 : ∀ a b c : W, short [a, b, c] = true := fun _ _ _ => rfl
  have k8 : b2i (!iLt 0 (10 ^ Int.toNat 18)) = 0 := by decide +kernel
  have k9 : (small 0 || small 0) = true := rfl
  have k10 : (0 % 2305843009213693951 : Int) = 0 := by decide
  simp only [xBox, sSeq, sAsg, dIf, tVal, dOp, dVar, nth, dB, lCons, lNil, Rs.bind, bLen, hc, oLt, k1, oIx, k2, tN, setN, sRet, dLst, eb, oGe, oPow, dC, k3, bInt, oMul, k4, Bool.or_true, oMod, k5, oAdd, k6, Bool.true_or, k7, m1, fin, k8, k9, k10]
/-- cells, box and take of whatever script: what is drawn, how many objects there are then -/
theorem draw {k m : Int} {n : Nat} {t : HT} {ns : List Int} (hn : 0 < n) (hL : n + 20 ≤ LINE) (ht : t.top = some (.rol (mpI ns))) (hl : ns.length ≤ 63) (hm : 0 < m) (hm2 : m < 1073741824) :
    ∃ c h1 b h2 d, fin (xCells [some (.ref 0), some (.int 1), none, none, none, none] ⟨n, t⟩) = .ok (.ref c) h1 ∧ fin (xBox k [some (.ref c), some (.int 0), none] h1) = .ok (.ref b) h2 ∧
      ((∃ t3, fin (xTake [some (.ref b), some (.int m), none, none, none, none] h2) = .ok (.int d) ⟨n + 4, t3⟩ ∧ 0 ≤ d ∧ d < m) ∨ (∃ t3, fin (xTake [some (.ref b), some (.int m), none, none, none, none] h2) = .ok (.int d) ⟨n + 5, t3⟩ ∧ d = tkF k m)) := by
  have h0 := get0 hn ht
  cases ns with
  | nil =>
    have e1 := cells_nil (h := ⟨n, t⟩) (by show n + 10 ≤ LINE; omega) h0 hn
    obtain ⟨B, eB⟩ : ∃ B, B = (((Hq.mk n t).push (.lst [])).push (.lst [])).push (.lst [.int 0]) := ⟨_, rfl⟩
    have nB : B.n = n + 3 := by rw [eB]; rfl
    have gB : B.get (n + 2) = some (.lst [.int 0]) := by
      rw [eB, Hq.get_push (by show n + 1 + 1 < LINE; omega)]; exact if_pos rfl
    obtain ⟨D, eD⟩ : ∃ D, D = B.push (.lst []) := ⟨_, rfl⟩
    have nD : D.n = n + 4 := by rw [eD]; show B.n + 1 = _; rw [nB]
    have gD : D.get (n + 2) = some (.lst [.int 0]) := by
      rw [eD, Hq.get_push (by rw [nB]; omega), if_neg (by rw [nB]; omega), gB]
    rw [← eB, ← eD] at e1
    have e2 := box_z (k := k) (h := D) (c := n + 2) (by rw [nD]; omega) gD
    obtain ⟨F, eF⟩ : ∃ F, F = D.push (.lst [.int (0 * 0), .int (0 + 39373 * 0 + k), .int 0]) := ⟨_, rfl⟩
    have nF : F.n = n + 5 := by rw [eF]; show D.n + 1 = _; rw [nD]
    have gF : F.get D.n = some (.lst [.int 0, .int k, .int 0]) := by
      rw [eF, Hq.get_push (by rw [nD]; omega), if_pos rfl]
      have : (0 + 39373 * 0 + k : Int) = k := by omega
      rw [this]
      rfl
    rw [← eF] at e2
    obtain ⟨o, e3⟩ := take_z (h := F) (b := D.n) (v := k) (m := m) (by rw [nF, nD]; omega) (by rw [nF]; omega) hm hm2 gF
    have hz : F.put D.n o = ⟨n + 5, F.t.put 20 D.n o⟩ := by show Hq.mk F.n _ = _; rw [nF]
    exact ⟨_, _, _, _, _, e1, e2, .inr ⟨_, hz ▸ e3, rfl⟩⟩
  | cons x r =>
    obtain ⟨s2, s', e1⟩ := cells_of (h := ⟨n, t⟩) (by show n + 10 ≤ LINE; omega) h0 hn hl
    obtain ⟨B, eB⟩ : ∃ B, B = (((Hq.mk n t).push (.lst [.int x])).push (.lst [.int x])).push (.lst s2) := ⟨_, rfl⟩
    have nB : B.n = n + 3 := by rw [eB]; rfl
    obtain ⟨D, eD⟩ : ∃ D, D = B.put (n + 1) (.lst [.int s']) := ⟨_, rfl⟩
    have nD : D.n = n + 3 := by rw [eD]; exact nB
    have gD : D.get (n + 1) = some (.lst [.int s']) := by rw [eD, Hq.get_put (by rw [nB]; omega) (by rw [nB]; omega), if_pos rfl]
    obtain ⟨u, v, e2⟩ := box_of (k := k) (h := D) (c := n + 1) (s := s') (by rw [nD]; omega) gD
    have e1' : fin (xCells [some (.ref 0), some (.int 1), none, none, none, none] ⟨n, t⟩) = .ok (.ref (n + 1)) D := by rw [eD, eB]; exact e1
    obtain ⟨F, eF⟩ : ∃ F, F = D.push (.lst [.int u, .int v, .int 0]) := ⟨_, rfl⟩
    have nF : F.n = n + 4 := by rw [eF]; show D.n + 1 = _; rw [nD]
    have gF : F.get D.n = some (.lst [.int u, .int v, .int 0]) := by
      rw [eF, Hq.get_push (by rw [nD]; omega), if_pos rfl]
    rw [← eF] at e2
    obtain ⟨d, o, d1, d2, e3⟩ := take_of (h := F) (b := D.n) (m := m) (by rw [nF, nD]; omega) (by rw [nF]; omega) hm hm2 gF
    have hz : F.put D.n o = ⟨n + 4, F.t.put 20 D.n o⟩ := by show Hq.mk F.n _ = _; rw [nF]
    exact ⟨_, _, _, _, d, e1', e2, .inl ⟨_, hz ▸ e3, d1, d2⟩⟩
/-- cells of whatever script -/
theorem cells_any {n : Nat} {t : HT} {ns : List Int} (hn : 0 < n) (hL : n + 20 ≤ LINE) (h0 : (Hq.mk n t).get 0 = some (.rol (mpI ns))) (hl : ns.length ≤ 63) :
    ∃ c t3, (fin (xCells [some (.ref 0), some (.int 1), none, none, none, none] ⟨n, t⟩) = .ok (.ref c) ⟨n + 3, t3⟩ ∧ ∃ z, (Hq.mk (n + 3) t3).get c = some (.lst [.int z])) ∨
      (fin (xCells [some (.ref 0), some (.int 1), none, none, none, none] ⟨n, t⟩) = .ok (.ref c) ⟨n + 4, t3⟩ ∧ (Hq.mk (n + 4) t3).get c = some (.lst [.int 0])) := by
  cases ns with
  | nil =>
    have e1 := cells_nil (h := ⟨n, t⟩) (by show n + 10 ≤ LINE; omega) h0 hn
    obtain ⟨B, eB⟩ : ∃ B, B = (((Hq.mk n t).push (.lst [])).push (.lst [])).push (.lst [.int 0]) := ⟨_, rfl⟩
    have nB : B.n = n + 3 := by rw [eB]; rfl
    have gB : B.get (n + 2) = some (.lst [.int 0]) := by
      rw [eB, Hq.get_push (by show n + 1 + 1 < LINE; omega)]; exact if_pos rfl
    obtain ⟨D, eD⟩ : ∃ D, D = B.push (.lst []) := ⟨_, rfl⟩
    have nD : D.n = n + 4 := by rw [eD]; show B.n + 1 = _; rw [nB]
    have gD : D.get (n + 2) = some (.lst [.int 0]) := by
      rw [eD, Hq.get_push (by rw [nB]; omega), if_neg (by rw [nB]; omega), gB]
    rw [← eB, ← eD] at e1
    obtain ⟨a, b⟩ := D
    have nD : a = n + 4 := nD
    subst nD
    exact ⟨n + 2, b, .inr ⟨e1, gD⟩⟩
  | cons x r =>
    obtain ⟨s2, s', e1⟩ := cells_of (h := ⟨n, t⟩) (by show n + 10 ≤ LINE; omega) h0 hn hl
    obtain ⟨B, eB⟩ : ∃ B, B = (((Hq.mk n t).push (.lst [.int x])).push (.lst [.int x])).push (.lst s2) := ⟨_, rfl⟩
    have nB : B.n = n + 3 := by rw [eB]; rfl
    obtain ⟨D, eD⟩ : ∃ D, D = B.put (n + 1) (.lst [.int s']) := ⟨_, rfl⟩
    have nD : D.n = n + 3 := by rw [eD]; exact nB
    have gD : D.get (n + 1) = some (.lst [.int s']) := by rw [eD, Hq.get_put (by rw [nB]; omega) (by rw [nB]; omega), if_pos rfl]
    have e1' : fin (xCells [some (.ref 0), some (.int 1), none, none, none, none] ⟨n, t⟩) = .ok (.ref (n + 1)) D := by rw [eD, eB]; exact e1
    obtain ⟨a, b⟩ := D
    have nD : a = n + 3 := nD
    subst nD
    exact ⟨n + 1, b, .inl ⟨e1', s', gD⟩⟩
end PW

/-! PX0: more combinators of the model. Plain Lean. -/
set_option linter.all false
namespace PW
open PySem
def bitI (i : Int) : Bool := match i with
  | .ofNat m => Nat.blt m 2
  | .negSucc _ => false
def xorI (i j : Int) : Int := match iEq i j with
  | true => 0
  | false => 1
def andI (i j : Int) : Int := match iEq i 1 && iEq j 1 with
  | true => 1
  | false => 0
/-- ^, & of bits; << -/
def oXor : Op2 := fun x y h => match x, y with
  | .int i, .int j => (match bitI i && bitI j with
    | true => .ok (.int (xorI i j)) h
    | false => .bad)
  | _, _ => .bad
def oAnd : Op2 := fun x y h => match x, y with
  | .int i, .int j => (match bitI i && bitI j with
    | true => .ok (.int (andI i j)) h
    | false => .bad)
  | _, _ => .bad
def oShl : Op2 := fun x y h => match x, y with
  | .int i, .int j => (match iLt (-1) j && iLt j 1000001 && small i with
    | true => .ok (.int (i * 2 ^ j.toNat)) h
    | false => .bad)
  | _, _ => .bad
/-- n += a, ints -/
def sAugI (i : Nat) (a : D) : DS := fun e h => match nth e i with
  | some (some (.int k)) => (match a e h with
    | .ok w h1 => (match w with
      | .int j => .nx (setN e i (some (.int (k + j)))) h1
      | _ => .bad)
    | .ex x h1 => .ex x e h1
    | .bad => .bad)
  | _ => .bad
def sumI : List Int → Int
  | [] => 0
  | i :: r => i + sumI r
/-- sum([..]), any([..]) -/
def cSum (c : DL) : D := fun e h => (c e h).bind fun l h1 => match Nat.ble (len l) LIM with
  | true => (match intsO l with
    | some is => .ok (.int (sumI is)) h1
    | none => .bad)
  | false => .bad
def anyB : List W → Option Bool
  | [] => some false
  | w :: r => match w with
    | .bl b => (match anyB r with
      | some c => some (b || c)
      | none => none)
    | _ => none
def cAny (c : DL) : D := fun e h => (c e h).bind fun l h1 => match Nat.ble (len l) LIM with
  | true => bo (anyB l) h1
  | false => .bad
/-- sum(l) -/
def bSum : Bi := fun ws h => match ws with
  | [.ref n] => (match h.seq n with
    | some l => (match intsO l with
      | some is => .ok (.int (sumI is)) h
      | none => .bad)
    | none => .bad)
  | _ => .bad
/-- x[::-1] -/
def dRev (a : D) : D := fun e h => (a e h).bind fun x h1 => match x with
  | .tup l => (match Nat.blt 1 (len l) && short l with
    | true => .ok (.tup (rv l [])) h1
    | false => (match l with
      | [] => .ok (.tup []) h1
      | [w] => .ok (.tup [w]) h1
      | _ => .bad))
  | .ref n => (match h1.seq n with
    | some l => (match short l with
      | true => mk (.lst (rv l [])) h1
      | false => .bad)
    | none => .bad)
  | _ => .bad
/-- every k-th of a list: what is left of the pace, 0: this one -/
def pace {α : Type} (k : Nat) : Nat → List α → List α
  | _, [] => []
  | 0, a :: r => a :: pace k (k - 1) r
  | n + 1, _ :: r => pace k n r
/-- l[a::k], l a list, 0 ≤ a, 1 < k -/
def dPace (a : D) (lo : D) (k : Nat) : D := fun e h => (a e h).bind fun x h1 => (lo e h1).bind fun y h2 => match x with
  | .ref n => (match h2.seq n with
    | some l => (match y with
      | .int i => (match i with
        | .ofNat m => (match short l with
          | true => mk (.lst (pace k m l)) h2
          | false => .bad)
        | .negSucc _ => .bad)
      | _ => .bad)
    | none => .bad)
  | _ => .bad
/-- pairs of a display -/
abbrev DP := E → Hq → Rs (List (W × W))
def pNil : DP := fun _ h => .ok [] h
def pCons (k v : D) (r : DP) : DP := fun e h => (k e h).bind fun x h1 => (v e h1).bind fun y h2 => (r e h2).bind fun xs h3 => .ok ((x, y) :: xs) h3
def keysO : List (W × W) → Option (List (Key × W))
  | [] => some []
  | (k, v) :: r => match keyO k with
    | some j => (match keysO r with
      | some l => some ((j, v) :: l)
      | none => none)
    | none => none
def mrgK (l : List (Key × W)) : List (Key × W) → List (Key × W)
  | [] => l
  | (k, v) :: r => mrgK (putG kEq l k v) r
/-- {k: v, ..} -/
def dDisp (p : DP) : D := fun e h => (p e h).bind fun l h1 => match Nat.ble (len l) 15 with
  | true => (match keysO l with
    | some ks => mk (.dk (mrgK [] ks)) h1
    | none => .bad)
  | false => .bad
/-- {..} of ints -/
def cSet (c : DL) : D := fun e h => (c e h).bind fun l h1 => match Nat.ble (len l) 60 with
  | true => (match intsO l with
    | some is => mk (.st (ddI is [])) h1
    | none => .bad)
  | false => .bad
/-- len of whatever, a set too -/
def bLen2 : Bi := fun ws h => match ws with
  | [.ref n] => (match h.get n with
    | some (.st l) => (match Nat.blt (len l) 1000 with
      | true => .ok (.int (Int.ofNat (len l))) h
      | false => .bad)
    | _ => bLen ws h)
  | _ => bLen ws h
/-- those of just one of both -/
def sdI (a b : List Int) : List Int → List Int
  | [] => []
  | x :: r => match memI b x with
    | true => sdI a b r
    | false => x :: sdI a b r
def smI (l : List Int) : Bool := match l with
  | [] => true
  | i :: r => (match i with
    | .ofNat m => Nat.blt m 1000000
    | .negSucc _ => false) && smI r
/-- sorted(set(a) ^ set(b)), tuples of small ints -/
def dXr (a b : D) : D := fun e h => (a e h).bind fun x h1 => match x with
  | .tup l => (match intsO l with
    | some is => (match smI is && Nat.ble (len is) 30 with
      | true => (b e h1).bind fun y h2 => (match y with
        | .tup r => (match intsO r with
          | some js => (match smI js && Nat.ble (len js) 30 with
            | true => mk (.lst (mpI (srtI (app (sdI is js (ddI is [])) (sdI js is (ddI js []))) []))) h2
            | false => .bad)
          | none => .bad)
        | _ => .bad)
      | false => .bad)
    | none => .bad)
  | _ => .bad
end PW
namespace PW
open PySem
/-- rows of ints -/
def rowsO : List W → Option (List (List Int))
  | [] => some []
  | w :: r => match w with
    | .tup l => (match intsO l with
      | some is => (match rowsO r with
        | some rs => some (is :: rs)
        | none => none)
      | none => none)
    | _ => none
def lqI : List Int → List Int → Bool
  | [], [] => true
  | a :: l, b :: r => match iEq a b with
    | true => lqI l r
    | false => false
  | _, _ => false
def lexR : List (List Int) → List (List Int) → Bool
  | [], [] => false
  | [], _ :: _ => true
  | _ :: _, [] => false
  | x :: xs, y :: ys => match lqI x y with
    | true => lexR xs ys
    | false => lexLt x y
/-- min(t, u), tuples of tuples of ints; else as bMin -/
def bMinT : Bi := fun ws h => match ws with
  | [.tup l, .tup r] => (match rowsO l with
    | some xss => (match rowsO r with
      | some yss => .ok (.tup (match lexR yss xss with
        | true => r
        | false => l)) h
      | none => .bad)
    | none => .bad)
  | _ => .bad
end PW

set_option Elab.async false
set_option linter.all false
set_option maxRecDepth 100000
set_option maxHeartbeats 1000000
/-! PXa: ^ & << of ints, n += a, sum, any. -/
namespace PW
open PySem PySem.Spec PyProof.Rows L2
theorem bitD {i : Int} (h : bitI i = true) : i = 0 ∨ i = 1 := by
  cases i with
  | ofNat m =>
    have h : Nat.blt m 2 = true := h
    rw [bltD] at h
    have : m < 2 := of_decide_eq_true h
    rcases (by omega : m = 0 ∨ m = 1) with rfl | rfl
    · exact .inl rfl
    · exact .inr rfl
  | negSucc m => cases h
section
variable {X : Cx} {G : G0} {pn : List PinT} {Wx : WX} {pos pos' p p2 : Pos} {a b e : Expr} {es : List Expr} {da db : D} {dl c : DL}
theorem osXor : OpS X G (binaryOp .BitXor) oXor := int2 (cnd := fun i j => bitI i && bitI j) (gv := fun i j => .int (xorI i j)) (gV := fun i j => .int (xorI i j)) (C := fun i j => (i = 0 ∨ i = 1) ∧ (j = 0 ∨ j = 1)) (fun x y h => by cases x <;> cases y <;> rfl) (fun _ _ _ i j => .int _) (fun i j h => by
  rw [Bool.and_eq_true] at h
  exact ⟨bitD h.1, bitD h.2⟩) (by
  intro pins s σ H x y v u Q I rx ry ⟨i, j, e1, e2, ⟨hi, hj⟩, q⟩
  refine op_xor pins s σ H x y v u Q I rx ry ⟨i, j, e1, e2, ?_⟩
  rcases hi with rfl | rfl <;> rcases hj with rfl | rfl <;> exact q)
theorem osAnd : OpS X G (binaryOp .BitAnd) oAnd := int2 (cnd := fun i j => bitI i && bitI j) (gv := fun i j => .int (andI i j)) (gV := fun i j => .int (andI i j)) (C := fun i j => (i = 0 ∨ i = 1) ∧ (j = 0 ∨ j = 1)) (fun x y h => by cases x <;> cases y <;> rfl) (fun _ _ _ i j => .int _) (fun i j h => by
  rw [Bool.and_eq_true] at h
  exact ⟨bitD h.1, bitD h.2⟩) (by
  intro pins s σ H x y v u Q I rx ry ⟨i, j, e1, e2, ⟨hi, hj⟩, q⟩
  refine op_and pins s σ H x y v u Q I rx ry ⟨i, j, e1, e2, ?_⟩
  rcases hi with rfl | rfl <;> rcases hj with rfl | rfl <;> exact q)
theorem osShl : OpS X G (binaryOp .LShift) oShl := int2 (cnd := fun i j => iLt (-1) j && iLt j 1000001 && small i) (gv := fun i j => .int (i * 2 ^ j.toNat)) (fun x y h => by cases x <;> cases y <;> rfl) (fun _ _ _ i j => .int _) (fun i j h => by
  rw [iLtD, iLtD, Bool.and_eq_true, Bool.and_eq_true] at h
  have h1 : -1 < j := of_decide_eq_true h.1.1
  have h2 : j < 1000001 := of_decide_eq_true h.1.2
  have h3 := smallD h.2
  exact ⟨by omega, by omega, by omega⟩) op_shl
/-- n += a -/
theorem ss_aug (i : Nat) {x : Str} (C : Cs X Wx) (ha : SE X G pn Wx a da) (hi : X.N[i]? = some x := by rfl) (hx : Loc X.env.scope x := by first | exact Or.inl rfl | exact Or.inr rfl)
    (hf : X.fn x = true ∨ X.env.scope.names.lookup x = some .local := by first | exact .inl rfl | exact .inr rfl | assumption) (hp : ∀ p ∈ pn, p.1 ≠ i := by simp) :
    SS X G pn Wx (.AugAssign (.Name x pos') .Add a pos) (sAugI i da) := PS.imp (ps_aug C.nd hi hx ha ip_add hf) fun D σ H q => by
  obtain ⟨ρ, e, h, re, rh, f⟩ := q
  unfold sAugI at f
  rw [nthD] at f
  cases qe : e[i]? with
  | none => rw [qe] at f; exact f.elim
  | some o =>
    cases o with
    | none => rw [qe] at f; exact f.elim
    | some w =>
      rw [qe] at f
      obtain ⟨v, h1, h2⟩ := re.at_ i w qe
      cases h2 <;> first | exact f.elim | skip
      rename_i k
      dsimp only at f
      refine ⟨_, h1, ρ, e, h, re, rh, ?_⟩
      cases qa : da e h with
      | bad => rw [qa] at f; exact f
      | ex z h1 =>
        rw [qa] at f
        exact fun ρ' H' cls d x rh' rx => f ρ' H' σ cls d x rh' (re.ext x) rx
      | ok w2 h3 =>
        rw [qa] at f
        dsimp only at f
        intro ρ' H' v2 x rh' rw2
        cases rw2 <;> first | exact f.elim | skip
        rename_i j
        exact ⟨k, j, rfl, rfl, f ρ' H' _ x rh' ((re.ext x).set (.int _) hp)⟩
theorem sumI_D : ∀ l, sumI l = l.sum
  | [] => rfl
  | i :: r => by show i + sumI r = _; rw [sumI_D r]; rfl
theorem anyB_v {g : Gc} {ρ : List Addr} {H : Hp} : ∀ {l : List W} {vs : List V} {b : Bool}, RWs g ρ H l vs → anyB l = some b → ∃ bs : List Bool, vs = bs.map V.bl ∧ bs.any id = b
  | _, _, b, .nil, e => by simp only [anyB, Option.some.injEq] at e; subst e; exact ⟨[], rfl, rfl⟩
  | w :: l, _, b, .cons h r, e => by
    unfold anyB at e
    cases h <;> first | cases e; done | skip
    rename_i k
    dsimp only at e
    cases q : anyB l with
    | none => rw [q] at e; cases e
    | some c =>
      rw [q] at e
      simp only [Option.some.injEq] at e
      obtain ⟨bs, h1, h2⟩ := anyB_v r q
      exact ⟨k :: bs, by rw [h1]; rfl, by rw [List.any_cons, h2]; exact e⟩
/-- sum([..]) -/
theorem se_call_sum (C : Cs X Wx) (g : X.mg "sum" = none) (hs : SC X G pn Wx e c) (hg : Gl X "sum" := by rfl) (na : starEach (e :: []) X.env = (false, eval e X.env) :: starEach [] X.env := by rfl) (hpl : (backTo pos (starEach [] X.env)).any (·.1) = false := by rfl) :
    SE X G pn Wx (.Call (.Name "sum" p) [e] [] pos) (cSum c) := PE.imp (pe_callB (cr_sum C.calm) hg g PyProof.Rows.boot_sum (pa_cons hs pa_nil na) (by decide) (by decide) na hpl) fun σ H Q q => by
  show rdC (gx X G) pn Wx c σ H _
  refine rdC.imp q fun ρ e h re rh a => ?_
  unfold cSum at a
  cases qc : c e h with
  | bad => rw [qc] at a; exact a
  | ex x h1 => rw [qc] at a; exact a
  | ok l h1 =>
    rw [qc] at a
    intro ρ1 H1 D vs x1 rh1 rs eD nD h0
    simp only [Rs.bind] at a
    rw [bleD, lenD] at a
    by_cases ql : l.length ≤ LIM
    · rw [decide_eq_true ql] at a
      dsimp only at a
      cases q3 : intsO l with
      | none => rw [q3] at a; exact a.elim
      | some is =>
        rw [q3] at a
        obtain ⟨_, h4⟩ := intsO_vs rs q3
        subst h4
        exact ⟨D, is, rfl, .of eD, by rw [← sumI_D]; exact a.go x1 rh1 (.int _)⟩
    · rw [decide_eq_false ql] at a; exact a.elim
/-- any([..]) -/
theorem se_call_any (C : Cs X Wx) (g : X.mg "any" = none) (hs : SC X G pn Wx e c) (hg : Gl X "any" := by rfl) (na : starEach (e :: []) X.env = (false, eval e X.env) :: starEach [] X.env := by rfl) (hpl : (backTo pos (starEach [] X.env)).any (·.1) = false := by rfl) :
    SE X G pn Wx (.Call (.Name "any" p) [e] [] pos) (cAny c) := PE.imp (pe_callB (cr_any C.calm) hg g PyProof.Rows.boot_any (pa_cons hs pa_nil na) (by decide) (by decide) na hpl) fun σ H Q q => by
  show rdC (gx X G) pn Wx c σ H _
  refine rdC.imp q fun ρ e h re rh a => ?_
  unfold cAny at a
  cases qc : c e h with
  | bad => rw [qc] at a; exact a
  | ex x h1 => rw [qc] at a; exact a
  | ok l h1 =>
    rw [qc] at a
    intro ρ1 H1 D vs x1 rh1 rs eD nD h0
    simp only [Rs.bind] at a
    rw [bleD, lenD] at a
    by_cases ql : l.length ≤ LIM
    · rw [decide_eq_true ql] at a
      dsimp only at a
      cases q3 : anyB l with
      | none => rw [q3] at a; exact a.elim
      | some b =>
        rw [q3] at a
        obtain ⟨bs, h4, h5⟩ := anyB_v rs q3
        subst h4
        exact ⟨D, bs, rfl, .of eD, by rw [h5]; exact a.go x1 rh1 (.bl _)⟩
    · rw [decide_eq_false ql] at a; exact a.elim
/-- sum(l) -/
theorem bSum_s : BiS X G (rSum X.K) bSum := by
  intro Wx σ ρ H h ws vs Q rh rs0 af
  obtain ⟨w, v, rfl, rfl, r⟩ := rw1 rs0 (fun ws h hn => by unfold bSum; split <;> first | exact (hn _ rfl).elim | rfl) af
  unfold bSum at af
  cases r <;> first | exact af.elim | skip
  case ref n a hn =>
    dsimp only at af
    cases q : h.seq n with
    | none => rw [q] at af; exact af.elim
    | some l =>
      rw [q] at af
      obtain ⟨a', vs, e1, rs, h2⟩ := lstOf_v (w := .ref n) rh (.ref hn) q
      cases e1
      dsimp only at af
      cases q3 : intsO l with
      | none => rw [q3] at af; exact af.elim
      | some is =>
        rw [q3] at af
        obtain ⟨_, h4⟩ := intsO_vs rs q3
        subst h4
        rcases h2 with ⟨z, _⟩ | ⟨_, h2⟩
        · cases z
        · exact ⟨a, is, rfl, h2, by rw [← sumI_D]; exact af.go .refl rh (.int _)⟩
theorem se_bSum (C : Cs X Wx) (g : X.mg "sum" = none) (hl : SL X G pn Wx (a :: es) dl) (hg : Gl X "sum" := by rfl) (he : starEach (a :: es) X.env = (false, eval a X.env) :: starEach es X.env := by rfl) (hpl : (backTo pos (starEach es X.env)).any (·.1) = false := by rfl) :
    SE X G pn Wx (.Call (.Name "sum" p) (a :: es) [] pos) (dB bSum dl) := PE.imp (pe_callB (cr_sum C.calm) hg g PyProof.Rows.boot_sum hl (by decide) (by decide) he hpl) fun σ H Q q => rd_bi bSum_s q
end
end PW

set_option Elab.async false
set_option linter.all false
set_option maxRecDepth 100000
set_option maxHeartbeats 1000000
/-! PXb: x[::-1], l[a::k]. -/
namespace HT
end HT
namespace L2
open PySem PySem.Spec PyProof.Rows
section
variable {prog : Program} {w : World} {A : Around} {E : Value → Shared → Prop} {s : Shared}
theorem sliceApplied_rev {sl : Addr} {vs : Value} {n : Nat} {Q : Int × Int × Nat → Shared → Prop} (hs : s.heap.IsSliceOf sl .none .none vs) (ps : IsPart vs (some (-1)))
    (h : Q ((n : Int) - 1, -1, n) s) : wpAny (model prog w) A (Builtin.Slice.sliceApplied (.ref sl) (pure (n : Int))) Q E s := by
  obtain ⟨os, hos, hcs, hds⟩ := id hs
  unfold Builtin.Slice.sliceApplied Builtin.Slice.sliceFields
  refine wpAny_bind (wpAny_bind (wpAny_field hos hds (x := .none) rfl (wpAny_bind (wpAny_field hos hds (x := .none) rfl (wpAny_bind (wpAny_field hos hds (x := vs) rfl (wpAny_pure ?_)))))))
  refine wpAny_bind (HT.slicePart_ ps ?_)
  show wpAny _ _ (if ((-1 : Int) == 0) = true then _ else _) _ _ s
  rw [if_neg (by decide)]
  refine wpAny_bind (slicePart_none (wpAny_bind (slicePart_none (wpAny_bind (wpAny_pure ?_)))))
  show wpAny _ _ (match Builtin.Slice.sliceAdjust none none (-1) (n : Int) with | (lo, hi) => pure (lo, (-1 : Int), Builtin.Slice.slicePlaces lo hi (-1))) _ _ s
  have e : Builtin.Slice.sliceAdjust none none (-1) (n : Int) = ((n : Int) - 1, -1) := by
    unfold Builtin.Slice.sliceAdjust
    rfl
  rw [e]
  show wpAny _ _ (pure ((n : Int) - 1, (-1 : Int), Builtin.Slice.slicePlaces ((n : Int) - 1) (-1) (-1))) _ _ s
  have e2 : Builtin.Slice.slicePlaces ((n : Int) - 1) (-1) (-1) = n := by
    unfold Builtin.Slice.slicePlaces
    have h1 : ¬ ((-1 : Int) > 0) := by omega
    simp only [h1, if_false]
    rw [show (- -1 : Int) = 1 from rfl, Int.ediv_one]
    split <;> omega
  rw [e2]
  exact wpAny_pure h
theorem fm_map {α β : Type} {f : α → Option β} {g : α → β} : ∀ l : List α, (∀ x ∈ l, f x = some (g x)) → l.filterMap f = l.map g
  | [], _ => rfl
  | a :: r, h => by
    rw [List.filterMap_cons_some (h a (by simp)), List.map_cons, fm_map r fun x hx => h x (by simp [hx])]
theorem pick_rev (xs : Array Value) : ((List.range xs.size).filterMap fun (k : Nat) => xs[((xs.size : Int) - 1 + (k : Int) * -1).toNat]?).toArray = xs.toList.reverse.toArray := by
  congr 1
  have e : ∀ l : List Value, (List.range l.length).filterMap (fun (k : Nat) => l.toArray[((l.length : Int) - 1 + (k : Int) * -1).toNat]?) = l.reverse := by
    intro l
    apply List.ext_getElem?
    intro i
    have hm : (List.range l.length).filterMap (fun (k : Nat) => l.toArray[((l.length : Int) - 1 + (k : Int) * -1).toNat]?) = (List.range l.length).map (fun k => l.getD (l.length - 1 - k) .none) := by
      apply fm_map
      intro k hk
      have hk : k < l.length := List.mem_range.mp hk
      have : ((l.length : Int) - 1 + (k : Int) * -1).toNat = l.length - 1 - k := by omega
      rw [this]
      have hlt : l.length - 1 - k < l.length := by omega
      show l.toArray[l.length - 1 - k]? = some _
      rw [List.getElem?_toArray, List.getElem?_eq_getElem hlt, List.getD_eq_getElem?_getD, List.getElem?_eq_getElem hlt]
      rfl
    rw [hm, List.getElem?_map]
    by_cases hi : i < l.length
    · rw [List.getElem?_range hi, List.getElem?_reverse hi]
      have hlt : l.length - 1 - i < l.length := by omega
      show some (l.getD (l.length - 1 - i) .none) = _
      rw [List.getD_eq_getElem?_getD, List.getElem?_eq_getElem hlt]
      rfl
    · rw [List.getElem?_eq_none_iff.mpr (by rw [List.length_range]; omega), List.getElem?_eq_none_iff.mpr (by rw [List.length_reverse]; omega)]
      rfl
  have := e xs.toList
  rw [Array.length_toList] at this
  exact this
theorem getItem_tuple_rev {t sl : Addr} {items : Array Value} {vs : Value} {Q : Value → Shared → Prop} (ht : IsTup s.heap t items) (hs : s.heap.IsSliceOf sl .none .none vs) (ps : IsPart vs (some (-1)))
    (h : Q (.ref s.heap.objs.size) { s with heap := s.heap.push { cls := .type "tuple", data := .seq items.toList.reverse.toArray } })
    (hsz : items.size ≤ sizeLine) : wpAny (model prog w) A (getItem (.ref t) (.ref sl)) Q E s := by
  have htake : sizeOk (.seq items.toList.reverse.toArray) := by
    show items.toList.reverse.toArray.size ≤ sizeLine
    rw [List.size_toArray, List.length_reverse, Array.length_toList]
    exact hsz
  obtain ⟨os, hos, hcs, hds⟩ := id hs
  have hTs : s.TypeIs (.ref sl) "slice" := ⟨os, hos, hcs⟩
  unfold getItem
  try with_reducible refine wpAny_holding ?_
  first | refine wpAny_bind (wpAny_pure ?_) | skip
  refine wpAny_bind (wpAny_sequenceKey ht.typeIs (by decide) ?_)
  refine wpAny_bind (wpAny_callSpecial?_slot (name := Str.ofString "__getitem__") ht.typeIs PyProof.Rows.slot_tuple_getitem
    (wpAny_call_entry PyProof.Rows.slot_tuple_getitem ht.typeIs entry_tuple_getitem ?_ (args_tuple_getitem _ _)))
  show wpAny _ _ (Builtin.Tuple.tupleItemsOf (.ref t) >>= _) _ _ s
  refine wpAny_bind (tupleItemsOf_ ht ?_)
  refine wpAny_bind (wpAny_typeOf hTs ?_)
  rw [if_pos (by decide)]
  refine wpAny_bind (sliceApplied_rev hs ps ?_)
  have hno : ¬ ((((items.size : Int) - 1) == 0 && (-1 : Int) == 1 && items.size == items.size) = true) := by
    intro q
    rw [Bool.and_eq_true, Bool.and_eq_true] at q
    exact absurd q.1.2 (by decide)
  show wpAny _ _ (if (((items.size : Int) - 1) == 0 && (-1 : Int) == 1 && items.size == items.size) = true then _ else _) _ _ s
  rw [if_neg hno, pick_rev]
  first
    | exact wpAny_bind (m := Builtin.Tuple.tupleExact _) (wpAny_newObj_type (wpAny_pure ⟨_, rfl, wpAny_pure h⟩) htake)
    | exact wpAny_bind (m := Builtin.Tuple.tupleExact _) (wpAny_newObj_type (wpAny_bind (wpAny_pure (wpAny_pure ⟨_, rfl, wpAny_pure h⟩))) htake)
    | exact wpAny_bind (wpAny_bind (m := Builtin.Tuple.tupleExact _) (wpAny_newObj_type (wpAny_pure (wpAny_pure ⟨_, rfl, wpAny_pure h⟩)) htake))
    | exact wpAny_bind (wpAny_bind (m := Builtin.Tuple.tupleExact _) (wpAny_newObj_type (wpAny_pure ⟨_, rfl, wpAny_pure h⟩) htake))
end
section
variable {X : Cx}
/-- x[::-1], a list or a tuple -/
def tRevB (K : PySem.W.Frag) (te : TE) : TE := fun σ H Q => te σ H fun x H1 => ∃ a xs, x = .ref a ∧ ((SqL K H1 a xs ∧ ∀ p, H1 p = none → Q (.ref p) (upd H1 p (.lst xs.reverse))) ∨ (SqT K H1 a xs ∧ ∀ p, H1 p = none → Q (.ref p) (upd H1 p (.tup xs.reverse))))
theorem pe_revB {e : Expr} {te : TE} {k : Nat} {p1 p2 p3 pos : Pos} (he : PE X e te) : PE X (.Subscript e (.Slice none none (some (.UnaryOp .USub (.Constant (.int 1) k p1) p2)) p3) pos) (tRevB X.K te) := by
  refine ⟨fun pins s σ H Q I h => ?_⟩
  refine Subscript_ (thn (he.run pins s σ H _ I h) fun v s1 ⟨x, H1, I1, r1, q1⟩ => ?_)
  obtain ⟨a, xs, ex, hx⟩ := q1
  subst ex
  cases r1
  have hst : PO X (some (.UnaryOp .USub (.Constant (.int 1) k p1) p2)) (tPart (tUn (rU fun i => .int (-i)) (tC (.int 1)))) := po_some (pe_un un_neg pe_int)
  refine wpAny_Slice (thn (po_none.run pins s1 σ H1 (fun o H2 => o = none ∧ H2 = H1) I1 ⟨rfl, rfl⟩) fun vl s2 ⟨l, H2, I2, pl, el, e2⟩ => ?_)
  subst el e2
  refine thn (po_none.run pins s2 σ H2 (fun o H3 => o = none ∧ H3 = H2) I2 ⟨rfl, rfl⟩) fun vu s3 ⟨u, H3, I3, pu, eu, e3⟩ => ?_
  subst eu e3
  refine thn (hst.run pins s3 σ H3 (fun o H4 => o = some (-1) ∧ H4 = H3) I3 ⟨1, rfl, -1, rfl, rfl, rfl⟩) fun vs s4 ⟨o, H4, I4, ps, eo, e4⟩ => ?_
  subst eo e4
  have I5 : Inv X pins σ H4 { s4 with heap := s4.heap.push { cls := .type "slice", data := .fields #[vl, vu, vs] } } := I4.kept (t' := s4.toks) fun b ob q => Heap.get?_push_of_some _ q
  show wpAny (model X.prog X.w) X.A (subscriptTail e (.Slice none none (some (.UnaryOp .USub (.Constant (.int 1) k p1) p2)) p3) (.ref a) (.ref s4.heap.objs.size)) (EP X pins σ Q) X.xe { s4 with heap := s4.heap.push { cls := .type "slice", data := .fields #[vl, vu, vs] } }
  rcases hx with ⟨hx, q⟩ | ⟨hx, q⟩
  · obtain ⟨its, r, ht, hz⟩ := I5.list hx
    have hlen := r.length
    refine tail_any (ops := [.ref a, .ref s4.heap.objs.size]) ht.isList.typeIs (PySem.slot_list_getitem.lookup) ?_ (by with_unfolding_all rfl)
    refine wpAny_getItem_list_slice ht.isList (Heap.IsSliceOf.new _ vl vu vs) pl pu ps (by decide) ?_ (by rw [List.size_toArray]; omega)
    rw [PySem.W.krv_pick]
    refine ⟨.ref _, _, I5.laid (t' := s4.toks) (o := .lst xs.reverse) (fun b ob q => Heap.get?_push_of_some _ q) (Nat.le_refl _) ?_, rfl, q _ (I5.hok.fresh (Nat.le_refl _))⟩
    exact ⟨by rw [List.length_reverse]; exact hz, _, 0, r.reverse, Heap.get?_push_size _ rfl⟩
  · obtain ⟨its, r, ht, hz⟩ := I5.tuple hx
    have hlen := r.length
    have el : vl = .none := by cases pl; rfl
    have eu : vu = .none := by cases pu; rfl
    subst el eu
    refine tail_any (ops := [.ref a, .ref s4.heap.objs.size]) ht.typeIs (PyProof.Rows.slot_tuple_getitem.lookup) ?_ (by with_unfolding_all rfl)
    refine getItem_tuple_rev ht (Heap.IsSliceOf.new _ .none .none vs) ps ?_ (by rw [List.size_toArray]; omega)
    refine ⟨.ref _, _, I5.laid (t' := s4.toks) (o := .tup xs.reverse) (fun b ob q => Heap.get?_push_of_some _ q) (Nat.le_refl _) ?_, rfl, q _ (I5.hok.fresh (Nat.le_refl _))⟩
    refine ⟨by rw [List.length_reverse]; exact hz, its.reverse, r.reverse, ?_⟩
    have e : its.toArray.toList.reverse.toArray = its.reverse.toArray := by simp
    rw [e]
    exact ⟨_, Heap.get?_push_size _ rfl, rfl, 0, rfl⟩
end
end L2
namespace PW
open PySem PySem.Spec PyProof.Rows L2
section
variable {X : Cx} {G : G0} {pn : List PinT} {Wx : WX} {a : Expr} {da : D}
theorem se_rev {k : Nat} {p1 p2 p3 pos : Pos} (ha : SE X G pn Wx a da) : SE X G pn Wx (.Subscript a (.Slice none none (some (.UnaryOp .USub (.Constant (.int 1) k p1) p2)) p3) pos) (dRev da) := PE.imp (pe_revB ha) fun σ H Q q => by
  refine (rd.bind q).imp ?_
  rintro x H1 ⟨ρ, e, wx, h, re, rh, rx, af⟩
  cases rx <;> first | exact af.elim | skip
  case tup l t vs ht rs =>
    have e : (∀ p, H1 p = none → Q (.ref p) (upd H1 p (.tup vs.reverse))) := fun p hp => by
      have hr : RWs (gx X G) ρ H1 l.reverse vs.reverse := rs.rev
      dsimp only at af
      by_cases ql : (Nat.blt 1 (len l) && short l) = true
      · rw [ql, rvD, List.append_nil] at af
        exact aft_tup af rh hr hp
      · rw [Bool.not_eq_true] at ql
        rw [ql] at af
        cases l with
        | nil => exact aft_tup af rh hr hp
        | cons w l =>
          cases l with
          | nil => exact aft_tup af rh hr hp
          | cons w2 l => exact af.elim
    exact ⟨t, vs, rfl, .inr ⟨ht.sq, e⟩⟩
  case ref n p hn =>
    dsimp only at af
    cases q : h.seq n with
    | none => rw [q] at af; exact af.elim
    | some l =>
      rw [q] at af
      obtain ⟨a', vs, e1, rs, h2⟩ := lstOf_v (w := .ref n) rh (.ref hn) q
      cases e1
      dsimp only at af
      rw [shortD] at af
      by_cases ql : l.length ≤ LIM
      · rw [decide_eq_true ql, rvD, List.append_nil] at af
        rcases h2 with ⟨z, _⟩ | ⟨_, h2⟩
        · cases z
        · exact ⟨_, vs, rfl, .inl ⟨h2, fun p hp => aft_lst af rh rs.rev hp⟩⟩
      · rw [decide_eq_false ql] at af; exact af.elim
end
end PW

set_option Elab.async false
set_option linter.all false
set_option maxRecDepth 100000
set_option maxHeartbeats 1000000
/-! PXc: displays of dicts; sets of ints as values, their length. -/
namespace L2
open PySem PySem.Spec PyProof.Rows
section
variable {X : Cx}
def rLenO (w : World) : List V → Hp → VK → Prop := fun xs H Q => ∃ (a : Addr) (S : Int → Bool) (n : Nat), xs = [V.ref a] ∧ H a = some (SetO w a S n) ∧ n < 1000 ∧ Q (.int (n : Nat)) H
theorem cr_lenO : CallR X (.builtin "len") (rLenO X.w) := by
  intro pins s σ H vs us Q I r h
  obtain ⟨a, S, n, rfl, e, hn, q⟩ := h
  obtain ⟨u, rfl, ru⟩ := vals1 r
  cases ru
  obtain ⟨o, es, ep, t, ho, hex, hd, _, _, _, _, hf, hs, _⟩ := setO_get I e
  refine call_len_set ho hex hd hf (by rw [hs]; omega) ⟨.int (n : Nat), H, I.tok _, ⟨_, by rw [hs]⟩, q⟩
theorem swS_true {elt : Expr} {gs : List Comprehension} {scope : Scope} {pos py : Pos} {y : Str} {l : Nat} {env : Env} (hk : env.scope.kind = .function) (hy : env.scope.names.lookup y = some .local) (hl : (py.line == pos.line) = true)
    (ha : (scope.names.any fun (n, k) => n == y && (k == .local || k == .cell)) = false) : swapsWith (.SetComp elt gs scope pos) (some (.Name y py)) l env = pure true := by
  have ky : env.kindOf y = some .local := hy
  have hb : env.blockKind = .function := by unfold Env.blockKind; rw [hk]; rfl
  unfold swapsWith
  simp only [hb, ky, ha, Expr.pos, hl]
  rfl
end
end L2
namespace PW
open PySem PySem.Spec PyProof.Rows L2
section
variable {X : Cx}
/-- name = {..} on one line, the name a local -/
theorem ps_setSc {i : Nat} {y : Str} {py : Pos} {elt tg iter : Expr} {ifs : List Expr} {scope : Scope} {own : List (Str × Nat)} {pos spos : Pos} {wi : TI} {g : TG} {tt : TT} {te : TE} (hc : X.calm = true) (hN : X.N.Nodup) (hy : X.N[i]? = some y) (hyl : X.env.scope.names.lookup y = some .local)
    (hsw : swapsWith (.SetComp elt [⟨tg, iter, ifs, 0⟩] scope pos) (some (.Name y py)) spos.line X.env = pure true) (hi : PI X tg iter wi) (ok : BlkOk X.N X.env.scope scope own)
    (hg : ∀ (s : Shared) (H : Hp) (C : Addr) (cl : List (Str × Addr)) (fp : List Addr), PG (X.blk s H scope (compEnvC scope cl C X.env) fp) tg g) (ht : ∀ (s : Shared) (H : Hp) (C : Addr) (cl : List (Str × Addr)) (fp : List Addr), PTs (X.blk s H scope (compEnvC scope cl C X.env) fp) ifs tt)
    (he : ∀ (s : Shared) (H : Hp) (C : Addr) (cl : List (Str × Addr)) (fp : List Addr), PE (X.blk s H scope (compEnvC scope cl C X.env) fp) elt te) (hs : ∀ x, foldedSetIterable iter X.env x = pure x := by intro _; rfl) :
    PS X (.Assign [.Name y py] (.SetComp elt [⟨tg, iter, ifs, 0⟩] scope pos) spos) (tAsg (tScI X.w wi g tt te (own.map (·.2))) (gName i)) := by
  refine ⟨fun pins s σ H D I h => ?_⟩
  rw [exec_Assign_Name_used _ _ _ _ hsw]
  refine wpAny_bind (wpAny_standAt (wpAny_bind ?_))
  show wpAny _ X.A (do let _ ← comprehension (.SetComp elt [⟨tg, iter, ifs, 0⟩] scope pos) scope X.env (firstIterPos [⟨tg, iter, ifs, 0⟩] pos) (newSet (.type "set")) false (eval iter X.env) (some (assign (.Name y py) X.env))) _ _ s
  have h : tScI X.w wi g tt te (own.map (·.2)) σ H (fun x H1 => gName i x σ H1 D.nx) := h
  refine wpAny_bind (thn (sci_core (Qf := fun _ s' => SP X pins D .next s') hc hN I hi ok hg ht he hs h fun L C s' m H' I' q hn f => ?_) fun _ s' hq => wpAny_pure (wpAny_pure hq))
  show wpAny _ _ (assign (.Name y py) X.env (.ref L)) _ _ _
  refine wpAny_assign_Name (store_ok2 (v := V.ref L) I' hN hy (.inl hyl) rfl (fun s2 I2 ⟨a, sb, ha⟩ => ?_) (.inr hyl))
  obtain ⟨f0, f1, f2, f3, f4, f5⟩ := f
  have haC : C ≠ a := by
    rcases ha with z | z
    · rw [z]; exact f1
    · exact fun e => f4 y a z e.symm
  refine ⟨m, hn.sameBut sb haC, fun h3 sb3 => ?_⟩
  exact ⟨_, H', I2.turned (t' := s2.toks) (fun b o hb e => (sb3.2 b hb).trans e) f0 f1 f3 f4 f5, q⟩
end
section
variable {X : Cx} {G : G0} {pn : List PinT} {Wx : WX} {pos p p2 : Pos} {a : Expr} {es : List Expr} {da dk dv : D} {dl : DL} {dp : DP}
/-! ### {k: v} -/
def RPs (g : Gc) (ρ : List Addr) (H : Hp) (l : List (W × W)) (vs : List (V × V)) : Prop := Paired (fun p q => RW g ρ H p.1 q.1 ∧ RW g ρ H p.2 q.2) l vs
theorem RPs.ext {g : Gc} {ρ ρ' : List Addr} {H H' : Hp} (x : Ext ρ H ρ' H') {l : List (W × W)} {vs : List (V × V)} (r : RPs g ρ H l vs) : RPs g ρ' H' l vs := by
  unfold RPs at *
  induction r with
  | nil => exact .nil
  | cons h t ih => exact .cons ⟨h.1.ext x, h.2.ext x⟩ ih
structure SPs (X : Cx) (G : G0) (pn : List PinT) (Wx : WX) (pos : Pos) (keys : List (Option Expr)) (values : List Expr) (d : DP) : Prop where
  run : ∃ trs, PPs X pos keys values trs ∧ ∀ σ H Q, rd (gx X G) pn (RPs (gx X G)) Wx d σ H Q → tPairs trs σ H Q
theorem sps_nil : SPs X G pn Wx pos [] [] pNil := ⟨[], pps_nil, fun σ H Q q => by
  obtain ⟨ρ, e, h, re, rh, a⟩ := q
  exact a.go .refl rh .nil⟩
theorem sps_cons {k v : Expr} {ks : List (Option Expr)} {vs : List Expr} (hk : SE X G pn Wx k dk) (hv : SE X G pn Wx v dv) (hr : SPs X G pn Wx pos ks vs dp) : SPs X G pn Wx pos (some k :: ks) (v :: vs) (pCons dk dv dp) := by
  obtain ⟨trs, h1, h2⟩ := hr
  refine ⟨(rd (gx X G) pn (RW (gx X G)) Wx dk, rd (gx X G) pn (RW (gx X G)) Wx dv) :: trs, pps_cons hk hv h1, fun σ H Q q => ?_⟩
  refine (rd.bind q).imp ?_
  rintro x H1 ⟨ρ, e, wx, h, re, rh, rx, af⟩
  refine ⟨ρ, e, h, re, rh, (Aft.bind af).imp ?_⟩
  rintro y H2 ⟨ρ2, wy, h2', x2, rh2, ry, af2⟩
  refine h2 _ _ _ ⟨ρ2, e, h2', re.ext x2, rh2, (Aft.bind (rel := RPs (gx X G)) af2).imp ?_⟩
  rintro ps H3 ⟨ρ3, wps, h3, x3, rh3, rps, af3⟩
  exact af3.go .refl rh3 (.cons ⟨(rx.ext x2).ext x3, ry.ext x3⟩ rps)
theorem keysO_v {g : Gc} {ρ : List Addr} {H : Hp} : ∀ {l : List (W × W)} {vs : List (V × V)} {ks : List (Key × W)}, RPs g ρ H l vs → keysO l = some ks → ∃ kvs : List (L2.Key × V), vs = kvs.map (fun kv => (kV kv.1, kv.2)) ∧ RKs g ρ H ks kvs ∧ kvs.length = l.length
  | [], _, ks, .nil, e => by
    simp only [keysO, Option.some.injEq] at e
    subst e
    exact ⟨[], rfl, .nil, rfl⟩
  | (k, w) :: l, _, ks, .cons h t, e => by
    unfold keysO at e
    cases q : keyO k with
    | none => rw [q] at e; cases e
    | some j =>
      rw [q] at e
      dsimp only at e
      cases q2 : keysO l with
      | none => rw [q2] at e; cases e
      | some r =>
        rw [q2] at e
        cases e
        obtain ⟨kvs, e1, e2, e3⟩ := keysO_v (l := l) t q2
        rename_i b bs
        obtain ⟨b1, b2⟩ := b
        refine ⟨(j, b2) :: kvs, ?_, .cons h.2 e2, by simp [e3]⟩
        rw [List.map_cons, ← e1]
        have := keyO_v h.1 q
        dsimp only at this
        rw [this]
theorem mrgK_v {g : Gc} {ρ : List Addr} {H : Hp} : ∀ (more : List (Key × W)) {mv : List (L2.Key × V)} {l : List (Key × W)} {vs : List (L2.Key × V)}, RKs g ρ H more mv → RKs g ρ H l vs → RKs g ρ H (mrgK l more) (mergeK vs mv)
  | [], _, _, _, .nil, r => r
  | (k, w) :: more, (_, v) :: mv, l, vs, .cons h t, r => by
    have z : RKs g ρ H (mrgK (putG kEq l k w) more) (mergeK (putK vs k v) mv) := mrgK_v more t (putG_v kEqD h k r)
    exact z
theorem se_disp {keys : List (Option Expr)} {values : List Expr} (hp : SPs X G pn Wx pos keys values dp) (hall : keys.all (·.isSome) = true := by rfl) (hl : keys.length = values.length := by rfl) (h0 : keys ≠ [] := by exact nofun)
    (h15 : keys.length ≤ 15 := by decide) : SE X G pn Wx (.Dict keys values pos) (dDisp dp) := by
  obtain ⟨trs, h1, h2⟩ := hp
  refine PE.imp (pe_disp h1 hall hl h0 h15) fun σ H Q q p hp => ?_
  obtain ⟨ρ, e, h, re, rh, af⟩ := q
  have np : p ∉ ρ := fun z => by obtain ⟨u, e, _⟩ := rh.nt p z; rw [hp] at e; cases e
  have x0 : Ext ρ H ρ (upd H p (.dK [])) := .new hp
  refine h2 _ _ _ ⟨ρ, e, h, re.ext x0, rh.new hp, ?_⟩
  unfold dDisp at af
  cases qd : dp e h with
  | bad => rw [qd] at af; exact af
  | ex z h1 => rw [qd] at af; exact fun ρ' H' cls d x => af ρ' H' cls d (x0.trans x)
  | ok l h1 =>
    rw [qd] at af
    intro ρ2 H2 ps x2 rh2 rps
    have e2 : H2 p = some (.dK []) := x2.frame p _ upd_same np
    have np2 : p ∉ ρ2 := not_mem_ext x2 np upd_same
    simp only [Rs.bind] at af
    rw [bleD, lenD] at af
    by_cases ql : l.length ≤ 15
    · rw [decide_eq_true ql] at af
      dsimp only at af
      cases q3 : keysO l with
      | none => rw [q3] at af; exact af.elim
      | some ks =>
        rw [q3] at af
        dsimp only at af
        obtain ⟨kvs, k1, k2, k3⟩ := keysO_v rps q3
        refine ⟨e2, kvs, k1, by rw [k3]; exact ql, ?_⟩
        unfold mk at af
        rw [bltD] at af
        by_cases qn : h1.n < LINE
        · rw [decide_eq_true qn] at af
          have nt : ∀ kv : List (L2.Key × V), NT (.dK kv) := fun _ _ => nofun
          have rh3 : RH (gx X G) ρ2 h1 (upd H2 p (.dK (mergeK [] kvs))) := rh2.out np2 e2 (nt _)
          have x3 : Ext ρ H ρ2 (upd H2 p (.dK (mergeK [] kvs))) := (x0.trans x2).out (u := .dK []) hp
          have ht : Tus H2 (upd H2 p (.dK (mergeK [] kvs))) := fun a xs t q => by
            have : a ≠ p := fun z => by rw [z, e2] at q; cases q; cases t
            rw [upd_ne this]; exact q
          have up : ∀ (n : Nat) (a : Addr), ρ2[n]? = some a → (ρ2 ++ [p])[n]? = some a := fun n a z => by
            rw [List.getElem?_append_left (List.getElem?_eq_some_iff.mp z).1]; exact z
          have k2' : RKs (gx X G) (ρ2 ++ [p]) (upd H2 p (.dK (mergeK [] kvs))) ks kvs := k2.ext0 up ht
          refine af.go (x3.adopt hp) (rh3.adopt upd_same np2 qn (nt _) ⟨_, upd_same, mrgK_v ks k2' .nil⟩) (.ref ?_)
          rw [← rh2.len, List.getElem?_append_right (Nat.le_refl _)]
          simp
        · rw [decide_eq_false qn] at af; exact af.elim
    · rw [decide_eq_false ql] at af; exact af.elim
end
end PW

set_option Elab.async false
set_option linter.all false
set_option maxRecDepth 100000
set_option maxHeartbeats 1000000
/-! PXd: sets of ints as values. -/
namespace PW
open PySem PySem.Spec PyProof.Rows L2 PpSet
section
variable {X : Cx} {G : G0} {Wx : WX} {pos p p2 : Pos} {tg iter elt a : Expr} {ifs : List Expr} {scope : Scope} {own : List (Str × Nat)} {src : DI} {t : TGW} {sl : List Nat} {cnd : DB} {del : D}
def setK2 (r : Rs (List W)) : R := r.bind fun acc h2 => match Nat.ble (len (rv acc [])) 60 with
  | true => (match intsO (rv acc []) with
    | some is => mk (.st (ddI is [])) h2
    | none => .bad)
  | false => .bad
theorem setK2_ok {g : Gc} {ρ : List Addr} {H : Hp} {σ : L2.St} {acc : List W} {h : Hq} {Q : VK} (a : Aft g (RW g) ρ H Wx σ (setK2 (.ok acc h)) Q) : ∃ is : List Int, acc.reverse = is.map W.int ∧ acc.length ≤ 60 ∧ Aft g (RW g) ρ H Wx σ (mk (.st (ddI is [])) h) Q := by
  unfold setK2 at a
  simp only [Rs.bind] at a
  rw [bleD, lenD, rvD, List.append_nil] at a
  by_cases ql : acc.reverse.length ≤ 60
  · rw [decide_eq_true ql] at a
    dsimp only at a
    cases q : intsO acc.reverse with
    | none => rw [q] at a; exact a.elim
    | some is =>
      rw [q] at a
      exact ⟨is, intsO_l q, by rw [List.length_reverse] at ql; exact ql, a⟩
  · rw [decide_eq_false ql] at a; exact a.elim
theorem set_rd2 {vs : List Nat} {σ : L2.St} {H : Hp} {Q : VK} (hsl : ∀ j ∈ sl, j ∈ vs) (q : rd (gx X G) [] (RW (gx X G)) Wx (cSet (cLc src t cnd del vs)) σ H Q) :
    tScI X.w (rd (gx X G) [] (SrcR (gx X G)) Wx src) (rdT (gx X G) [] sl t) (rd (gx X G) [] rEqB F0 cnd) (rd (gx X G) [] (RW (gx X G)) F0 del) vs σ H Q := by
  obtain ⟨ρ, e, h, re, rh, a⟩ := q
  refine ⟨ρ, e, h, re, rh, ?_⟩
  unfold cSet cLc at a
  cases qs : src e h with
  | bad => rw [qs] at a; exact a
  | ex z h1 => rw [qs] at a; exact a
  | ok s h1 =>
    rw [qs] at a
    intro ρ1 H1 J x1 rh1 sr D hD
    have a : Aft (gx X G) (RW (gx X G)) ρ1 H1 Wx σ (setK2 (lcA (next s) t cnd del (wipeE e vs) FUEL 0 [] h1)) Q := by
      have a := Aft.ext x1 a
      unfold setK2
      simp only [Rs.bind] at a ⊢
      cases q : lcA (next s) t cnd del (wipeE e vs) FUEL 0 [] h1 with
      | ok l h2 => rw [q] at a; exact a
      | ex z h2 => rw [q] at a; exact a
      | bad => rw [q] at a; exact a
    have re1 := re.ext x1
    have nD : D ∉ ρ1 := fun z => by obtain ⟨u, e, _⟩ := rh1.nt D z; rw [hD] at e; cases e
    have look : ∀ {f i : Nat} {acc : List W} {h : Hq}, Aft (gx X G) (RW (gx X G)) ρ1 H1 Wx σ (setK2 (lcA (next s) t cnd del (wipeE e vs) f i acc h)) Q → acc.length ≤ 60 ∧ ∀ w ∈ acc, ∃ k, w = W.int k := fun {f i acc h} a => by
      cases q : lcA (next s) t cnd del (wipeE e vs) f i acc h with
      | bad => rw [q] at a; exact a.elim
      | ex z h2 => exact (lcA_nox _ _ _ _ _ _ q).elim
      | ok l h2 =>
        rw [q] at a
        obtain ⟨pre, hp⟩ := lcA_suf f i acc h l h2 q
        obtain ⟨is, e1, e2, _⟩ := setK2_ok a
        refine ⟨by rw [hp, List.length_append] at e2; omega, fun w hw => ?_⟩
        have : w ∈ l.reverse := by rw [hp]; simp [hw]
        rw [e1] at this
        obtain ⟨k, _, hk⟩ := List.mem_map.mp this
        exact ⟨k, hk.symm⟩
    refine ⟨fun i m Hc => ∃ ρ' h' acc S n, Ext ρ1 H1 ρ' Hc ∧ RH (gx X G) ρ' h' Hc ∧ Hc D = some (SetO X.w D S n) ∧ (∀ k, S k = true ↔ W.int k ∈ acc) ∧ n ≤ acc.length ∧ (∃ l0 : List Int, l0.Nodup ∧ l0.length = n ∧ ∀ k, k ∈ l0 ↔ S k = true) ∧ D ∉ ρ' ∧
      Aft (gx X G) (RW (gx X G)) ρ1 H1 Wx σ (setK2 (lcA (next s) t cnd del (wipeE e vs) m i acc h')) Q, ⟨FUEL, ρ1, h1, [], fun _ => false, 0, .new hD, rh1.new hD, upd_same, fun k => by simp, Nat.le_refl _, ⟨[], by simp, rfl, by simp⟩, nD, a⟩, ?_⟩
    rintro i m Hc ⟨ρ', h', acc, S, n, x, rh, eD, hS, hn, hN, nD', a⟩
    cases m with
    | zero => exact a.elim
    | succ m =>
      have sn := sr ρ' Hc h' i x.w rh
      unfold lcA at a
      cases qn : next s i h' with
      | none => rw [qn] at a; exact a.elim
      | some o =>
        rw [qn] at a sn
        cases o with
        | none =>
          obtain ⟨is, e1, e2, a⟩ := setK2_ok a
          obtain ⟨l0, n1, n2, n3⟩ := hN
          obtain ⟨d1, d2⟩ := ddI_D is [] (by simp)
          have mem : ∀ k, S k = true ↔ k ∈ ddI is [] := fun k => by
            rw [hS k, d2 k, ← List.mem_reverse, e1, List.mem_map]
            constructor
            · rintro ⟨j, hj, hk⟩
              cases hk
              exact .inl hj
            · rintro (z | z)
              · exact ⟨k, z, rfl⟩
              · cases z
          have pm : l0.Perm (ddI is []) := (List.perm_ext_iff_of_nodup n1 d1).mpr fun k => (n3 k).trans (mem k)
          have en : n = (ddI is []).length := by rw [← n2]; exact pm.length_eq
          unfold mk at a
          rw [bltD] at a
          by_cases qn : h'.n < LINE
          · rw [decide_eq_true qn] at a
            refine .inl ⟨sn, a.go (Ext.adopt x hD) (rh.adopt eD nD' qn setO_ne ⟨S, by rw [eD, en], mem⟩) (.ref ?_)⟩
            rw [← rh.len, List.getElem?_append_right (Nat.le_refl _)]
            simp
          · rw [decide_eq_false qn] at a; exact a.elim
        | some w =>
          dsimp only at a sn
          refine .inr ⟨sn.1, fun Hc => ∃ ρ' h' acc S n, Ext ρ1 H1 ρ' Hc ∧ RH (gx X G) ρ' h' Hc ∧ Hc D = some (SetO X.w D S n) ∧ (∀ k, S k = true ↔ W.int k ∈ acc) ∧ n ≤ acc.length ∧ (∃ l0 : List Int, l0.Nodup ∧ l0.length = n ∧ ∀ k, k ∈ l0 ↔ S k = true) ∧ D ∉ ρ' ∧
            Aft (gx X G) (RW (gx X G)) ρ1 H1 Wx σ (setK2 (lcA (next s) t cnd del (wipeE e vs) m (i + 1) acc h')) Q, fun H' n => ⟨m, Nat.lt_succ_self m, n⟩, fun v H2 hy => ?_⟩
          obtain ⟨x2, rh2, rw2⟩ := sn.2 v H2 hy
          have D2 : H2 D = some (SetO X.w D S n) := x2.frame D _ eD nD'
          have reW := wipeRE (re1.ext (x.trans x2)) vs
          refine ⟨ρ', w, wipeE e vs, h', reW, rh2, rw2, ?_⟩
          cases qt : t w (wipeE e vs) h' with
          | ex z hh => rw [qt] at a; exact a.elim
          | bad => rw [qt] at a; exact a.elim
          | ok e3 hh =>
            rw [qt] at a
            dsimp only at a
            intro ρ3 H3 σ3 x3 rh3 re3 s3 l3
            have nD3 := not_mem_ext x3 nD' D2
            have D3 : H3 D = some (SetO X.w D S n) := x3.frame D _ D2 nD'
            refine ⟨wipe_same (by rw [l3, wipe_length]) fun j hj => s3 j fun z => hj (hsl j z), ρ3, e3, hh, re3, rh3, ?_⟩
            cases qc : cnd e3 hh with
            | ex z h2 => rw [qc] at a; exact a.elim
            | bad => rw [qc] at a; exact a.elim
            | ok c h2 =>
              rw [qc] at a
              dsimp only at a
              intro ρ4 H4 b x4 rh4 rb
              cases rb
              have nD4 := not_mem_ext x4 nD3 D3
              have D4 : H4 D = some (SetO X.w D S n) := x4.frame D _ D3 nD3
              have x14 := ((x.trans x2).trans x3).trans x4
              cases c with
              | false =>
                rw [if_neg Bool.false_ne_true]
                exact ⟨ρ4, h2, acc, S, n, x14, rh4, D4, hS, hn, hN, nD4, a⟩
              | true =>
                rw [if_pos rfl]
                refine ⟨ρ4, e3, h2, re3.ext x4, rh4, ?_⟩
                dsimp only at a
                cases qe : del e3 h2 with
                | ex z h3 => rw [qe] at a; exact a.elim
                | bad => rw [qe] at a; exact a.elim
                | ok y h3 =>
                  rw [qe] at a
                  dsimp only at a
                  obtain ⟨hl, hy⟩ := look a
                  obtain ⟨k, hk⟩ := hy y (by simp)
                  subst hk
                  rw [List.length_cons] at hl
                  intro ρ5 H5 vy x5 rh5 ry
                  cases ry
                  have nD5 := not_mem_ext x5 nD4 D4
                  have D5 : H5 D = some (SetO X.w D S n) := x5.frame D _ D4 nD4
                  refine ⟨k, S, n, rfl, D5, by unfold scanBound; omega, ρ5, h3, .int k :: acc, _, _, (x14.trans x5).out (u := SetO X.w D S n) hD, rh5.out nD5 D5 setO_ne, upd_same, fun j => ?_, ?_, ?_, nD5, a⟩
                  · rw [Bool.or_eq_true, decide_eq_true_eq, hS j, List.mem_cons]
                    constructor
                    · rintro (z | z)
                      · exact .inr z
                      · exact .inl (by rw [z])
                    · rintro (z | z)
                      · cases z; exact .inr rfl
                      · exact .inl z
                  · rw [List.length_cons]
                    split <;> omega
                  · obtain ⟨l0, n1, n2, n3⟩ := hN
                    by_cases q : S k = true
                    · refine ⟨l0, n1, by rw [if_pos q]; exact n2, fun j => ?_⟩
                      rw [n3 j, Bool.or_eq_true, decide_eq_true_eq]
                      exact ⟨.inl, fun z => z.elim id fun z => z ▸ q⟩
                    · refine ⟨k :: l0, List.nodup_cons.mpr ⟨fun z => q ((n3 k).mp z), n1⟩, by rw [if_neg q, List.length_cons, n2], fun j => ?_⟩
                      rw [List.mem_cons, n3 j, Bool.or_eq_true, decide_eq_true_eq]
                      exact Or.comm

/-- name = {..} -/
theorem ss_setsc (i : Nat) (C : Cs X Wx) {y : Str} {py spos : Pos} (hi : SI X G [] Wx tg iter src) (hg : ∀ (s : Shared) (H : Hp) (C : Addr) (cl : List (Str × Addr)) (fp : List Addr), SG (X.blk s H scope (compEnvC scope cl C X.env) fp) G [] sl tg t)
    (ht : ∀ (s : Shared) (H : Hp) (C : Addr) (cl : List (Str × Addr)) (fp : List Addr), STs (X.blk s H scope (compEnvC scope cl C X.env) fp) G [] F0 ifs cnd)
    (he : ∀ (s : Shared) (H : Hp) (C : Addr) (cl : List (Str × Addr)) (fp : List Addr), SE (X.blk s H scope (compEnvC scope cl C X.env) fp) G [] F0 elt del)
    (hsl : ∀ j ∈ sl, j ∈ own.map (·.2) := by decide) (ok : blkC X.N X.env.scope scope own = true := by kernel_rfl) (hs : ∀ x, foldedSetIterable iter X.env x = pure x := by intro _; rfl)
    (hy : X.N[i]? = some y := by rfl) (hyl : X.env.scope.names.lookup y = some .local := by rfl) (hsw : swapsWith (.SetComp elt [⟨tg, iter, ifs, 0⟩] scope pos) (some (.Name y py)) spos.line X.env = pure true := by exact swS_true rfl rfl rfl rfl) :
    SS X G [] Wx (.Assign [.Name y py] (.SetComp elt [⟨tg, iter, ifs, 0⟩] scope pos) spos) (sAsg (cSet (cLc src t cnd del (own.map (·.2)))) (tN i)) :=
  PS.imp (ps_setSc (g := rdT (gx X G) [] sl t) (tt := rd (gx X G) [] rEqB F0 cnd) (te := rd (gx X G) [] (RW (gx X G)) F0 del) C.calm C.nd hy hyl hsw hi (blkOk_by ok) hg ht he hs) fun D σ H q => by
  refine set_rd2 hsl ((rdS_bind (k := fun e w h => match tN i w e h with | .ok e1 h2 => .nx e1 h2 | _ => .bad) q).imp ?_)
  rintro v H1 ⟨ρ, e, w, h, re, rh, r, f⟩
  exact f ρ H1 _ .refl rh (re.set r (by simp))
/-! len of what may be a set -/
theorem bLen2_s : BiS X G (fun xs H Q => ((∃ p ys, xs = [.ref p] ∧ (SqL X.K H p ys ∨ SqT X.K H p ys) ∧ Q (.int ys.length) H) ∨ (∃ z, xs = [.str z] ∧ z.length ≤ sizeLine ∧ Q (.int z.length) H) ∨ ∃ p kvs, xs = [.ref p] ∧ H p = some (.dK kvs) ∧ Q (.int (kvs.length : Nat)) H) ∨ rLenO X.w xs H Q) bLen2 := by
  intro Wx σ ρ H h ws vs Q rh rs0 af
  have base := fun (af : Aft (gx X G) (RW (gx X G)) ρ H Wx σ (bLen ws h) Q) => bLen_s Wx σ ρ H h ws vs Q rh rs0 af
  unfold bLen2 at af
  split at af
  · rename_i n
    cases rs0 with
    | cons h1 h2 =>
      cases h2
      cases h1
      rename_i a hn
      split at af
      · rename_i l e
        rw [bltD, lenD] at af
        by_cases hl : l.length < 1000
        · rw [decide_eq_true hl] at af
          obtain ⟨S, h1, h2⟩ := rh.ob n _ a e hn
          exact .inr ⟨a, S, l.length, rfl, h1, hl, af.go .refl rh (.int _)⟩
        · rw [decide_eq_false hl] at af; exact af.elim
      · exact .inl (base af)
  · exact .inl (base af)
theorem se_bLen2 (g : X.mg "len" = none) {es : List Expr} {pn : List PinT} {dl : DL} (hl : SL X G pn Wx (a :: es) dl) (hg : Gl X "len" := by rfl) (he : starEach (a :: es) X.env = (false, eval a X.env) :: starEach es X.env := by rfl) (hpl : (backTo pos (starEach es X.env)).any (·.1) = false := by rfl) :
    SE X G pn Wx (.Call (.Name "len" p) (a :: es) [] pos) (dB bLen2 dl) := PE.imp (pe_callB (call_lenM.or cr_lenO) hg g PySem.boot_len hl (by decide) (by decide) he hpl) fun σ H Q q => rd_bi bLen2_s q
end
end PW

set_option Elab.async false
set_option linter.all false
set_option maxRecDepth 100000
set_option maxHeartbeats 1000000
/-! PXe: a set's table laid anew: there is room, and each element has its place. -/
namespace L2
theorem fm_same {α β : Type} {f g : α → Option β} : ∀ l : List α, (∀ x ∈ l, f x = g x) → l.filterMap f = l.filterMap g
  | [], _ => rfl
  | a :: r, h => by
    have e := fm_same r fun x hx => h x (by simp [hx])
    have ha := h a (by simp)
    cases q : g a with
    | none => rw [List.filterMap_cons_none (ha.trans q), List.filterMap_cons_none q, e]
    | some b => rw [List.filterMap_cons_some (ha.trans q), List.filterMap_cons_some q, e]
end L2
namespace PX
open PySem
def orb (M : Nat) : Nat → Nat → List Nat
  | 0, _ => []
  | n + 1, i => i :: orb M n ((i * 5 + 1) % M)
def chk (M : Nat) : Bool := (List.range M).all fun i => (List.range M).all fun p => (orb M M i).any fun q => Nat.beq q p
theorem chk8 : chk 8 = true := by decide +kernel
theorem chk16 : chk 16 = true := by decide +kernel
theorem chk32 : chk 32 = true := by decide +kernel
theorem chk64 : chk 64 = true := by decide +kernel
def lp (mask : Nat) : Nat → Nat × Nat → Nat × Nat
  | 0, x => x
  | d + 1, x => lp mask d (SetTable.leap mask x.1 x.2)
theorem lp_add (mask : Nat) : ∀ (d e : Nat) (x : Nat × Nat), lp mask (d + e) x = lp mask e (lp mask d x)
  | 0, e, x => by rw [Nat.zero_add]; rfl
  | d + 1, e, x => by
    rw [show d + 1 + e = (d + e) + 1 by omega]
    show lp mask (d + e) _ = lp mask e (lp mask d _)
    exact lp_add mask d e _
theorem lp_snd (mask : Nat) : ∀ (d : Nat) (x : Nat × Nat), (lp mask d x).2 = x.2 / 32 ^ d
  | 0, x => by show x.2 = _; rw [Nat.pow_zero, Nat.div_one]
  | d + 1, x => by
    show (lp mask d (SetTable.leap mask x.1 x.2)).2 = _
    rw [lp_snd mask d]
    show x.2 / 32 / 32 ^ d = _
    rw [Nat.div_div_eq_div_mul, Nat.pow_succ, Nat.mul_comm]
theorem lp_fst (mask : Nat) : ∀ (d : Nat) (x : Nat × Nat), x.1 ≤ mask → (lp mask d x).1 ≤ mask
  | 0, x, h => h
  | d + 1, x, h => by
    refine lp_fst mask d _ ?_
    show (x.1 * 5 + 1 + x.2 / 32) % (mask + 1) ≤ mask
    have := Nat.mod_lt (x.1 * 5 + 1 + x.2 / 32) (show 0 < mask + 1 by omega)
    omega
theorem orb_lp (mask : Nat) : ∀ (n i p : Nat), p ∈ orb (mask + 1) n i → ∃ e, e < n ∧ (lp mask e (i, 0)).1 = p
  | 0, i, p, h => by cases h
  | n + 1, i, p, h => by
    rcases List.mem_cons.mp h with z | z
    · exact ⟨0, Nat.succ_pos n, z.symm⟩
    · obtain ⟨e, h1, h2⟩ := orb_lp mask n _ p z
      refine ⟨e + 1, Nat.succ_lt_succ h1, ?_⟩
      show (lp mask e (SetTable.leap mask i 0)).1 = p
      have : SetTable.leap mask i 0 = ((i * 5 + 1) % (mask + 1), 0) := by
        unfold SetTable.leap
        simp
      rw [this]
      exact h2
theorem reach {mask : Nat} (hc : chk (mask + 1) = true) {i pt p : Nat} (hi : i ≤ mask) (hp : p ≤ mask) (hpt : pt < 2 ^ 64) : ∃ d, d < mask + 15 ∧ (lp mask d (i, pt)).1 = p := by
  have h2 : (lp mask 13 (i, pt)).2 = 0 := by
    rw [lp_snd]
    exact Nat.div_eq_of_lt (Nat.lt_of_lt_of_le hpt (by decide))
  have h1 := lp_fst mask 13 (i, pt) hi
  obtain ⟨a, b⟩ : Nat × Nat := lp mask 13 (i, pt)
  generalize hx : lp mask 13 (i, pt) = x at h1 h2
  obtain ⟨a, b⟩ := x
  dsimp only at h1 h2
  subst h2
  have hm : p ∈ orb (mask + 1) (mask + 1) a := by
    unfold chk at hc
    have := List.all_eq_true.mp (List.all_eq_true.mp hc a (List.mem_range.mpr (by omega))) p (List.mem_range.mpr (by omega))
    obtain ⟨q, hq, e⟩ := List.any_eq_true.mp this
    rw [← Nat.eq_of_beq_eq_true e]; exact hq
  obtain ⟨e, h3, h4⟩ := orb_lp mask _ a p hm
  refine ⟨13 + e, by omega, ?_⟩
  rw [lp_add, hx]
  exact h4
theorem free_is {mask : Nat} {owner : Array (Option Nat)} : ∀ (f i pt q : Nat), SetTable.layClean.free mask owner f i pt = some q → (owner.getD q (some 0)).isNone = true
  | 0, i, pt, q, e => by cases e
  | f + 1, i, pt, q, e => by
    unfold SetTable.layClean.free at e
    cases hf : (List.range (SetTable.runEnd mask i + 1 - i)).find? (fun k => (owner.getD (i + k) (some 0)).isNone) with
    | some k =>
      rw [hf] at e
      cases e
      exact List.find?_some (p := fun k => (owner.getD (i + k) (some 0)).isNone) hf
    | none =>
      rw [hf] at e
      exact free_is f _ _ q e
theorem free_ok {mask : Nat} {owner : Array (Option Nat)} {p : Nat} (hp : (owner.getD p (some 0)).isNone = true) : ∀ (d f i pt : Nat), (lp mask d (i, pt)).1 = p → d < f → ∃ q, SetTable.layClean.free mask owner f i pt = some q
  | d, 0, i, pt, _, h => by omega
  | d, f + 1, i, pt, e, h => by
    unfold SetTable.layClean.free
    cases hf : (List.range (SetTable.runEnd mask i + 1 - i)).find? (fun k => (owner.getD (i + k) (some 0)).isNone) with
    | some k => exact ⟨i + k, rfl⟩
    | none =>
      cases d with
      | zero =>
        exfalso
        have e : i = p := e
        have hr : 0 ∈ List.range (SetTable.runEnd mask i + 1 - i) := by
          refine List.mem_range.mpr ?_
          unfold SetTable.runEnd
          split <;> omega
        have := List.find?_eq_none.mp hf 0 hr
        rw [Nat.add_zero, e, hp] at this
        exact this rfl
      | succ d => exact free_ok hp d f _ _ e (by omega)
/-- each of the first j has one place -/
def Own (mask : Nat) (owner : Array (Option Nat)) (j : Nat) : Prop := owner.size = mask + 1 ∧ (owner.toList.filterMap id).Perm (List.range j)
theorem fm_set (k : Nat) : ∀ (l : List (Option Nat)) (i : Nat), l[i]? = some none → ((l.set i (some k)).filterMap id).Perm (k :: l.filterMap id)
  | [], i, h => by cases h
  | a :: l, 0, h => by
    have : a = none := by simpa using h
    subst this
    exact List.Perm.refl _
  | a :: l, i + 1, h => by
    have ih := fm_set k l i (by simpa using h)
    rw [List.set_cons_succ]
    cases a with
    | none => exact ih
    | some v => exact (ih.cons v).trans (List.Perm.swap k v _)
theorem fm_len : ∀ l : List (Option Nat), (l.filterMap id).length + l.countP (fun o => o.isNone) = l.length
  | [] => rfl
  | a :: l => by
    have ih := fm_len l
    cases a with
    | none =>
      rw [List.countP_cons]
      show (l.filterMap id).length + _ = l.length + 1
      simp
      omega
    | some v =>
      rw [List.countP_cons]
      show (l.filterMap id).length + 1 + _ = l.length + 1
      simp
      omega
theorem Own.room {mask j : Nat} {owner : Array (Option Nat)} (h : Own mask owner j) (hj : j ≤ mask) : ∃ p, p ≤ mask ∧ (owner.getD p (some 0)).isNone = true := by
  have h1 := fm_len owner.toList
  have h2 := h.2.length_eq
  rw [List.length_range] at h2
  have h3 : owner.toList.length = mask + 1 := by rw [Array.length_toList]; exact h.1
  rw [h3, h2] at h1
  have : 0 < owner.toList.countP (fun o => o.isNone) := by omega
  obtain ⟨a, ha, hn⟩ := List.countP_pos_iff.mp this
  obtain ⟨p, hp⟩ := List.mem_iff_getElem?.mp ha
  have hl := (List.getElem?_eq_some_iff.mp hp).1
  rw [Array.length_toList, h.1] at hl
  refine ⟨p, by omega, ?_⟩
  have hlt : p < owner.size := by rw [h.1]; exact hl
  have : owner.getD p (some 0) = a := by
    rw [Array.getElem?_toList] at hp
    simp [Array.getD, hlt]
    have := (Array.getElem?_eq_some_iff.mp hp).2
    exact this
  rw [this]; exact hn
theorem clean_step {mask j : Nat} (hc : chk (mask + 1) = true) {owner : Array (Option Nat)} (h : Own mask owner j) (hj : j ≤ mask) (x : Int) :
    ∃ q, SetTable.layClean.free mask owner (SetTable.turns mask) (SetTable.bits x % (mask + 1)) (SetTable.bits x) = some q ∧ Own mask (owner.setIfInBounds q (some j)) (j + 1) := by
  obtain ⟨p, hp, hn⟩ := h.room hj
  have hb : SetTable.bits x < 2 ^ 64 := by
    unfold SetTable.bits
    have h1 := Int.emod_nonneg x (by decide : (2 ^ 64 : Int) ≠ 0)
    have h2 := Int.emod_lt_of_pos x (by decide : (0 : Int) < 2 ^ 64)
    have : ((2 : Int) ^ 64) = ((2 ^ 64 : Nat) : Int) := by decide
    omega
  have hi : SetTable.bits x % (mask + 1) ≤ mask := by
    have := Nat.mod_lt (SetTable.bits x) (show 0 < mask + 1 by omega)
    omega
  obtain ⟨d, hd, e⟩ := reach hc hi hp hb
  obtain ⟨q, hq⟩ := free_ok hn d (SetTable.turns mask) _ _ e hd
  refine ⟨q, hq, by rw [Array.size_setIfInBounds]; exact h.1, ?_⟩
  have hq2 := free_is _ _ _ _ hq
  have hlt : q < owner.size := by
    rcases Nat.lt_or_ge q owner.size with z | z
    · exact z
    · have : owner.getD q (some 0) = some 0 := by simp [Array.getD, Nat.not_lt.mpr z]
      rw [this] at hq2; cases hq2
  have he : owner.toList[q]? = some none := by
    have : owner.getD q (some 0) = owner[q] := by simp [Array.getD, hlt]
    rw [this] at hq2
    rw [Array.getElem?_toList, Array.getElem?_eq_getElem hlt]
    cases z : owner[q] with
    | none => rfl
    | some v => rw [z] at hq2; cases hq2
  rw [Array.toList_setIfInBounds]
  have p1 := fm_set j owner.toList q he
  refine p1.trans ((h.2.cons j).trans ?_)
  rw [List.range_succ]
  exact (List.perm_append_singleton _ _).symm
theorem clean_go {mask : Nat} (hc : chk (mask + 1) = true) : ∀ (l : List Int) (owner : Array (Option Nat)) (j : Nat), Own mask owner j → j + l.length ≤ mask + 1 →
    ∃ owner', l.foldl (fun acc h => do
      let (owner, k) ← acc
      let j ← SetTable.layClean.free mask owner (SetTable.turns mask) (SetTable.bits h % (mask + 1)) (SetTable.bits h)
      pure (owner.setIfInBounds j (some k), k + 1)) (some (owner, j)) = some (owner', j + l.length) ∧ Own mask owner' (j + l.length)
  | [], owner, j, h, _ => ⟨owner, rfl, h⟩
  | x :: l, owner, j, h, hl => by
    rw [List.length_cons] at hl
    obtain ⟨q, hq, h2⟩ := clean_step hc h (by omega) x
    obtain ⟨o', e, h3⟩ := clean_go hc l _ (j + 1) h2 (by omega)
    refine ⟨o', ?_, ?_⟩
    · rw [List.foldl_cons]
      have : (do
        let (owner, k) ← some (owner, j)
        let j ← SetTable.layClean.free mask owner (SetTable.turns mask) (SetTable.bits x % (mask + 1)) (SetTable.bits x)
        pure (owner.setIfInBounds j (some k), k + 1)) = some (owner.setIfInBounds q (some j), j + 1) := by
        show (SetTable.layClean.free mask owner (SetTable.turns mask) (SetTable.bits x % (mask + 1)) (SetTable.bits x)).bind _ = _
        rw [hq]
        rfl
      rw [this, e, List.length_cons]
      congr 2
      omega
    · rw [List.length_cons, show j + (l.length + 1) = j + 1 + l.length by omega]
      exact h3
theorem live_snd (owner : Array (Option Nat)) : ((List.range owner.size).filterMap fun j => (owner.getD j none).map (j, ·)).map (·.2) = owner.toList.filterMap id := by
  have e : ∀ (l : List (Option Nat)) (o : Nat), ((List.range' o l.length).filterMap fun j => ((l[j - o]?).getD none).map (j, ·)).map (·.2) = l.filterMap id := by
    intro l
    induction l with
    | nil => intro o; rfl
    | cons a l ih =>
      intro o
      rw [List.length_cons, List.range'_succ]
      have e2 : ((List.range' (o + 1) l.length).filterMap fun j => (((a :: l)[j - o]?).getD none).map (j, ·)) = (List.range' (o + 1) l.length).filterMap fun j => ((l[j - (o + 1)]?).getD none).map (j, ·) := by
        apply L2.fm_same
        intro j hj
        have : o + 1 ≤ j := (List.mem_range'_1.mp hj).1
        rw [show j - o = (j - (o + 1)) + 1 by omega, List.getElem?_cons_succ]
      cases a with
      | none =>
        rw [List.filterMap_cons_none (by simp), e2, ih (o + 1)]
        rfl
      | some v =>
        rw [List.filterMap_cons_some (b := (o, v)) (by simp), List.map_cons, e2, ih (o + 1)]
        rfl
  have := e owner.toList 0
  rw [Array.length_toList] at this
  rw [List.range_eq_range', ← this]
  congr 1
  apply L2.fm_same
  intro j hj
  congr 1
  rw [Nat.sub_zero, Array.getElem?_toList]
  simp only [Array.getD_eq_getD_getElem?]
theorem laid_ok {mask : Nat} (hc : chk (mask + 1) = true) (finger moves : Nat) (led plain : Bool) {hs : Array Int} (hn : hs.size ≤ mask) :
    ∃ t order, SetTable.laid mask finger moves led plain hs = some (t, order) ∧ order.toList.Perm (List.range hs.size) ∧ L2.Ris t.place.toList ∧ t.place.size = hs.size ∧ t.dummies = #[] ∧ t.mask = mask ∧ t.led = led ∧ t.plain = plain := by
  have h0 : Own mask (Array.replicate (mask + 1) none) 0 := by
    refine ⟨by simp, ?_⟩
    have : (Array.replicate (mask + 1) (none : Option Nat)).toList.filterMap id = [] := by
      rw [List.filterMap_eq_nil_iff]
      intro a ha
      have : a = none := by simp at ha; exact ha
      rw [this]; rfl
    rw [this]
    exact List.Perm.refl _
  obtain ⟨owner, e, h1⟩ := clean_go hc hs.toList _ 0 h0 (by rw [Array.length_toList]; omega)
  rw [Array.length_toList, Nat.zero_add] at h1 e
  have el : SetTable.layClean mask hs = some owner := by
    unfold SetTable.layClean
    rw [← Array.foldl_toList, e]
    rfl
  unfold SetTable.laid
  rw [el]
  have sz : owner.size = mask + 1 := h1.1
  have hl := live_snd owner
  rw [sz] at hl
  refine ⟨_, _, rfl, ?_, ?_, ?_, rfl, rfl, rfl, rfl⟩
  · show ((((List.range (mask + 1)).filterMap fun j => (owner.getD j none).map (j, ·)).map (·.2)).toArray).toList.Perm _
    rw [hl]
    exact h1.2
  · refine (L2.ris_live (fun j => owner.getD j none) (List.range (mask + 1)) ?_).1
    unfold L2.Ris
    first | exact List.pairwise_lt_range | exact List.pairwise_lt_range _
  · show ((((List.range (mask + 1)).filterMap fun j => (owner.getD j none).map (j, ·)).map (·.1)).toArray).size = _
    rw [List.size_toArray, List.length_map]
    have := congrArg List.length hl
    rw [List.length_map] at this
    rw [this, h1.2.length_eq, List.length_range]
end PX

set_option Elab.async false
set_option linter.all false
set_option maxRecDepth 100000
set_option maxHeartbeats 2000000
/-! PXf: one set's elements turned in another one. -/
namespace L2
open PySem PySem.Spec PyProof.Rows
section
variable {P : Program} {w : World} {A : Around} {E : Value → Shared → Prop} {s : Shared} {a : Addr} {S : Int → Bool} {n : Nat}
theorem erase_size {α : Type} (xs : Array α) (i : Nat) (h : i < xs.size) : (SetTable.eraseAt xs i).toList = xs.toList.take i ++ xs.toList.drop (i + 1) := by
  unfold SetTable.eraseAt
  simp
  have : min i xs.size = i := by omega
  rw [List.take_of_length_le (by simp)] <;> rfl
theorem below_size (xs : Array Nat) (j : Nat) : SetTable.below xs j ≤ xs.size := by
  have go : ∀ (f lo hi : Nat), lo ≤ hi → hi ≤ xs.size → SetTable.below.go xs j f lo hi ≤ xs.size := by
    intro f
    induction f with
    | zero => intro lo hi h1 h2; exact Nat.le_trans h1 h2
    | succ f ih =>
      intro lo hi h1 h2
      show (if lo < hi then (if xs.getD ((lo + hi) / 2) j < j then SetTable.below.go xs j f ((lo + hi) / 2 + 1) hi else SetTable.below.go xs j f lo ((lo + hi) / 2)) else lo) ≤ xs.size
      split
      · split
        · exact ih _ _ (by omega) h2
        · exact ih _ _ (by omega) (by omega)
      · omega
  exact go _ _ _ (Nat.zero_le _) (Nat.le_refl _)
theorem drop_facts {t : SetTable} {i m : Nat} (hf : t.fits m = true) (hi : i < m) (r : Ris t.place.toList) : (t.drop i).fits (m - 1) = true ∧ Ris (t.drop i).place.toList ∧ (t.drop i).led = t.led := by
  unfold SetTable.fits at hf
  rw [Bool.and_eq_true, beq_iff_eq, decide_eq_true_eq] at hf
  obtain ⟨h1, h2⟩ := hf
  have hi' : i < t.place.size := by omega
  unfold SetTable.drop
  rw [Array.getElem?_eq_getElem hi']
  dsimp only
  have es := erase_size t.place i hi'
  have hl : (SetTable.eraseAt t.place i).size = t.place.size - 1 := by
    rw [← Array.length_toList, es, List.length_append, List.length_take, List.length_drop, Array.length_toList]
    omega
  refine ⟨?_, ?_, rfl⟩
  · unfold SetTable.fits SetTable.fill
    rw [Bool.and_eq_true, beq_iff_eq, decide_eq_true_eq]
    refine ⟨by show (SetTable.eraseAt t.place i).size = _; rw [hl, h1], ?_⟩
    show (SetTable.eraseAt t.place i).size + (SetTable.insertAt t.dummies _ _).size ≤ t.mask
    have hd : ∀ (xs : Array Nat) (p x : Nat), p ≤ xs.size → (SetTable.insertAt xs p x).size = xs.size + 1 := fun xs p x hp => by
      rw [← Array.length_toList, SetTable.toList_insertAt, List.length_append, List.length_cons, List.length_take, List.length_drop, Array.length_toList]
      omega
    unfold SetTable.fill at h2
    have hb := below_size t.dummies t.place[i]
    rw [hd _ _ _ hb, hl]
    omega
  · show Ris (SetTable.eraseAt t.place i).toList
    rw [es]
    unfold Ris at *
    exact r.sublist (by
      have : (t.place.toList.take i ++ t.place.toList.drop (i + 1)).Sublist (t.place.toList.take i ++ t.place.toList.drop i) := by
        refine List.Sublist.append (List.Sublist.refl _) ?_
        rw [← List.drop_drop (i := 1)] 
        exact List.drop_sublist _ _
      rw [List.take_append_drop] at this
      exact this)
theorem setR_discard {k : Int} {tk : Tok} {Q : Bool → Shared → Prop} (R : SetR w s.heap a S n)
    (hQ : ∀ h' m, Heap.SameBut a s.heap h' → SetR w h' a (fun j => S j && !decide (j = k)) m → m ≤ n → Q (S k) { s with heap := h' }) :
    wpAny (model P w) A (setDiscardHashed a (.int k tk) ((intKind P w).hash k)) Q E s := by
  obtain ⟨o, es, ep, t, ho, hex, hd, g, nd, hm, hb, hf, hn, hr, hl⟩ := R
  have hkey : (intKind P w).is k (.int k tk) = true := intKind_is P w k tk
  have hsc : (Value.int k tk).scannable = true := rfl
  have hel : ElemsOf (intKind P w) es.toList := good_elems g
  unfold setDiscardHashed setFind setFindIn
  refine wpAny_bind (wpAny_bind (wpAny_setState_of ho hd hf ?_))
  dsimp only
  rw [byScan_of hsc hb hel]
  simp only [↓reduceIte]
  refine wpAny_bind (wpAny_rule ?_)
  refine wpAny_bind (wpAny_setScan_of hkey ho hd hf hel ?_)
  cases hfi : List.findIdx? (fun e => (intKind P w).is k e.2) es.toList with
  | none =>
    dsimp only
    have hnk : k ∉ es.toList.map keyOf := fun z => by
      obtain ⟨e, he, q⟩ := (good_mem (P := P) (w := w) g k).1 z
      have c := List.findIdx?_eq_none_iff.mp hfi e he
      rw [q] at c
      cases c
    have hSk : S k = false := by
      cases q : S k with
      | false => rfl
      | true => exact absurd ((hm k).1 q) hnk
    refine wpAny_pure (wpAny_pure ?_)
    have q := hQ s.heap n (Heap.SameBut.refl a s.heap) ⟨o, es, ep, t, ho, hex, hd, g, nd, fun i => by
      rw [Bool.and_eq_true, ← hm i]
      refine ⟨fun z => z.1, fun z => ⟨z, ?_⟩⟩
      have : i ≠ k := fun e => by rw [e, hSk] at z; cases z
      simp [this], hb, hf, hn, hr, hl⟩ (Nat.le_refl _)
    rw [hSk] at q
    exact q
  | some j =>
    dsimp only
    obtain ⟨hj, pj, _⟩ := List.findIdx?_eq_some_iff_getElem.mp hfi
    have hSk : S k = true := (hm k).2 ((good_mem (P := P) (w := w) g k).2 ⟨es.toList[j], List.getElem_mem hj, pj⟩)
    have hkj : keyOf es.toList[j] = k := (good_is (g _ (List.getElem_mem hj)) k).1 pj
    have hj' : j < es.size := by rw [← Array.length_toList]; exact hj
    obtain ⟨f1, f2, f3⟩ := drop_facts hf hj' hr
    refine wpAny_pure ?_
    rw [Nat.zero_add]
    refine wpAny_bind (wpAny_setState_of ho hd hf ?_)
    dsimp only
    have el := erase_size es j hj'
    have sz : (SetTable.eraseAt es j).size = es.size - 1 := by
      rw [← Array.length_toList, el, List.length_append, List.length_take, List.length_drop, Array.length_toList]
      omega
    have hb2 : (SetTable.eraseAt es j).size < scanBound := by omega
    refine wpAny_bind (wpAny_storeSet_of ho hd ?_ (fits_of_scanBound hb2))
    refine wpAny_bind (wpAny_point ?_)
    have ho1 := store_at (es' := SetTable.eraseAt es j) (t' := t.drop j) ho hd
    have sp : es.toList = es.toList.take j ++ es.toList[j] :: es.toList.drop (j + 1) := by
      rw [← List.drop_eq_getElem_cons hj, List.take_append_drop]
    have sub : (SetTable.eraseAt es j).toList.Sublist es.toList := by
      rw [el]
      conv => rhs; rw [sp]
      exact List.Sublist.append (List.Sublist.refl _) (List.sublist_cons_self _ _)
    have nk : k ∉ (SetTable.eraseAt es j).toList.map keyOf := by
      rw [el, List.map_append]
      rw [sp, List.map_append, List.map_cons, hkj] at nd
      have nd' := List.nodup_append.mp nd
      intro z
      rcases List.mem_append.mp z with z | z
      · exact nd'.2.2 _ z _ List.mem_cons_self rfl
      · exact (List.nodup_cons.mp nd'.2.1).1 z
    have q := hQ _ (es.size - 1) (Heap.SameBut.update s.heap a (Obj.putSet (SetTable.eraseAt es j) (t.drop j))) ⟨_, _, _, _, ho1, hex, rfl, fun e he => g e (sub.subset he), (sub.map keyOf).nodup nd, fun i => by
      rw [Bool.and_eq_true]
      constructor
      · rintro ⟨z1, z2⟩
        have ne : i ≠ k := by simpa using z2
        have := (hm i).1 z1
        rw [sp, List.map_append, List.map_cons, hkj] at this
        rw [el, List.map_append]
        rcases List.mem_append.mp this with z | z
        · exact List.mem_append_left _ z
        · rcases List.mem_cons.mp z with z | z
          · exact absurd z ne
          · exact List.mem_append_right _ z
      · intro z
        refine ⟨(hm i).2 ((sub.map keyOf).subset z), ?_⟩
        have : i ≠ k := fun e => nk (e ▸ z)
        simp [this], hb2, by rw [sz]; exact f1, sz, f2, hl.imp id fun z => by rw [f3]; exact z⟩ (by omega)
    rw [hSk] at q
    exact wpAny_pure q
end
end L2

set_option Elab.async false
set_option linter.all false
set_option maxRecDepth 100000
set_option maxHeartbeats 2000000
namespace L2
open PySem PySem.Spec PyProof.Rows
section
variable {P : Program} {w : World} {A : Around} {E : Value → Shared → Prop} {s : Shared}
theorem room_of {n : Nat} (hn : n ≤ 30) (led : Bool) : (SetTable.fresh 0 0 led).roomFor n = none ∧ n ≤ 7 ∨ ∃ M, (SetTable.fresh 0 0 led).roomFor n = some (n * 2) ∧ SetTable.sizeAbove (n * 2) = M ∧ n ≤ M - 1 ∧ M ≤ 64 ∧ PX.chk (M - 1 + 1) = true := by
  have e : (SetTable.fresh 0 0 led).roomFor n = if (0 + n) * 5 ≥ 7 * 3 then some ((0 + n) * 2) else none := rfl
  rw [e, Nat.zero_add]
  by_cases h : n * 5 ≥ 7 * 3
  · rw [if_pos h]
    refine .inr ⟨SetTable.sizeAbove (n * 2), rfl, rfl, ?_⟩
    have h5 : 5 ≤ n := by omega
    have key : ∀ k : Fin 31, 5 ≤ k.val → SetTable.sizeAbove (k.val * 2) = (if k.val < 8 then 16 else if k.val < 16 then 32 else 64) := by decide +kernel
    have := key ⟨n, by omega⟩ h5
    dsimp only at this
    rw [this]
    split
    · exact ⟨by omega, by omega, PX.chk16⟩
    · split
      · exact ⟨by omega, by omega, PX.chk32⟩
      · exact ⟨by omega, by omega, PX.chk64⟩
  · rw [if_neg h]
    exact .inl ⟨rfl, by omega⟩
theorem order_perm {α : Type} {es : Array α} {order : Array Nat} (h : order.toList.Perm (List.range es.size)) : (order.filterMap (es[·]?)).toList.Perm es.toList := by
  rw [Array.toList_filterMap]
  exact (h.filterMap _).trans (by rw [filterMap_getElem?_range])
theorem laid_step {eo : Array (Int × Value)} {L : Option (SetTable × Array Nat)} {t' : SetTable} {order : Array Nat} (hL : L = some (t', order)) (hz : (order.filterMap (eo[·]?)).size = eo.size) :
    (do
      let some (t, order) := L | unsupported "internal:set-table-without-room"
      let es' := order.filterMap (eo[·]?)
      if es'.size != eo.size then unsupported "internal:set-table-lost-an-element"
      pure (es', t) : Sem (Array (Int × Value) × SetTable)) = pure (order.filterMap (eo[·]?), t') := by
  subst hL
  have : ((order.filterMap (eo[·]?)).size != eo.size) = false := by rw [hz]; simp
  simp only [this]
  rfl
theorem room_step {r : Addr} {m : Nat} {Q : Unit → Shared → Prop} (hr : s.heap.get? r = some { cls := .type "set", dict := none, data := .set #[] 0 (.fresh 0 0 (!w.params.followText "set-order")) }) (hm : m ≤ 30)
    (hQ : ∀ h1 o1 ep1 t1, Heap.SameBut r s.heap h1 → h1.get? r = some o1 → o1.ExactSet → o1.data = .set #[] ep1 t1 → t1.place = #[] → t1.dummies = #[] → t1.led = (!w.params.followText "set-order") → m ≤ t1.mask → PX.chk (t1.mask + 1) = true → Q () { s with heap := h1 }) :
    wpAny (model P w) A (setRoomFor r m) Q E s := by
  unfold setRoomFor
  refine wpAny_bind (wpAny_setState_of hr rfl rfl ?_)
  dsimp only
  rcases room_of hm (!w.params.followText "set-order") with ⟨e, h7⟩ | ⟨M, e, eM, h1, h2, h3⟩
  · rw [e]
    refine wpAny_pure ?_
    exact hQ s.heap _ 0 _ (Heap.SameBut.refl r s.heap) hr ⟨rfl, rfl, rfl⟩ rfl rfl rfl rfl h7 PX.chk8
  · rw [e]
    show wpAny _ _ (setRelay r (m * 2)) _ _ _
    unfold setRelay
    refine wpAny_bind (wpAny_setState_of hr rfl rfl ?_)
    dsimp only
    refine wp_if_neg (by rw [eM, sizeLine_eq]; omega) ?_
    try refine wpAny_bind (wpAny_pure ?_)
    obtain ⟨t', order, q1, q2, q3, q4, q5, q6, q7, q8⟩ := PX.laid_ok (mask := M - 1) h3 0 ((SetTable.fresh 0 0 (!w.params.followText "set-order")).movedTo (M - 1)) (!w.params.followText "set-order") true (hs := #[]) (Nat.zero_le _)
    have hL : (SetTable.fresh 0 0 (!w.params.followText "set-order")).relaid ((#[] : Array (Int × Value)).map (·.1)) (m * 2) = some (t', order) := by
      unfold SetTable.relaid
      rw [eM]
      have : (#[] : Array (Int × Value)).map (·.1) = #[] := by simp
      rw [this]
      exact q1
    have ho : order = #[] := by
      have := q2.length_eq
      simp at this
      exact this
    refine wpAny_bind (wpAny_of_eq (a := (order.filterMap ((#[] : Array (Int × Value))[·]?), t')) (laid_step hL (by rw [ho]; rfl)) ?_)
    have e0 : order.filterMap ((#[] : Array (Int × Value))[·]?) = #[] := by rw [ho]; rfl
    rw [e0]
    dsimp only
    refine wpAny_storeSet_of hr rfl ?_ (by show 0 ≤ _; omega)
    have hp : t'.place = #[] := by
      have : t'.place.size = 0 := q4
      simpa using this
    exact hQ _ _ _ t' (Heap.SameBut.update s.heap r (Obj.putSet #[] t')) (store_at hr rfl) ⟨rfl, rfl, rfl⟩ rfl hp q5 q7 (by rw [q6]; exact h1) (by rw [q6]; exact h3)
theorem merge_fresh {r b : Addr} {T : Int → Bool} {m : Nat} {each : Sem Unit} {Q : Unit → Shared → Prop}
    (hr : s.heap.get? r = some { cls := .type "set", dict := none, data := .set #[] 0 (.fresh 0 0 (!w.params.followText "set-order")) }) (R : SetR w s.heap b T m) (hne : r ≠ b) (hm : m ≤ 30)
    (hQ : ∀ h', Heap.SameBut r s.heap h' → SetR w h' r T m → Q () { s with heap := h' }) : wpAny (model P w) A (setMerge r b each) Q E s := by
  obtain ⟨o, es, ep, t, ho, hex, hd, g, nd, hmem, hb, hf, hn, hris, hl⟩ := R
  unfold setMerge
  refine wp_if_neg (by simpa using hne) ?_
  try refine wpAny_bind (wpAny_pure ?_)
  refine wpAny_bind (wpAny_setState_of ho hd hf ?_)
  dsimp only
  by_cases he : es.isEmpty = true
  · refine wp_if_pos he ?_
    refine wpAny_pure ?_
    refine hQ s.heap (Heap.SameBut.refl r s.heap) ?_
    have e0 : es = #[] := by simpa using he
    subst e0
    have : m = 0 := hn.symm
    subst this
    refine ⟨_, #[], 0, _, hr, ⟨rfl, rfl, rfl⟩, rfl, g, nd, hmem, (by decide), (by rfl), rfl, List.Pairwise.nil, ?_⟩
    show _ ∨ (!w.params.followText "set-order") = true
    cases w.params.followText "set-order"
    · exact .inr rfl
    · exact .inl rfl
  · refine wp_if_neg he ?_
    try refine wpAny_bind (wpAny_pure ?_)
    refine wpAny_bind (room_step hr (by rw [hn]; exact hm) fun h1 o1 ep1 t1 sb1 ho1 hex1 hd1 hp1 hdu1 hl1 hm1 hc1 => ?_)
    have hf1 : t1.fits (#[] : Array (Int × Value)).size = true := by
      unfold SetTable.fits SetTable.fill
      rw [hp1, hdu1]
      simp
    refine wpAny_bind (wpAny_setState_of (s := { s with heap := h1 }) ho1 hd1 hf1 ?_)
    dsimp only
    have hf0 : t1.fill = 0 := by unfold SetTable.fill; rw [hp1, hdu1]; rfl
    have hled : w.params.followText "set-order" = true ∨ (t1.led && t.led) = true := by
      rw [hl1]
      cases q : w.params.followText "set-order"
      · rcases hl with z | z
        · rw [q] at z; cases z
        · exact .inr (by rw [z]; rfl)
      · exact .inl rfl
    subst hn
    cases hroad : t1.road t with
    | oneByOne =>
      unfold SetTable.road at hroad
      rw [hf0] at hroad
      simp at hroad
      split at hroad <;> cases hroad
    | slotForSlot =>
      dsimp only
      refine wpAny_storeSet_of (s := { s with heap := h1 }) ho1 hd1 ?_ (fits_of_scanBound hb)
      have ho2 := store_at (es' := es) (t' := { t with finger := t1.finger, led := t1.led && t.led, moves := t1.moves, plain := t1.plain && t.plain }) ho1 hd1
      exact hQ _ (sb1.trans (Heap.SameBut.update h1 r _)) ⟨_, es, _, _, ho2, hex1, rfl, g, nd, hmem, hb, hf, rfl, hris, hled⟩
    | clean =>
      dsimp only
      obtain ⟨t', order, q1, q2, q3, q4, q5, q6, q7, q8⟩ := PX.laid_ok hc1 t1.finger t1.moves (t1.led && t.led) (t1.plain && t.plain) (hs := es.map (·.1)) (by rw [Array.size_map]; exact hm1)
      rw [Array.size_map] at q2 q4
      have pm := order_perm q2
      have hz : (order.filterMap (es[·]?)).size = es.size := by rw [← Array.length_toList, pm.length_eq, Array.length_toList]
      refine wpAny_bind (wpAny_of_eq (a := (order.filterMap (es[·]?), t')) (laid_step q1 hz) ?_)
      dsimp only
      have hb2 : (order.filterMap (es[·]?)).size < scanBound := by rw [hz]; exact hb
      refine wpAny_storeSet_of (s := { s with heap := h1 }) ho1 hd1 ?_ (fits_of_scanBound hb2)
      have ho2 := store_at (es' := order.filterMap (es[·]?)) (t' := t') ho1 hd1
      have hf2 : t'.fits (order.filterMap (es[·]?)).size = true := by
        unfold SetTable.fits SetTable.fill
        rw [q4, q5, q6, hz]
        simp
        exact hm1
      have := hQ _ (sb1.trans (Heap.SameBut.update h1 r (Obj.putSet (order.filterMap (es[·]?)) t'))) ⟨_, _, _, _, ho2, hex1, rfl, fun e he => g e (pm.mem_iff.mp he), (pm.map keyOf).nodup_iff.mpr nd, fun k => (hmem k).trans (pm.map keyOf).mem_iff.symm, hb2, hf2, hz, q3, by rw [q7]; exact hled⟩
      exact this
end
end L2

set_option Elab.async false
set_option linter.all false
set_option maxRecDepth 100000
set_option maxHeartbeats 2000000
/-! PXh: a ^ b of sets of ints. -/
namespace L2
open PySem PySem.Spec PyProof.Rows
section
variable {P : Program} {w : World} {A : Around} {E : Value → Shared → Prop} {s : Shared}
theorem quiet_any {l : List Addr} {Q : Bool → Shared → Prop} (hl : ∀ b ∈ l, ∃ S n, SetR w s.heap b S n) (hQ : ∀ b, Q b s) : wpAny (model P w) A (setsQuiet l) Q E s := by
  unfold setsQuiet
  refine wpAny_bind (wpAny_forIn_list _ (fun rest b s' => s' = s ∧ b.1 = none ∧ ∀ x ∈ rest, x ∈ l) _ ?turn ?fin l _ ⟨rfl, rfl, fun x h => h⟩)
  case fin =>
    rintro ⟨b, u⟩ s' ⟨rfl, hb, _⟩
    have hb : b = none := hb
    subst hb
    exact wpAny_pure (hQ _)
  case turn =>
    rintro x rest b s' ⟨rfl, hb, hm⟩
    obtain ⟨S, n, o, es, ep, t, ho, hex, hd, g, nd, hmem, hsz, hf, hn, hr, hl2⟩ := hl x (hm x List.mem_cons_self)
    unfold setEntries
    refine wpAny_bind (wpAny_bind (wpAny_setState_of ho hd hf (wpAny_pure ?_)))
    refine wpAny_bind (wpAny_forIn_array' _ (fun rest b s1 => s1 = s' ∧ b.1 = none ∧ ∀ e ∈ rest, GoodE e) _ ?turn2 ?fin2 es _ ⟨rfl, rfl, g⟩)
    case turn2 =>
      rintro ⟨h1, v⟩ rest2 b2 s2 ⟨rfl, hb2, hg2⟩
      obtain ⟨k, tk, e1, e2⟩ := hg2 _ List.mem_cons_self
      dsimp only at e1
      subst e1
      exact wpAny_pure ⟨rfl, rfl, fun e he => hg2 e (List.mem_cons_of_mem _ he)⟩
    case fin2 =>
      rintro ⟨b2, u2⟩ s2 ⟨rfl, hb2, _⟩
      have hb2 : b2 = none := hb2
      subst hb2
      exact wpAny_pure ⟨rfl, rfl, fun y hy => hm y (List.mem_cons_of_mem _ hy)⟩
theorem walk_perm {a : Addr} {S : Int → Bool} {n : Nat} {Q : Array (Int × Value) → Shared → Prop} (R : SetR w s.heap a S n)
    (hQ : ∀ xs d, (∀ e ∈ xs.toList, GoodE e) → (xs.toList.map keyOf).Nodup → (∀ k, S k = true ↔ k ∈ xs.toList.map keyOf) → xs.size = n → Q xs { s with drawn := d }) : wpAny (model P w) A (setWalk a) Q E s := by
  obtain ⟨o, es, ep, t, ho, hex, hd, g, nd, hm, hb, hf, hn, hr, hl⟩ := R
  have go : ∀ (xs : Array (Int × Value)) (d : Drawn), xs.toList.Perm es.toList → Q xs { s with drawn := d } := fun xs d pm =>
    hQ xs d (fun e he => g e (pm.mem_iff.mp he)) ((pm.map keyOf).nodup_iff.mpr nd) (fun k => (hm k).trans (pm.map keyOf).mem_iff.symm) (by rw [← Array.length_toList, pm.length_eq, Array.length_toList]; exact hn)
  unfold setWalk
  refine wpAny_bind (wpAny_setState_of ho hd hf ?_)
  dsimp only
  refine wpAny_bind (wpAny_byText ?_)
  cases hbt : w.params.followText "set-order" with
  | true =>
    refine wp_if_pos rfl ?_
    exact wpAny_bind (wpAny_askSetting (wpAny_pure (go _ s.drawn (pick_perm _ es))))
  | false =>
    refine wp_if_neg Bool.false_ne_true ?_
    try refine wpAny_bind (wpAny_pure ?_)
    by_cases hdr : (!t.plain && decide (es.size > 1)) = true
    · refine wp_if_pos hdr ?_
      refine wpAny_bind (drawOrder_at es.size es.toList s _ (by rw [Array.length_toList]; exact Nat.le_refl _) fun ys d pm => wpAny_pure (go _ d (by simpa using pm)))
    · refine wp_if_neg hdr ?_
      try refine wpAny_bind (wpAny_pure ?_)
      have hled : t.led = true := by
        rcases hl with z | z
        · rw [hbt] at z; cases z
        · exact z
      refine wpAny_bind (wpAny_of_eq (a := ()) ?_ ?_)
      · show (if (!t.led && decide (es.size > 1)) = true then unsupported "set:maker-not-led" else pure ()) = pure ()
        rw [hled] <;> rfl
      · exact wpAny_pure (go es s.drawn (List.Perm.refl _))
theorem walk_unseen {a r : Addr} {S T : Int → Bool} {n m : Nat} {Q : Array (Int × Value) → Shared → Prop} (R : SetR w s.heap a S n) (Rr : SetR w s.heap r T m) (hne : a ≠ r)
    (hQ : ∀ xs h' d, (∀ e ∈ xs.toList, GoodE e) → (xs.toList.map keyOf).Nodup → (∀ k, S k = true ↔ k ∈ xs.toList.map keyOf) → xs.size = n → Heap.SameBut r s.heap h' → SetR w h' r T m → Q xs { s with heap := h', drawn := d }) :
    wpAny (model P w) A (setWalkUnseen a [r] (some r)) Q E s := by
  have walk : wpAny (model P w) A (setWalk a) Q E s := walk_perm R fun xs d h1 h2 h3 h4 => hQ xs s.heap d h1 h2 h3 h4 (Heap.SameBut.refl r s.heap) Rr
  have R0 := R
  obtain ⟨o, es, ep, t, ho, hex, hd, g, nd, hm, hb, hf, hn, hr, hl⟩ := R
  unfold setWalkUnseen
  refine wpAny_bind (wpAny_setState_of ho hd hf ?_)
  dsimp only
  refine wpAny_bind (wpAny_byText ?_)
  by_cases hc : (w.params.followText "set-order" || t.led && t.plain || decide (es.size ≤ 1)) = true
  · refine wp_if_pos hc ?_
    first
      | exact wpAny_bind (wpAny_mono walk (fun _ _ z => wpAny_pure z) fun _ _ z => z)
      | exact walk
  · refine wp_if_neg hc ?_
    try refine wpAny_bind (wpAny_pure ?_)
    refine wpAny_bind (quiet_any (fun b hb => ?_) fun qb => ?_)
    · rcases List.mem_cons.mp hb with z | z
      · exact ⟨S, n, z ▸ R0⟩
      · rw [List.mem_singleton.mp z]; exact ⟨T, m, Rr⟩
    · cases qb with
      | false =>
        refine wp_if_pos rfl ?_
        first
          | exact wpAny_bind (wpAny_mono walk (fun _ _ z => wpAny_pure z) fun _ _ z => z)
          | exact walk
      | true =>
        refine wp_if_neg (by decide) ?_
        try refine wpAny_bind (wpAny_pure ?_)
        refine wpAny_bind (wpAny_rule ?_)
        obtain ⟨o2, es2, ep2, t2, ho2, hex2, hd2, g2, nd2, hm2, hb2, hf2, hn2, hr2, hl2⟩ := Rr
        have hbt : w.params.followText "set-order" = false := by
          cases q : w.params.followText "set-order"
          · rfl
          · rw [q] at hc; exact absurd rfl hc
        have led1 : t.led = true := by
          rcases hl with z | z
          · rw [hbt] at z; cases z
          · exact z
        have led2 : t2.led = true := by
          rcases hl2 with z | z
          · rw [hbt] at z; cases z
          · exact z
        refine wpAny_bind (wpAny_setState_of ho2 hd2 hf2 ?_)
        dsimp only
        by_cases hs : ((t2.led && !t.led) || (t2.plain && !t.plain)) = true
        · refine wp_if_pos hs ?_
          have ho3 := store_at (es' := es2) (t' := { t2 with led := t2.led && t.led, plain := t2.plain && t.plain }) ho2 hd2
          have fin : Q es { s with heap := s.heap.update r (Obj.putSet es2 { t2 with led := t2.led && t.led, plain := t2.plain && t.plain }) } :=
            hQ es _ s.drawn g nd hm hn (Heap.SameBut.update s.heap r _) ⟨_, es2, _, _, ho3, hex2, rfl, g2, nd2, hm2, hb2, hf2, hn2, hr2, .inr (by show (t2.led && t.led) = true; rw [led1, led2]; rfl)⟩
          first
            | exact wpAny_bind (wpAny_storeSet_of ho2 hd2 (wpAny_pure fin) (fits_of_scanBound hb2))
            | exact wpAny_bind (wpAny_storeSet_of ho2 hd2 (wpAny_bind (wpAny_pure (wpAny_pure fin))) (fits_of_scanBound hb2))
        · refine wp_if_neg hs ?_
          have fin : Q es { s with heap := s.heap } := hQ es s.heap s.drawn g nd hm hn (Heap.SameBut.refl r s.heap) ⟨o2, es2, ep2, t2, ho2, hex2, hd2, g2, nd2, hm2, hb2, hf2, hn2, hr2, hl2⟩
          first
            | exact wpAny_pure fin
            | exact wpAny_bind (wpAny_pure (wpAny_pure fin))
end
end L2

set_option Elab.async false
set_option linter.all false
set_option maxRecDepth 100000
set_option maxHeartbeats 2000000
/-! PXi: a ^ b of sets of ints, at the library's level. -/
namespace L2
open PySem PySem.Spec PyProof.Rows
section
variable {P : Program} {w : World} {A : Around} {E : Value → Shared → Prop} {s : Shared}
theorem any_set {v : Value} {Q : Bool → Shared → Prop} (hT : s.TypeIs v "set") (hQ : Q true s) : wpAny (model P w) A (Builtin.Frozenset.isAnySet v) Q E s := by
  unfold Builtin.Frozenset.isAnySet
  refine wpAny_bind (wpAny_isInstance (b := true) hT sub_set_self ?_)
  exact wpAny_pure hQ
theorem epoch_at {a : Addr} {o : Obj} {es : Array (Int × Value)} {ep : Nat} {t : SetTable} {Q : Nat → Shared → Prop} (ho : s.heap.get? a = some o) (hd : o.data = .set es ep t) (hf : t.fits es.size = true) (h : Q ep s) :
    wpAny (model P w) A (setEpoch a) Q E s := by
  unfold setEpoch
  exact wpAny_bind (wpAny_setState_of ho hd hf (wpAny_pure h))
theorem unch_at {id : String} {a : Addr} {o : Obj} {es : Array (Int × Value)} {ep : Nat} {t : SetTable} {Q : Unit → Shared → Prop} (ho : s.heap.get? a = some o) (hd : o.data = .set es ep t) (hf : t.fits es.size = true) (h : Q () s) :
    wpAny (model P w) A (Builtin.Frozenset.unchanged id a ep) Q E s := by
  unfold Builtin.Frozenset.unchanged
  refine wpAny_bind (epoch_at ho hd hf ?_)
  exact wp_if_neg (by simp) (wpAny_pure h)
theorem symdiff_upd {id : String} {a r : Addr} {S T : Int → Bool} {n m : Nat} {Q : Unit → Shared → Prop} (Ra : SetR w s.heap a S n) (Rr : SetR w s.heap r T m) (hne : a ≠ r) (hn : n ≤ 30) (hm : m ≤ 30)
    (hQ : ∀ h' d c, Heap.SameBut r s.heap h' → SetR w h' r (fun k => T k != S k) c → c ≤ 60 → Q () { s with heap := h', drawn := d }) :
    wpAny (model P w) A (Builtin.Frozenset.symmetricDifferenceUpdate id r (.ref a)) Q E s := by
  have Ra0 := Ra
  obtain ⟨o, es, ep, t, ho, hex, hd, g, nd, hmm, hb, hf, hsz, hr, hl⟩ := Ra
  have hT : s.TypeIs (.ref a) "set" := ⟨o, ho, hex.1⟩
  unfold Builtin.Frozenset.symmetricDifferenceUpdate
  refine wp_if_neg (by
    intro z
    have : (Value.ref a : Value) = .ref r := eq_of_beq z
    injection this with e
    exact hne e) ?_
  try refine wpAny_bind (wpAny_pure ?_)
  refine wpAny_bind (wpAny_typeOf hT ?_)
  refine wp_if_neg (by decide) ?_
  try refine wpAny_bind (wpAny_pure ?_)
  refine wpAny_bind (any_set hT ?_)
  refine wp_if_pos rfl ?_
  refine wpAny_bind (wpAny_pure ?_)
  unfold Builtin.Frozenset.addrOf
  refine wpAny_bind (wpAny_pure ?_)
  refine wpAny_bind (epoch_at ho hd hf ?_)
  refine wpAny_holding ?_
  refine wpAny_bind (walk_unseen Ra0 Rr hne fun xs h1 d g1 nd1 hm1 hs1 sb1 Rr1 => ?_)
  refine wpAny_bind (wpAny_forIn_array' _ (fun rest b s' => ∃ done h' c, xs.toList = done ++ rest ∧ s' = { s with heap := h', drawn := d } ∧ Heap.SameBut r s.heap h' ∧ SetR w h' r (fun k => T k != decide (k ∈ done.map keyOf)) c ∧ c ≤ m + done.length) _ ?turn ?fin xs _ ⟨[], h1, m, rfl, rfl, sb1, ?_, Nat.le_refl _⟩)
  case fin =>
    rintro b s' ⟨done, h', c, e, rfl, sb, R, hc⟩
    rw [List.append_nil] at e
    have hlen : done.length = n := by rw [← e, Array.length_toList]; exact hs1
    refine wpAny_pure (hQ h' d c sb (R.congr fun k => ?_) (by omega))
    rw [← e]
    congr 1
    have := hm1 k
    by_cases z : k ∈ xs.toList.map keyOf
    · rw [decide_eq_true z, this.2 z]
    · rw [decide_eq_false z]
      cases q : S k
      · rfl
      · exact absurd (this.1 q) z
  case turn =>
    rintro ⟨hh, x⟩ rest b s' ⟨done, h', c, e, rfl, sb, R, hc⟩
    have hmem : (hh, x) ∈ xs.toList := by rw [e]; simp
    obtain ⟨k, tk, e1, e2⟩ := g1 _ hmem
    dsimp only at e1 e2
    subst e1 e2
    have hk : k ∉ done.map keyOf := by
      rw [e, List.map_append, List.map_cons] at nd1
      have := (List.nodup_append.mp nd1).2.2
      exact fun z => this _ z _ List.mem_cons_self rfl
    have hlen : done.length + (rest.length + 1) = n := by
      have := congrArg List.length e
      rw [Array.length_toList, hs1, List.length_append, List.length_cons] at this
      exact this.symm
    have ho' : h'.get? a = some o := (sb.2 a hne).trans ho
    have go : ∀ (h2 : Heap) (c2 : Nat) (U : Int → Bool), Heap.SameBut r s.heap h2 → SetR w h2 r U c2 → (∀ j, U j = (T j != decide (j ∈ (done ++ [(hashInt k, Value.int k tk)]).map keyOf))) → c2 ≤ m + done.length + 1 →
        wpAny (model P w) A (Builtin.Frozenset.unchanged id a ep) (fun _ s' => ∃ done h' c, xs.toList = done ++ rest ∧ s' = { s with heap := h', drawn := d } ∧ Heap.SameBut r s.heap h' ∧ SetR w h' r (fun k => T k != decide (k ∈ done.map keyOf)) c ∧ c ≤ m + done.length) E { s with heap := h2, drawn := d } := fun h2 c2 U sb2 R2 hU hc2 => by
      refine unch_at (s := { s with heap := h2, drawn := d }) ((sb2.2 a hne).trans ho) hd hf ?_
      exact ⟨done ++ [(hashInt k, Value.int k tk)], h2, c2, by rw [e]; simp, rfl, sb2, R2.congr fun j => (hU j).symm, by rw [List.length_append, List.length_singleton]; omega⟩
    have hU1 : ∀ j : Int, decide (j ∈ (done ++ [(hashInt k, Value.int k tk)]).map keyOf) = (decide (j ∈ done.map keyOf) || decide (j = k)) := fun j => by
      rw [List.map_append]
      by_cases z : j ∈ done.map keyOf
      · simp [z]
      · by_cases z2 : j = k
        · subst z2
          have : keyOf (hashInt j, Value.int j tk) = j := rfl
          simp [this]
        · have : keyOf (hashInt k, Value.int k tk) = k := rfl
          simp only [List.mem_append, List.map_cons, List.map_nil, List.mem_singleton, this, z, z2, false_or, or_false, decide_false, Bool.or_false]
    refine wpAny_bind ?_
    refine wpAny_holding ?_
    refine wpAny_bind (setR_discard (s := { s with heap := h', drawn := d }) R fun h2 c2 sb2 R2 hc2 => ?_)
    have hkd : decide (k ∈ done.map keyOf) = false := decide_eq_false hk
    cases hb2 : (T k != decide (k ∈ done.map keyOf)) with
    | true =>
      refine wp_if_neg (by simp) ?_
      have fin := go h2 c2 _ (sb.trans sb2) R2 (fun j => by
        rw [hU1 j]
        by_cases z : j = k
        · subst z
          have hb3 : T j = true := by rw [hkd] at hb2; simpa using hb2
          rw [hkd, hb3]
          simp
        · simp [z]) (by omega)
      first
        | exact wpAny_pure (wpAny_bind (wpAny_mono fin (fun _ _ z => wpAny_pure z) fun _ _ z => z))
        | exact wpAny_pure (wpAny_mono fin (fun _ _ z => wpAny_pure z) fun _ _ z => z)
    | false =>
      refine wp_if_pos (by simp) ?_
      refine wpAny_bind (setR_add_hashed (s := { s with heap := h2, drawn := d }) R2 (by unfold scanBound; omega) fun h3 sb3 R3 => ?_)
      have fin := go h3 _ _ ((sb.trans sb2).trans sb3) R3 (fun j => by
        rw [hU1 j]
        by_cases z : j = k
        · subst z
          have hb3 : T j = false := by rw [hkd] at hb2; simpa using hb2
          rw [hkd, hb3]
          simp
        · simp [z]) (by split <;> omega)
      first
        | exact wpAny_pure (wpAny_bind (wpAny_mono fin (fun _ _ z => wpAny_pure z) fun _ _ z => z))
        | exact wpAny_pure (wpAny_mono fin (fun _ _ z => wpAny_pure z) fun _ _ z => z)
  · exact Rr1.congr fun k => by simp
end
end L2

set_option Elab.async false
set_option linter.all false
set_option maxRecDepth 100000
set_option maxHeartbeats 2000000
/-! PXj: a ^ b of sets, the operator. -/
namespace L2
open PySem PySem.Spec PyProof.Rows
theorem entry_set_xor : entryFor table "set.__xor__" = some Builtin.«frozenset.__xor__» :=
  entryFor_alias (id' := "frozenset.__xor__") (by kernel_rfl) rfl (by decide +kernel) (by kernel_rfl)
section
variable {P : Program} {w : World} {A : Around} {E : Value → Shared → Prop} {s : Shared}
theorem xor_body {a b : Addr} {S T : Int → Bool} {n m : Nat} {Q : Value → Shared → Prop} (Ra : SetR w s.heap a S n) (Rb : SetR w s.heap b T m) (hn : n ≤ 30) (hm : m ≤ 30)
    (hQ : ∀ h' d c, (∀ x o, s.heap.get? x = some o → h'.get? x = some o) → SetR w h' s.heap.objs.size (fun k => T k != S k) c → c ≤ 60 → Q (.ref s.heap.objs.size) { s with heap := h', drawn := d }) :
    wpAny (model P w) A (Builtin.«frozenset.__xor__» ⟨[.ref a, .ref b], []⟩) (fun fin s' => ∃ r, fin = .done (.ret r) ∧ Q r s') E s := by
  have hTa : s.TypeIs (.ref a) "set" := let ⟨o, _, _, _, ho, hex, _⟩ := Ra; ⟨o, ho, hex.1⟩
  have hTb : s.TypeIs (.ref b) "set" := let ⟨o, _, _, _, ho, hex, _⟩ := Rb; ⟨o, ho, hex.1⟩
  unfold Builtin.«frozenset.__xor__»
  refine wpAny_bind (m := Builtin.Frozenset.slot1 "__xor__" _) ?_
  unfold Builtin.Frozenset.slot1
  refine wpAny_bind (wpAny_of_eq (a := (Value.ref a, [Value.ref b])) rfl ?_)
  refine wpAny_pure ?_
  dsimp only
  refine wpAny_bind (m := (Builtin.Frozenset.isAnySet (Value.ref a) <&&> Builtin.Frozenset.isAnySet (Value.ref b))) (wpAny_bind (any_set hTa ?_))
  refine any_set hTb ?_
  refine wp_if_neg (c := (!true) = true) (by decide) ?_
  try refine wpAny_bind (wpAny_pure ?_)
  -- the new set
  generalize (toString "frozenset." ++ toString "__xor__") = id
  refine wpAny_bind ?_
  refine wpAny_bind (m := Builtin.Frozenset.baseOf a) ?_
  unfold Builtin.Frozenset.baseOf
  refine wpAny_bind (wpAny_isInstance (b := true) hTa sub_set_self (wpAny_pure ?_))
  refine wpAny_bind (m := Builtin.Frozenset.newFrom id (Value.type "set") (Value.ref b)) ?_
  unfold Builtin.Frozenset.newFrom
  refine wpAny_bind (PpSet.newSet_ok ?_)
  have hr : (s.heap.push { cls := .type "set", dict := none, data := .set #[] 0 (.fresh 0 0 (!w.params.followText "set-order")) }).get? s.heap.objs.size = some { cls := .type "set", dict := none, data := .set #[] 0 (.fresh 0 0 (!w.params.followText "set-order")) } := Heap.get?_push_size _ rfl
  have keep : ∀ x o, s.heap.get? x = some o → (s.heap.push { cls := .type "set", dict := none, data := .set #[] 0 (.fresh 0 0 (!w.params.followText "set-order")) }).get? x = some o := fun x o e => Heap.get?_push_of_some _ e
  have Ra1 := Ra.at (h' := s.heap.push { cls := .type "set", dict := none, data := .set #[] 0 (.fresh 0 0 (!w.params.followText "set-order")) }) (keep a)
  have Rb1 := Rb.at (h' := s.heap.push { cls := .type "set", dict := none, data := .set #[] 0 (.fresh 0 0 (!w.params.followText "set-order")) }) (keep b)
  have nra : a ≠ s.heap.objs.size := Nat.ne_of_lt Ra.lt
  have nrb : b ≠ s.heap.objs.size := Nat.ne_of_lt Rb.lt
  generalize hh1 : s.heap.push { cls := .type "set", dict := none, data := .set #[] 0 (.fresh 0 0 (!w.params.followText "set-order")) } = h1 at hr keep Ra1 Rb1 ⊢
  have hTb1 : ({ s with heap := h1 } : Shared).TypeIs (.ref b) "set" := let ⟨o, _, _, _, ho, hex, _⟩ := Rb1; ⟨o, ho, hex.1⟩
  refine wpAny_bind (m := Builtin.Frozenset.addrOf (Value.ref s.heap.objs.size)) (wpAny_pure ?_)
  have fin : ∀ h2, Heap.SameBut s.heap.objs.size h1 h2 → SetR w h2 s.heap.objs.size T m → wpAny (model P w) A (Builtin.Frozenset.symmetricDifferenceUpdate id s.heap.objs.size (.ref a)) (fun _ s' => Q (.ref s.heap.objs.size) s') E { s with heap := h2 } := fun h2 sb2 R2 => by
    have Ra2 : SetR w h2 a S n := Ra1.at fun o e => (sb2.2 a nra).trans e
    refine symdiff_upd (s := { s with heap := h2 }) Ra2 R2 nra hn hm fun h3 d c sb3 R3 hc => ?_
    refine hQ h3 d c (fun x o e => ?_) R3 hc
    have hx : x ≠ s.heap.objs.size := Nat.ne_of_lt (Heap.lt_size e)
    exact (sb3.2 x hx).trans ((sb2.2 x hx).trans (keep x o e))
  have merge : wpAny (model P w) A (Builtin.Frozenset.merge id s.heap.objs.size b) (fun _ s' => ∃ h2, s' = { s with heap := h2 } ∧ Heap.SameBut s.heap.objs.size h1 h2 ∧ SetR w h2 s.heap.objs.size T m) E { s with heap := h1 } := by
    unfold Builtin.Frozenset.merge
    have Rb2 := Rb1
    obtain ⟨o, es, ep, t, ho, hex, hd, g, nd, hmm, hb, hf, hsz, hrr, hl⟩ := Rb2
    refine wpAny_bind (epoch_at (s := { s with heap := h1 }) ho hd hf ?_)
    exact merge_fresh (s := { s with heap := h1 }) hr Rb1 (Ne.symm nrb) hm fun h2 sb2 R2 => ⟨h2, rfl, sb2, R2⟩
  have upd : wpAny (model P w) A (Builtin.Frozenset.updateFrom id s.heap.objs.size (.ref b)) (fun _ s' => ∃ h2, s' = { s with heap := h2 } ∧ Heap.SameBut s.heap.objs.size h1 h2 ∧ SetR w h2 s.heap.objs.size T m) E { s with heap := h1 } := by
    unfold Builtin.Frozenset.updateFrom
    refine wpAny_bind (any_set hTb1 ?_)
    refine wp_if_pos rfl ?_
    refine wpAny_bind (m := Builtin.Frozenset.addrOf (Value.ref b)) (wpAny_pure ?_)
    first
      | exact merge
      | exact wpAny_bind (wpAny_mono merge (fun _ _ z => wpAny_pure z) fun _ _ z => z)
  refine wpAny_bind (wpAny_holding (wpAny_mono upd (fun _ s' z => ?_) fun _ _ z => z))
  obtain ⟨h2, rfl, sb2, R2⟩ := z
  refine wpAny_pure ?_
  refine wpAny_bind (m := Builtin.Frozenset.addrOf (Value.ref s.heap.objs.size)) (wpAny_pure ?_)
  refine wpAny_bind (wpAny_holding (wpAny_mono (fin h2 sb2 R2) (fun _ s' z => ?_) fun _ _ z => z))
  exact wpAny_pure (wpAny_pure ⟨_, rfl, z⟩)
/-- a ^ b, sets of ints -/
theorem xor_sets {a b : Addr} {S T : Int → Bool} {n m : Nat} {Q : Value → Shared → Prop} (Ra : SetR w s.heap a S n) (Rb : SetR w s.heap b T m) (hn : n ≤ 30) (hm : m ≤ 30)
    (hQ : ∀ h' d c, (∀ x o, s.heap.get? x = some o → h'.get? x = some o) → SetR w h' s.heap.objs.size (fun k => T k != S k) c → c ≤ 60 → Q (.ref s.heap.objs.size) { s with heap := h', drawn := d }) :
    wpAny (model P w) A (binaryOp .BitXor (.ref a) (.ref b)) Q E s := by
  have hTa : s.TypeIs (.ref a) "set" := let ⟨o, _, _, _, ho, hex, _⟩ := Ra; ⟨o, ho, hex.1⟩
  have hTb : s.TypeIs (.ref b) "set" := let ⟨o, _, _, _, ho, hex, _⟩ := Rb; ⟨o, ho, hex.1⟩
  refine wpAny_binaryOp_same (op := .BitXor) (T := "set") hTa hTb PySem.F.fills_set_xor PySem.F.slot_set_xor ?_
  refine wpAny_call_entry PySem.F.slot_set_xor hTa entry_set_xor ?_ (PySem.F.args_set_xor_2 _ _)
  exact xor_body Ra Rb hn hm fun h' d c k R hc => ⟨fun z => (by cases z), hQ h' d c k R hc⟩
end
end L2

set_option Elab.async false
set_option linter.all false
set_option maxRecDepth 100000
set_option maxHeartbeats 2000000
/-! PXk: sorted(set(a) ^ set(b)). -/
namespace L2
open PySem PySem.Spec PyProof.Rows
section
variable {X : Cx}
def rSetT (w : World) (K : PySem.W.Frag) : List V → Hp → VK → Prop := fun xs H Q => ∃ (p : Addr) (ns : List Int), xs = [.ref p] ∧ SqT K H p (ns.map V.int) ∧ ns.length ≤ 1000 ∧
  ∀ q c, H q = none → c ≤ ns.length → Q (.ref q) (upd H q (SetO w q (fun j => decide (j ∈ ns)) c))
theorem cr_setT (hc : X.calm = true) : CallR X (.type "set") (rSetT X.w X.K) := by
  intro pins s σ H xs us Q I r h
  obtain ⟨p, ns, rfl, hq, hl, q⟩ := h
  obtain ⟨u, rfl, rx⟩ := vals1 r
  cases rx
  obtain ⟨its, rv, pl, hz⟩ := I.tuple hq
  refine call_set_tupI ns (I.ok.hd hc) pl (by simpa using ints_of_vals rv) (by show ns.length + 1 < 4096; omega) fun h' tk c R hcl k => ?_
  exact ⟨.ref _, upd H s.heap.objs.size (SetO X.w s.heap.objs.size (fun j => decide (j ∈ ns)) c), I.laid (t' := tk) k (Nat.le_refl _) (setO_new R), rfl, q _ c (I.hok.fresh (Nat.le_refl _)) hcl⟩
def rXorS (w : World) : V → V → Hp → VK → Prop := fun x y H Q => ∃ (a b : Addr) (S T : Int → Bool) (n m : Nat), x = .ref a ∧ y = .ref b ∧ H a = some (SetO w a S n) ∧ H b = some (SetO w b T m) ∧ n ≤ 30 ∧ m ≤ 30 ∧
  ∀ q c, H q = none → c ≤ 60 → Q (.ref q) (upd H q (SetO w q (fun k => T k != S k) c))
theorem op_xorS : OpR X (binaryOp .BitXor) (rXorS X.w) := by
  intro pins s σ H x y v u Q I rx ry h
  obtain ⟨a, b, S, T, n, m, rfl, rfl, ha, hb, hn, hm, q⟩ := h
  cases rx
  cases ry
  refine xor_sets (setO_get I ha) (setO_get I hb) hn hm fun h' d c k R hc => ?_
  have J : Inv X pins σ (upd H s.heap.objs.size (SetO X.w s.heap.objs.size (fun k => T k != S k) c)) { s with heap := h', drawn := d } :=
    I.call (ch := []) (t' := s.toks) (Un.laid k (Nat.le_refl _) (I.hok.fresh (Nat.le_refl _))) (I.hok.laid k (Nat.le_refl _) (setO_new R)) I.bare (fun _ z => nomatch z)
  exact ⟨.ref _, _, J, rfl, q _ c (I.hok.fresh (Nat.le_refl _)) hc⟩
end
end L2
namespace PW
open PySem PySem.Spec PyProof.Rows L2
section
variable {X : Cx} {G : G0} {pn : List PinT} {Wx : WX} {pos p p1 p2 c1 c2 cpos : Pos} {a b : Expr} {da db : D}
theorem sdI_D (a b : List Int) : ∀ l : List Int, (l.Nodup → (sdI a b l).Nodup) ∧ ∀ k, k ∈ sdI a b l ↔ k ∈ l ∧ k ∉ b
  | [] => ⟨fun _ => .nil, fun k => by simp [sdI]⟩
  | x :: r => by
    obtain ⟨h1, h2⟩ := sdI_D a b r
    unfold sdI
    rw [memI_D]
    by_cases q : x ∈ b
    · rw [decide_eq_true q]
      refine ⟨fun h => h1 (List.nodup_cons.mp h).2, fun k => ?_⟩
      rw [h2 k, List.mem_cons]
      constructor
      · rintro ⟨z1, z2⟩; exact ⟨.inr z1, z2⟩
      · rintro ⟨z1 | z1, z2⟩
        · exact absurd (z1 ▸ q) z2
        · exact ⟨z1, z2⟩
    · rw [decide_eq_false q]
      refine ⟨fun h => List.nodup_cons.mpr ⟨fun z => (List.nodup_cons.mp h).1 ((h2 x).mp z).1, h1 (List.nodup_cons.mp h).2⟩, fun k => ?_⟩
      show k ∈ x :: sdI a b r ↔ _
      rw [List.mem_cons, List.mem_cons, h2 k]
      constructor
      · rintro (z | ⟨z1, z2⟩)
        · exact ⟨.inl z, z ▸ q⟩
        · exact ⟨.inr z1, z2⟩
      · rintro ⟨z1 | z1, z2⟩
        · exact .inl z1
        · exact .inr ⟨z1, z2⟩
theorem sd_sorted {is js ns : List Int} (hp : ns.Pairwise (· < ·)) (hm : ∀ k : Int, k ∈ ns ↔ (decide (k ∈ js) != decide (k ∈ is)) = true) : ns = srtI (app (sdI is js (ddI is [])) (sdI js is (ddI js []))) [] := by
  obtain ⟨d1, d2⟩ := ddI_D is [] (by simp)
  obtain ⟨d3, d4⟩ := ddI_D js [] (by simp)
  obtain ⟨n1, m1⟩ := sdI_D is js (ddI is [])
  obtain ⟨n2, m2⟩ := sdI_D js is (ddI js [])
  rw [appD]
  have pm := srtI_perm (sdI is js (ddI is []) ++ sdI js is (ddI js [])) []
  rw [List.append_nil] at pm
  have nn : ns.Nodup := hp.imp (fun h => by omega)
  have nd : (sdI is js (ddI is []) ++ sdI js is (ddI js [])).Nodup := List.nodup_append.mpr ⟨n1 d1, n2 d3, fun x hx y hy e => by
    subst e
    have h1 := (m1 x).mp hx
    have h2 := (m2 x).mp hy
    rcases (d2 x).mp h1.1 with z | z
    · exact h2.2 z
    · cases z⟩
  refine sorted_one ((List.perm_ext_iff_of_nodup nn (pm.nodup_iff.mpr nd)).mpr fun k => ?_) (hp.imp (fun h => Int.le_of_lt h)) (srtI_sorted _ _ (by simp))
  rw [hm k, pm.mem_iff, List.mem_append, m1 k, m2 k, d2 k, d4 k]
  by_cases z1 : k ∈ is <;> by_cases z2 : k ∈ js <;> simp [z1, z2]
theorem se_xr (C : Cs X Wx) (g : X.mg "sorted" = none) (g2 : X.mg "set" = none) (ha : SE X G pn Wx a da) (hb : SE X G pn Wx b db) (hgl : Gl X "sorted" := by rfl) (hgl2 : Gl X "set" := by rfl)
    (na : starEach [.BinOp (.Call (.Name "set" p1) [a] [] c1) .BitXor (.Call (.Name "set" p2) [b] [] c2) pos] X.env = (false, eval (.BinOp (.Call (.Name "set" p1) [a] [] c1) .BitXor (.Call (.Name "set" p2) [b] [] c2) pos) X.env) :: starEach [] X.env := by rfl)
    (na1 : starEach [a] X.env = (false, eval a X.env) :: starEach [] X.env := by rfl) (na2 : starEach [b] X.env = (false, eval b X.env) :: starEach [] X.env := by rfl)
    (hpl : (backTo cpos (starEach [] X.env)).any (·.1) = false := by rfl) (hpl1 : (backTo c1 (starEach [] X.env)).any (·.1) = false := by rfl) (hpl2 : (backTo c2 (starEach [] X.env)).any (·.1) = false := by rfl) :
    SE X G pn Wx (.Call (.Name "sorted" p) [.BinOp (.Call (.Name "set" p1) [a] [] c1) .BitXor (.Call (.Name "set" p2) [b] [] c2) pos] [] cpos) (dXr da db) :=
  PE.imp (pe_callB (cr_sortedSet C.calm) hgl g PyProof.Rows.boot_sorted (pa_cons (pe_op op_xorS
    (pe_callTy (cr_setT C.calm) hgl2 g2 PyProof.Rows.boot_set (pa_cons ha pa_nil na1) (by decide) (by decide) na1 hpl1)
    (pe_callTy (cr_setT C.calm) hgl2 g2 PyProof.Rows.boot_set (pa_cons hb pa_nil na2) (by decide) (by decide) na2 hpl2)) pa_nil na) (by decide) (by decide) na hpl) fun σ H Q q => by
  obtain ⟨ρ, e, h, re, rh, af⟩ := q
  refine ⟨ρ, e, h, re, rh, ?_⟩
  unfold dXr at af
  cases q1 : da e h with
  | bad => rw [q1] at af; exact af
  | ex z h1 => rw [q1] at af; exact af
  | ok w1 h1 =>
    rw [q1] at af
    intro ρ1 H1 v1 x1 rh1 r1
    have af := Aft.ext x1 af
    simp only [Rs.bind] at af
    cases r1 <;> first | exact af.elim | skip
    case tup l t vs ht rs zz =>
      dsimp only at af
      cases q2 : intsO l with
      | none => rw [q2] at af; exact af.elim
      | some is =>
        rw [q2] at af
        obtain ⟨_, ev⟩ := intsO_vs rs q2
        subst ev
        dsimp only at af
        by_cases k1 : (smI is && Nat.ble (len is) 30) = true
        · rw [k1] at af
          dsimp only at af
          have li : is.length ≤ 30 := by
            rw [Bool.and_eq_true, bleD, lenD] at k1
            exact of_decide_eq_true k1.2
          refine ⟨t, is, rfl, ht.sq, by omega, fun qa ca hqa hca => ?_⟩
          have re1 := re.ext x1
          have x2 : Ext ρ1 H1 ρ1 (upd H1 qa (SetO X.w qa (fun j => decide (j ∈ is)) ca)) := .new hqa
          have nqa : qa ∉ ρ1 := fun z => by obtain ⟨u, e, _⟩ := rh1.nt qa z; rw [hqa] at e; cases e
          refine ⟨ρ1, e, h1, re1.ext x2, rh1.new hqa, ?_⟩
          have af := Aft.ext x2 af
          cases q3 : db e h1 with
          | bad => rw [q3] at af; exact af
          | ex z h2 => rw [q3] at af; exact af
          | ok w2 h2 =>
            rw [q3] at af
            intro ρ3 H3 v2 x3 rh3 r2
            have af := Aft.ext x3 af
            have eqa : H3 qa = some (SetO X.w qa (fun j => decide (j ∈ is)) ca) := x3.frame qa _ upd_same nqa
            cases r2 <;> first | exact af.elim | skip
            case tup l2 t2 vs2 ht2 rs2 zz2 =>
              dsimp only at af
              cases q4 : intsO l2 with
              | none => rw [q4] at af; exact af.elim
              | some js =>
                rw [q4] at af
                obtain ⟨_, ev⟩ := intsO_vs rs2 q4
                subst ev
                dsimp only at af
                by_cases k2 : (smI js && Nat.ble (len js) 30) = true
                · rw [k2] at af
                  dsimp only at af
                  have lj : js.length ≤ 30 := by
                    rw [Bool.and_eq_true, bleD, lenD] at k2
                    exact of_decide_eq_true k2.2
                  refine ⟨t2, js, rfl, ht2.sq, by omega, fun qb cb hqb hcb => ?_⟩
                  have nab : qa ≠ qb := ne_of_none eqa hqb
                  refine ⟨qa, qb, _, _, ca, cb, rfl, rfl, by rw [upd_ne nab]; exact eqa, upd_same, by omega, by omega, fun qc cc hqc hcc => ?_⟩
                  refine ⟨qc, _, cc, rfl, upd_same, by omega, fun ns pp hp hm hl hn => ?_⟩
                  have en := sd_sorted (is := is) (js := js) hp hm
                  have x4 : Ext ρ3 H3 ρ3 (upd H3 qb (SetO X.w qb (fun j => decide (j ∈ js)) cb)) := .new hqb
                  have rh4 := rh3.new (o := SetO X.w qb (fun j => decide (j ∈ js)) cb) hqb
                  have x5 : Ext ρ3 _ ρ3 (upd (upd H3 qb (SetO X.w qb (fun j => decide (j ∈ js)) cb)) qc (SetO X.w qc (fun k => decide (k ∈ js) != decide (k ∈ is)) cc)) := .new hqc
                  have rh5 := rh4.new (o := SetO X.w qc (fun k => decide (k ∈ js) != decide (k ∈ is)) cc) hqc
                  have af := Aft.ext (x4.trans x5) af
                  rw [en]
                  rw [mpI_D] at af
                  refine aft_lst af rh5 ?_ hn
                  generalize srtI (app (sdI is js (ddI is [])) (sdI js is (ddI js []))) [] = l
                  clear af en hm hl hp
                  induction l with
                  | nil => exact .nil
                  | cons i r ih => exact .cons (.int i) ih
                · rw [Bool.not_eq_true] at k2
                  rw [k2] at af; exact af.elim
        · rw [Bool.not_eq_true] at k1
          rw [k1] at af; exact af.elim
end
end PW

set_option Elab.async false
set_option linter.all false
set_option maxRecDepth 100000
set_option maxHeartbeats 2000000
/-! PXl: name = [.. for .. for ..]. -/
namespace PW
open PySem PySem.Spec PyProof.Rows L2
section
variable {X : Cx} {G : G0} {Wx : WX} {pos : Pos} {tg iter tg1 iter1 elt : Expr} {ifs1 : List Expr} {scope : Scope} {own : List (Str × Nat)} {src src1 : DI} {t t1 : TGW} {sl sl1 : List Nat} {cnd : DB} {del : D}
theorem ss_setlc2 (i : Nat) {vs1 : List Nat} (C : Cs X Wx) {y : Str} {py spos : Pos} (hi : SI X G [] Wx tg iter src) (hg : ∀ (s : Shared) (H : Hp) (C : Addr) (cl : List (Str × Addr)) (fp : List Addr), SG (X.blk s H scope (compEnvC scope cl C X.env) fp) G [] sl tg t)
    (hi1 : ∀ (s : Shared) (H : Hp) (C : Addr) (cl : List (Str × Addr)) (fp : List Addr), SI (X.blk s H scope (compEnvC scope cl C X.env) fp) G [] F0 tg1 iter1 src1)
    (hg1 : ∀ (s : Shared) (H : Hp) (C : Addr) (cl : List (Str × Addr)) (fp : List Addr), SG (X.blk s H scope (compEnvC scope cl C X.env) fp) G [] sl1 tg1 t1)
    (ht1 : ∀ (s : Shared) (H : Hp) (C : Addr) (cl : List (Str × Addr)) (fp : List Addr), STs (X.blk s H scope (compEnvC scope cl C X.env) fp) G [] F0 ifs1 cnd)
    (he : ∀ (s : Shared) (H : Hp) (C : Addr) (cl : List (Str × Addr)) (fp : List Addr), SE (X.blk s H scope (compEnvC scope cl C X.env) fp) G [] F0 elt del)
    (hsl : ∀ j ∈ sl, j ∈ own.map (·.2) := by decide) (hsl1 : ∀ j ∈ sl1, j ∈ vs1 := by decide) (hv : ∀ i ∈ vs1, i ∈ own.map (·.2) := by decide) (ok : blkC X.N X.env.scope scope own = true := by kernel_rfl) (hs : ∀ x, foldedSetIterable iter X.env x = pure x := by intro _; rfl) (hs1 : ∀ env x, foldedSetIterable iter1 env x = pure x := by intro _ _; rfl)
    (hy : X.N[i]? = some y := by rfl) (hyl : X.env.scope.names.lookup y = some .local := by rfl) (hsw : swapsWith (.ListComp elt [⟨tg, iter, [], 0⟩, ⟨tg1, iter1, ifs1, 0⟩] scope pos) (some (.Name y py)) spos.line X.env = pure true := by exact sw_true rfl rfl rfl rfl) :
    SS X G [] Wx (.Assign [.Name y py] (.ListComp elt [⟨tg, iter, [], 0⟩, ⟨tg1, iter1, ifs1, 0⟩] scope pos) spos) (sAsg (cNew (cLc2 src t src1 t1 cnd del (own.map (·.2)) vs1)) (tN i)) :=
  PS.imp (ps_setLc2 (g := rdT (gx X G) [] sl t) (tt := rd (gx X G) [] rEqB F0 tYes) (wi1 := rd (gx X G) [] (SrcR (gx X G)) F0 src1) (g1 := rdT (gx X G) [] sl1 t1) (tt1 := rd (gx X G) [] rEqB F0 cnd) (te := rd (gx X G) [] (RW (gx X G)) F0 del) C.calm C.nd hy hyl hsw hi (blkOk_by ok) hv hg (fun _ _ _ _ _ => sts_nil) hi1 hg1 ht1 he hs hs1) fun D σ H q => by
  refine lc2_rd hsl hsl1 (cnew_rd ((rdS_bind (k := fun e w h => match tN i w e h with | .ok e1 h2 => .nx e1 h2 | _ => .bad) q).imp ?_))
  rintro v H1 ⟨ρ, e, w, h, re, rh, r, f⟩
  exact f ρ H1 _ .refl rh (re.set r (by simp))
end
end PW

set_option Elab.async false
set_option linter.all false
set_option maxRecDepth 100000
set_option maxHeartbeats 2000000
/-! PXm: min of two tuples of tuples of ints. -/
namespace L2
open PySem PySem.Spec PyProof.Rows
section
variable {prog : Program} {w : World} {A : Around} {I : Addr} {fp wr : List Addr} {n : Nat} {P : Nat → Value → Prop} {St : Nat → Heap → Prop} {E : Value → Shared → Prop}
/-- `<` of what is walked, wherever the old objects stand -/
def CmpK (prog : Program) (w : World) (A : Around) (h0 : Heap) (P : Nat → Value → Prop) (bt : Nat → Nat → Bool) : Prop :=
  ∀ i j vi vj (s : Shared) (Q : Value → Shared → Prop) (E : Value → Shared → Prop), (∀ b o, h0.get? b = some o → s.heap.get? b = some o) → P i vi → P j vj → Q (.bool (bt i j)) s → wpAny (model prog w) A (richCompare .Lt vi vj) Q E s
theorem min_loopK {R : Result → Shared → Prop} (W : Walks prog w A.in1 I fp wr n P St) (bt : Nat → Nat → Bool) (h0 : Heap) (hcmp : CmpK prog w A.in1 h0 P bt) (S : Addr) (hSf : S ∉ fp) (hw : ∀ b o, h0.get? b = some o → b ∉ wr ∧ b ≠ S) :
    ∀ (k j : Nat) (s : Shared) (vb : Value) (c : Nat), n - (j + 1) = k → j + 1 ≤ n → St (j + 1) s.heap → P (argBest bt j) vb → (∀ b o, h0.get? b = some o → s.heap.get? b = some o) →
    s.heap.get? S = some { cls := .type "list", dict := none, data := .seq #[vb, vb] c, slots := #[] } →
    (∀ v h' tk, P (argBest bt (n - 1)) v → (∀ b o, b ∉ wr → b ≠ S → s.heap.get? b = some o → h'.get? b = some o) → R (.ok (.ret v)) { s with heap := h', toks := tk }) →
    codeAny (model prog w) A (.builtin "min.loop" ⟨[.ref I, .none, .ref S], []⟩) R s := by
  have hSw : S ∉ wr := fun h => hSf (W.sub _ h)
  have hname : (toString "min" ++ toString ".loop" : String) = "min.loop" := by decide
  intro k
  induction k with
  | zero =>
    intro j s vb c hk hj hst hPb h00 hS hR
    have hin : j + 1 = n := by omega
    refine codeAny_builtin F.entry_min_loop ?_
    rw [Around.under_plainId F.plain_min_loop _]
    show wpAny _ A.in1 (seqItems? (.ref S) >>= _) _ _ s
    refine wpAny_bind (wpAny_seqItems hS rfl ?_)
    show wpAny _ A.in1 (tryCatch (pyNext (.ref I)) _ >>= _) _ _ s
    refine wpAny_bind (wpAny_tryCatch (W.done s _ _ (hin ▸ hst) fun h' tk hk' => ?_))
    have hS' := hk' S _ hSw hS
    show wpAny _ A.in1 (updateSeq S (fun _ => #[]) >>= _) _ _ _
    refine wpAny_bind ?_
    refine wpAny_updateSeq hS' rfl (wpAny_bind (wpAny_letGo (wpAny_pure ?_)))
    exact hR vb _ tk (by rw [← hin]; exact hPb) fun b o hbw hbS e => (Heap.get?_update_other _ _ (Ne.symm hbS)).trans (hk' b o hbw e)
  | succ k ih =>
    intro j s vb c hk hj hst hPb h00 hS hR
    have hlt : j + 1 < n := by omega
    refine codeAny_builtin F.entry_min_loop ?_
    rw [Around.under_plainId F.plain_min_loop _]
    show wpAny _ A.in1 (seqItems? (.ref S) >>= _) _ _ s
    refine wpAny_bind (wpAny_seqItems hS rfl ?_)
    show wpAny _ A.in1 (tryCatch (pyNext (.ref I)) _ >>= _) _ _ s
    refine wpAny_bind (wpAny_tryCatch (W.item (j + 1) s _ _ hlt hst fun v h' tk hP hst' hk' => ?_))
    have hS' := hk' S _ hSw hS
    have h01 : ∀ b o, h0.get? b = some o → h'.get? b = some o := fun b o e => hk' b o (hw b o e).1 (h00 b o e)
    show wpAny _ A.in1 (tryCatch (holding [v, v] (richCompare .Lt v vb >>= _)) _ >>= _) _ _ _
    refine wpAny_bind (wpAny_tryCatch (wpAny_holding (wpAny_bind (hcmp (j + 1) (argBest bt j) v vb _ _ _ h01 hP hPb ?_))))
    refine wpAny_bind (wpAny_holding (wpAny_truthy_bool ?_))
    refine wpAny_bind (wpAny_letGo (wpAny_pure ?_))
    cases hb : bt (j + 1) (argBest bt j) with
    | true =>
      simp only [if_true]
      refine wpAny_bind ?_
      refine wpAny_updateSeq hS' rfl (wpAny_bind (wpAny_letGo ?_))
      rw [hname]
      refine wpAny_pure ⟨plainId_quiet F.plain_min_loop _, ih (j + 1) _ v _ (by omega) hlt (W.frame _ _ _ hst' fun b hbf o e => ?_) (by simp only [argBest, hb, if_true]; exact hP) (fun b o e => ?_) (Heap.get?_update_self _ hS' rfl)
        fun v' h'' tk'' hP' hk'' => ?_⟩
      · exact (Heap.get?_update_other _ _ (fun h : S = b => hSf (by rw [h]; exact hbf))).trans e
      · exact (Heap.get?_update_other _ _ (Ne.symm (hw b o e).2)).trans (h01 b o e)
      · exact hR v' h'' tk'' hP' fun b o hbw hbS e => hk'' b o hbw hbS ((Heap.get?_update_other _ _ (Ne.symm hbS)).trans (hk' b o hbw e))
    | false =>
      simp only [Bool.false_eq_true, if_false]
      refine wpAny_bind (wpAny_letGo ?_)
      rw [hname]
      refine wpAny_pure ⟨plainId_quiet F.plain_min_loop _, ih (j + 1) _ vb c (by omega) hlt hst' (by simp only [argBest, hb, Bool.false_eq_true, if_false]; exact hPb) h01 hS' fun v' h'' tk'' hP' hk'' => ?_⟩
      exact hR v' h'' tk'' hP' fun b o hbw hbS e => hk'' b o hbw hbS (hk' b o hbw e)
theorem min_firstK {R : Result → Shared → Prop} (W : Walks prog w A.in1 I fp wr n P St) (bt : Nat → Nat → Bool) (h0 : Heap) (hcmp : CmpK prog w A.in1 h0 P bt) (S : Addr) (hSf : S ∉ fp) (hw : ∀ b o, h0.get? b = some o → b ∉ wr ∧ b ≠ S) (hn : 0 < n) {s : Shared} {c : Nat} (hst : St 0 s.heap)
    (h00 : ∀ b o, h0.get? b = some o → s.heap.get? b = some o) (hS : s.heap.get? S = some { cls := .type "list", dict := none, data := .seq #[] c, slots := #[] })
    (hR : ∀ v h' tk, P (argBest bt (n - 1)) v → (∀ b o, b ∉ wr → b ≠ S → s.heap.get? b = some o → h'.get? b = some o) → R (.ok (.ret v)) { s with heap := h', toks := tk }) :
    codeAny (model prog w) A (.builtin "min.loop" ⟨[.ref I, .none, .ref S], []⟩) R s := by
  have hSw : S ∉ wr := fun h => hSf (W.sub _ h)
  have hname : (toString "min" ++ toString ".loop" : String) = "min.loop" := by decide
  refine codeAny_builtin F.entry_min_loop ?_
  rw [Around.under_plainId F.plain_min_loop _]
  show wpAny _ A.in1 (seqItems? (.ref S) >>= _) _ _ s
  refine wpAny_bind (wpAny_seqItems hS rfl ?_)
  show wpAny _ A.in1 (tryCatch (pyNext (.ref I)) _ >>= _) _ _ s
  refine wpAny_bind (wpAny_tryCatch (W.item 0 s _ _ hn hst fun v h' tk hP hst' hk' => ?_))
  have hS' := hk' S _ hSw hS
  show wpAny _ A.in1 (updateSeq S (fun _ => #[v, v]) >>= _) _ _ _
  refine wpAny_bind ?_
  refine wpAny_updateSeq hS' rfl ?_
  rw [hname]
  refine wpAny_pure ⟨plainId_quiet F.plain_min_loop _, min_loopK W bt h0 hcmp S hSf hw _ 0 _ v _ rfl hn (W.frame _ _ _ hst' fun b hbf o e => ?_) hP (fun b o e => ?_) (Heap.get?_update_self _ hS' rfl) fun v' h'' tk'' hP' hk'' => ?_⟩
  · exact (Heap.get?_update_other _ _ (fun h : S = b => hSf (by rw [h]; exact hbf))).trans e
  · exact (Heap.get?_update_other _ _ (Ne.symm (hw b o e).2)).trans (hk' b o (hw b o e).1 (h00 b o e))
  · exact hR v' h'' tk'' hP' fun b o hbw hbS e => hk'' b o hbw hbS ((Heap.get?_update_other _ _ (Ne.symm hbS)).trans (hk' b o hbw e))
/-- min(a, b), whatever `<` tells of them -/
theorem min_twoK {s : Shared} {a b : Value} {bt : Nat → Nat → Bool} {Q : Value → Shared → Prop} (hh : A.handled = none) (hcmp : CmpK prog w A.in1 s.heap (fun i v => (#[a, b] : Array Value)[i]? = some v) bt)
    (h : ∀ h' tk, (∀ c o, s.heap.get? c = some o → h'.get? c = some o) → Q (if bt 1 0 = true then b else a) { s with heap := h', toks := tk }) :
    wpAny (model prog w) A (call (.builtin "min") [a, b]) Q E s := by
  have hname : (toString "min" ++ toString ".loop" : String) = "min.loop" := by decide
  refine call_function_tree F.kind_min F.plain_min F.entry_min (F.args_min2 _ _) ?_
  show wpAny _ A.in1 (Builtin.Builtins.bindParams "min" ["key", "default"] 0 ⟨[], []⟩ >>= _) _ _ s
  refine wpAny_bind (wpAny_of_eq (show Builtin.Builtins.bindParams "min" ["key", "default"] 0 ⟨[], []⟩ = pure [none, none] from rfl) ?_)
  show wpAny _ A.in1 (newTuple [a, b] >>= _) _ _ s
  refine wpAny_bind (wpAny_newObj_type ?_)
  have hT : (s.heap.push { cls := .type "tuple", data := .seq #[a, b] }).IsTuple s.heap.objs.size #[a, b] := ⟨_, Heap.get?_push_size _ rfl, rfl, 0, rfl⟩
  have hsz : (s.heap.push { cls := .type "tuple", data := .seq #[a, b] }).objs.size = s.heap.objs.size + 1 := Heap.size_push ..
  refine wpAny_bind (wpAny_pyIter_tuple hT ?_)
  refine wpAny_bind (wpAny_newObj_type ?_)
  rw [hname]
  have hz3 : ((s.heap.push { cls := .type "tuple", data := .seq #[a, b] }).push { cls := .type "tuple_iterator", data := .fields #[.ref s.heap.objs.size, .int 0 0] }).objs.size = s.heap.objs.size + 2 := by rw [Heap.size_push, hsz]
  have hlt : ∀ x o, s.heap.get? x = some o → x < s.heap.objs.size := fun x o e => Heap.lt_size e
  refine wpAny_pure ⟨plainId_quiet F.plain_min_loop _, min_firstK (Walks.tuple (A := A.in1) hh _ s.heap.objs.size (by rw [hsz]; exact Nat.ne_of_lt (Nat.lt_succ_self _)) #[a, b]) bt s.heap hcmp _ ?_ ?_ (show 0 < 2 by decide) ?_ ?_ (Heap.get?_push_size _ rfl) ?_⟩
  · intro hm
    have hm : ((s.heap.push { cls := .type "tuple", data := .seq #[a, b] }).push { cls := .type "tuple_iterator", data := .fields #[.ref s.heap.objs.size, .int 0 0] }).objs.size ∈ [(s.heap.push { cls := .type "tuple", data := .seq #[a, b] }).objs.size, s.heap.objs.size] := hm
    rw [hz3, hsz] at hm
    simp at hm
  · intro x o e
    have := hlt x o e
    refine ⟨fun hm => ?_, fun e1 => ?_⟩
    · have hm : x ∈ [(s.heap.push { cls := .type "tuple", data := .seq #[a, b] }).objs.size] := hm
      rw [hsz, List.mem_singleton] at hm
      rw [hm] at this
      exact absurd this (Nat.not_lt.mpr (Nat.le_add_right _ 1))
    · have e1 : x = ((s.heap.push { cls := .type "tuple", data := .seq #[a, b] }).push { cls := .type "tuple_iterator", data := .fields #[.ref s.heap.objs.size, .int 0 0] }).objs.size := e1
      rw [hz3] at e1
      rw [e1] at this
      exact absurd this (Nat.not_lt.mpr (Nat.le_add_right _ 2))
  · refine ⟨⟨_, Heap.get?_push_of_some _ (Heap.get?_push_size _ rfl), rfl, rfl⟩, (hT.push _).push _⟩
  · intro x o e
    exact Heap.get?_push_of_some _ (Heap.get?_push_of_some _ (Heap.get?_push_of_some _ e))
  · intro v h' tk hP hk
    have hold : ∀ c o, s.heap.get? c = some o → h'.get? c = some o := fun c o e => by
      have hc := hlt c o e
      refine hk c o (fun hm => ?_) (fun e1 => ?_) (Heap.get?_push_of_some _ (Heap.get?_push_of_some _ (Heap.get?_push_of_some _ e)))
      · have hm : c ∈ [(s.heap.push { cls := .type "tuple", data := .seq #[a, b] }).objs.size] := hm
        rw [hsz, List.mem_singleton] at hm
        rw [hm] at hc
        exact absurd hc (Nat.not_lt.mpr (Nat.le_add_right _ 1))
      · have e1 : c = ((s.heap.push { cls := .type "tuple", data := .seq #[a, b] }).push { cls := .type "tuple_iterator", data := .fields #[.ref s.heap.objs.size, .int 0 0] }).objs.size := e1
        rw [hz3] at e1
        rw [e1] at hc
        exact absurd hc (Nat.not_lt.mpr (Nat.le_add_right _ 2))
    have q := h h' tk hold
    have hP : (#[a, b] : Array Value)[argBest bt 1]? = some v := hP
    have hv : v = if bt 1 0 = true then b else a := by
      cases hb : bt 1 0 with
      | true =>
        have e : argBest bt 1 = 1 := by
          show (if bt 1 0 then 1 else 0) = 1
          rw [hb]; rfl
        rw [e] at hP
        simpa using hP.symm
      | false =>
        have e : argBest bt 1 = 0 := by
          show (if bt 1 0 then 1 else 0) = 0
          rw [hb]; rfl
        rw [e] at hP
        simpa using hP.symm
    rw [hv]
    exact q
end
end L2
namespace PW
open PySem PySem.Spec PyProof.Rows L2
section
variable {X : Cx} {G : G0} {pn : List PinT} {Wx : WX} {pos pos' : Pos} {a : Expr} {da : D}
/-- name = e, in a suite too -/
theorem ss_setN (i : Nat) {x : Str} (nd : X.N.Nodup) (ha : SE X G pn Wx a da) (hi : X.N[i]? = some x := by rfl) (hx : Loc X.env.scope x := by first | exact Or.inl rfl | exact Or.inr rfl) (hs : swapsWith a (some (.Name x pos')) pos.line X.env = pure false := by rfl)
    (hf : X.fn x = true ∨ X.env.scope.names.lookup x = some .local := by first | exact .inl rfl | exact .inr rfl | assumption) (hp : ∀ p ∈ pn, p.1 ≠ i := by simp) : SS X G pn Wx (.Assign [.Name x pos'] a pos) (sAsg da (tN i)) := PS.imp (ps_set nd hi hx ha hs hf) fun D σ H q => by
  refine (rdS_bind (k := fun e w h => match tN i w e h with | .ok e1 h2 => .nx e1 h2 | _ => .bad) q).imp ?_
  rintro v H1 ⟨ρ, e, w, h, re, rh, r, f⟩
  exact f ρ H1 _ .refl rh (re.set r hp)
variable {c : CT} {dl : DL}
/-- g(), g a value that is a def -/
theorem se_callV0 {g : Expr} {dg : D} (C : Cs X Wx) (T : ∀ i, (∀ ws h, c i ws h = .bad) ∨ ∃ x st ps, Callee (amb X) G c i x st ps ∧ BindP x st ps) (hf : SE X G pn Wx g dg)
    (hc : eval (.Call g [] [] pos) X.env = (do callWith pos (← eval g X.env) [] (backTo pos (starEach [] X.env)) (backToKw pos (keywordEach [] X.env))) := by rfl) : SE X G pn Wx (.Call g [] [] pos) (dCallV c dg lNil) := by
  refine ⟨fun pins s σ H Q I q => ?_⟩
  refine Call_ ?_ hc
  refine thn (hf.run pins s σ H _ I (rd.bind q)) fun u s1 ⟨v, H1, I1, rv, ρ, e, wx, h, re, rh, rx, af⟩ => ?_
  cases rx <;> first | exact af.elim | skip
  rename_i i
  cases rv
  have af : Aft (gx X G) (RW (gx X G)) ρ H1 Wx σ (c i [] h) Q := af
  rcases T i with tb | ⟨x, st, ps, T, B⟩
  · rw [tb] at af; exact af.elim
  · obtain ⟨k, fd, F, hr, hb⟩ := T.fn B
    exact PySem.W.callWith_K0 I1.kIn T.kp (run_fnS (E := WE Wx) (us := []) F hr hb (passAt C.tk σ) I1 .nil (sp_of T rh .nil af))
end
end PW

set_option Elab.async false
set_option linter.all false
set_option maxRecDepth 100000
set_option maxHeartbeats 2000000
/-! PXn: min of two tuples of tuples of ints, the layer's rule and the model's. -/
namespace L2
open PySem PySem.Spec PyProof.Rows Ob

section
variable {κ : Type} [DecidableEq κ]
/-- by the first that differ -/
def lexG (lt : κ → κ → Bool) : List κ → List κ → Bool
  | [], [] => false
  | [], _ :: _ => true
  | _ :: _, [] => false
  | x :: xs, y :: ys => if x = y then lexG lt xs ys else lt x y
theorem lexAt_G {lt : κ → κ → Bool} {e r : Nat → Bool} : ∀ (xs ys : List κ) (i : Nat), (∀ j x y, xs[j]? = some x → ys[j]? = some y → e (i + j) = decide (x = y) ∧ (x ≠ y → r (i + j) = lt x y)) →
    lexAt e r (decide (xs.length < ys.length)) i (min xs.length ys.length) = lexG lt xs ys
  | [], [], i, h => rfl
  | [], y :: ys, i, h => by
    show lexAt e r _ i (min 0 _) = true
    rw [Nat.zero_min]
    show decide (0 < (y :: ys).length) = true
    simp
  | x :: xs, [], i, h => by
    show lexAt e r _ i (min _ 0) = false
    rw [Nat.min_zero]
    show decide ((x :: xs).length < 0) = false
    simp
  | x :: xs, y :: ys, i, h => by
    have h0 := h 0 x y rfl rfl
    rw [Nat.add_zero] at h0
    have em : min (x :: xs).length (y :: ys).length = min xs.length ys.length + 1 := by simp only [List.length_cons]; omega
    rw [em, lexAt_succ, h0.1]
    unfold lexG
    by_cases q : x = y
    · rw [decide_eq_true q, if_pos rfl, if_pos q]
      have ih := lexAt_G (lt := lt) (e := e) (r := r) xs ys (i + 1) fun j a b ha hb => by
        have := h (j + 1) a b (by simpa using ha) (by simpa using hb)
        rw [show i + 1 + j = i + (j + 1) by omega]
        exact this
      have ez : decide ((x :: xs).length < (y :: ys).length) = decide (xs.length < ys.length) := by simp
      rw [ez]
      exact ih
    · rw [decide_eq_false q, if_neg Bool.false_ne_true, if_neg q]
      exact h0.2 q
theorem all_eq {e : Nat → Bool} : ∀ (xs ys : List κ), (∀ j x y, xs[j]? = some x → ys[j]? = some y → e j = decide (x = y)) → ((List.range (min xs.length ys.length)).all e && xs.length == ys.length) = decide (xs = ys) := by
  intro xs ys h
  by_cases q : xs = ys
  · subst q
    rw [decide_eq_true rfl, Nat.min_self, Bool.and_eq_true]
    refine ⟨List.all_eq_true.mpr fun j hj => ?_, beq_self_eq_true _⟩
    have hj := List.mem_range.mp hj
    rw [h j xs[j] xs[j] (List.getElem?_eq_getElem hj) (List.getElem?_eq_getElem hj)]
    simp
  · rw [decide_eq_false q, Bool.eq_false_iff]
    intro z
    rw [Bool.and_eq_true, beq_iff_eq] at z
    obtain ⟨z1, z2⟩ := z
    apply q
    apply List.ext_getElem z2
    intro j h1 h2
    have := List.all_eq_true.mp z1 j (List.mem_range.mpr (by omega))
    rw [h j _ _ (List.getElem?_eq_getElem h1) (List.getElem?_eq_getElem h2)] at this
    exact of_decide_eq_true this
open PySem.SeqAt Ob in
theorem two_refs {A : Around} {s : Shared} {l b : Addr} {items items2 : Array Value} {lt : κ → κ → Bool} {xs ys : List κ} (hl : s.heap.IsTuple l items) (hb : s.heap.IsTuple b items2) (hu : A.units < cLine) (n1 : items.size = xs.length) (n2 : items2.size = ys.length)
    (hsame : l = b → xs = ys) (he : ∀ j x y (h1 : j < items.size) (h2 : j < items2.size), xs[j]? = some x → ys[j]? = some y → EqAt A.in1 s items[j] items2[j] (decide (x = y)))
    (hr : ∀ j x y (h1 : j < items.size) (h2 : j < items2.size), xs[j]? = some x → ys[j]? = some y → RcOp .Lt A.in1 s items[j] items2[j] (lt x y)) :
    EqAt A s (.ref l) (.ref b) (decide (xs = ys)) ∧ RcOp .Lt A s (.ref l) (.ref b) (lexG lt xs ys) := by
  obtain ⟨d⟩ : Nonempty (Nat → Bool) := ⟨fun _ => false⟩
  have ex : ∀ j (h : j < items.size), ∃ x, xs[j]? = some x := fun j h => ⟨_, List.getElem?_eq_getElem (by rw [← n1]; exact h)⟩
  have ey : ∀ j (h : j < items2.size), ∃ y, ys[j]? = some y := fun j h => ⟨_, List.getElem?_eq_getElem (by rw [← n2]; exact h)⟩
  let e : Nat → Bool := fun j => match xs[j]?, ys[j]? with
    | some x, some y => decide (x = y)
    | _, _ => false
  let r : Nat → Bool := fun j => match xs[j]?, ys[j]? with
    | some x, some y => lt x y
    | _, _ => false
  have ee : ∀ j x y, xs[j]? = some x → ys[j]? = some y → e j = decide (x = y) := fun j x y hx hy => by
    show (match xs[j]?, ys[j]? with | some x, some y => decide (x = y) | _, _ => false) = _
    rw [hx, hy]
  have rr : ∀ j x y, xs[j]? = some x → ys[j]? = some y → r j = lt x y := fun j x y hx hy => by
    show (match xs[j]?, ys[j]? with | some x, some y => lt x y | _, _ => false) = _
    rw [hx, hy]
  have he' : ∀ j (h1 : j < items.size) (h2 : j < items2.size), EqAt A.in1 s items[j] items2[j] (e j) := fun j h1 h2 => by
    obtain ⟨x, hx⟩ := ex j h1
    obtain ⟨y, hy⟩ := ey j h2
    rw [ee j x y hx hy]
    exact he j x y h1 h2 hx hy
  have hr' : ∀ j (h1 : j < items.size) (h2 : j < items2.size), e j = false → RcOp .Lt A.in1 s items[j] items2[j] (r j) := fun j h1 h2 _ => by
    obtain ⟨x, hx⟩ := ex j h1
    obtain ⟨y, hy⟩ := ey j h2
    rw [rr j x y hx hy]
    exact hr j x y h1 h2 hx hy
  constructor
  · by_cases q : l = b
    · rw [hsame q, q, decide_eq_true rfl]
      exact EqAt.same _
    · have z := RcAt.tuples hl hb hu he'
      rw [n1, n2, all_eq xs ys ee] at z
      exact EqAt.of_refs q z
  · have z := RcOp.tuples_lt hl hb hu he' hr'
    rw [n1, n2, lexAt_G (lt := lt) xs ys 0 fun j x y hx hy => by rw [Nat.zero_add]; exact ⟨ee j x y hx hy, fun _ => rr j x y hx hy⟩] at z
    exact z
end
end L2
namespace L2
open PySem PySem.Spec PyProof.Rows Ob
abbrev ltI : Int → Int → Bool := fun a b => decide (a < b)
theorem vals_refs2 : ∀ {as : List Addr} {its : List Value}, Vals (as.map V.ref) its → its = as.map Value.ref
  | [], _, .nil => rfl
  | a :: as, _, .cons r t => by
    cases r
    rw [List.map_cons, ← vals_refs2 (as := as) t]
theorem ints_same : ∀ {ns ms : List Int} {its : List Value}, Vals (ns.map V.int) its → Vals (ms.map V.int) its → ns = ms
  | [], [], _, _, _ => rfl
  | [], _ :: _, _, .nil, h => by cases h
  | _ :: _, [], _, h, .nil => by cases h
  | n :: ns, m :: ms, _, .cons r t, .cons r2 t2 => by
    obtain ⟨k, rfl⟩ := r
    obtain ⟨k2, e⟩ := r2
    cases e
    rw [ints_same t t2]
theorem tup_same {h : Heap} {a : Addr} {x y : Array Value} (h1 : IsTup h a x) (h2 : IsTup h a y) : x = y := by
  obtain ⟨o, ho, _, n, hd⟩ := h1
  obtain ⟨o2, ho2, _, n2, hd2⟩ := h2
  rw [ho] at ho2
  cases ho2
  rw [hd] at hd2
  cases hd2
  rfl
section
variable {X : Cx}
open PySem.SeqAt in
theorem two_ints {pins : List (Addr × Obj)} {σ : St} {H : Hp} {s s' : Shared} {A : Around} {a b : Addr} {ns ms : List Int} (I : Inv X pins σ H s) (keep : ∀ c o, s.heap.get? c = some o → s'.heap.get? c = some o) (hu : A.units < cLine)
    (ha : SqT X.K H a (ns.map V.int)) (hb : SqT X.K H b (ms.map V.int)) : EqAt A s' (.ref a) (.ref b) (decide (ns = ms)) ∧ RcOp .Lt A s' (.ref a) (.ref b) (lexG ltI ns ms) := by
  obtain ⟨its, r, p, _⟩ := I.tuple ha
  obtain ⟨its2, r2, p2, _⟩ := I.tuple hb
  have up : ∀ {c : Addr} {x : Array Value}, IsTup s.heap c x → s'.heap.IsTuple c x := fun ⟨o, ho, z⟩ => ⟨o, keep _ o ho, z⟩
  have l1 : its.toArray.size = ns.length := by rw [List.size_toArray, ← r.length, List.length_map]
  have l2 : its2.toArray.size = ms.length := by rw [List.size_toArray, ← r2.length, List.length_map]
  have at1 : ∀ {ks : List Int} {vs : List Value}, Vals (ks.map V.int) vs → ∀ j x (h1 : j < vs.toArray.size), ks[j]? = some x → ∃ t, vs.toArray[j] = Value.int x t := fun {ks vs} r j x h1 hx => by
    obtain ⟨w, hw, t, hw'⟩ := r.get (i := j) (x := .int x) (by simp [hx])
    refine ⟨t, ?_⟩
    have e := (List.getElem?_eq_some_iff.mp hw).2
    rw [← hw', ← e]
    simp
  refine two_refs (up p) (up p2) hu l1 l2 (fun e => ?_) (fun j x y h1 h2 hx hy => ?_) (fun j x y h1 h2 hx hy => ?_)
  · subst e
    have := tup_same p p2
    have e2 : its = its2 := by
      have := congrArg Array.toList this
      simpa using this
    subst e2
    exact ints_same r r2
  · obtain ⟨t, e1⟩ := at1 r j x h1 hx
    obtain ⟨t2, e2⟩ := at1 r2 j y h2 hy
    rw [e1, e2]
    exact (MeetsSeq.EqGives.int x y t t2).at _ _
  · obtain ⟨t, e1⟩ := at1 r j x h1 hx
    obtain ⟨t2, e2⟩ := at1 r2 j y h2 hy
    rw [e1, e2]
    exact RcOp.lt_int x y t t2
/-- the items of a tuple of tuples of ints -/
def Rows2 (K : PySem.W.Frag) (H : Hp) (p : Addr) (xss : List (List Int)) : Prop := ∃ as : List Addr, SqT K H p (as.map V.ref) ∧ as.length = xss.length ∧ ∀ (j : Nat) (a : Addr) (ns : List Int), as[j]? = some a → xss[j]? = some ns → SqT K H a (ns.map V.int)
def rMinT (K : PySem.W.Frag) : List V → Hp → VK → Prop := fun xs H Q => ∃ (p q : Addr) (xss yss : List (List Int)), xs = [.ref p, .ref q] ∧ Rows2 K H p xss ∧ Rows2 K H q yss ∧ Q (if lexG (lexG ltI) yss xss = true then .ref q else .ref p) H
theorem two_rows {pins : List (Addr × Obj)} {σ : St} {H : Hp} {s s' : Shared} {A : Around} {p q : Addr} {xss yss : List (List Int)} (I : Inv X pins σ H s) (keep : ∀ c o, s.heap.get? c = some o → s'.heap.get? c = some o) (hu : A.units + 1 < cLine)
    (hp : Rows2 X.K H p xss) (hq : Rows2 X.K H q yss) : RcOp .Lt A s' (.ref p) (.ref q) (lexG (lexG ltI) xss yss) := by
  obtain ⟨as, h1, n1, h2⟩ := hp
  obtain ⟨bs, h3, n2, h4⟩ := hq
  obtain ⟨its, r, t1, _⟩ := I.tuple h1
  obtain ⟨its2, r2, t2, _⟩ := I.tuple h3
  have up : ∀ {c : Addr} {x : Array Value}, IsTup s.heap c x → s'.heap.IsTuple c x := fun ⟨o, ho, z⟩ => ⟨o, keep _ o ho, z⟩
  have e1 := vals_refs2 r
  have e2 := vals_refs2 r2
  have at1 : ∀ (cs : List Addr) j (h : j < (cs.map Value.ref).toArray.size), ∃ c, cs[j]? = some c ∧ (cs.map Value.ref).toArray[j] = .ref c := fun cs j h => by
    have hj : j < cs.length := by simpa using h
    exact ⟨cs[j], List.getElem?_eq_getElem hj, by simp⟩
  subst e1 e2
  have hu2 : A.in1.units < cLine := hu
  have el : ∀ j x y (k1 : j < (as.map Value.ref).toArray.size) (k2 : j < (bs.map Value.ref).toArray.size), xss[j]? = some x → yss[j]? = some y → PySem.SeqAt.EqAt A.in1 s' ((as.map Value.ref).toArray[j]) ((bs.map Value.ref).toArray[j]) (decide (x = y)) ∧ RcOp .Lt A.in1 s' ((as.map Value.ref).toArray[j]) ((bs.map Value.ref).toArray[j]) (lexG ltI x y) := fun j x y k1 k2 hx hy => by
    obtain ⟨a, ha, ea⟩ := at1 as j k1
    obtain ⟨b, hb, eb⟩ := at1 bs j k2
    have z := two_ints (A := A.in1) I keep hu2 (h2 j a x ha hx) (h4 j b y hb hy)
    rw [← ea, ← eb] at z
    exact z
  refine (two_refs (up t1) (up t2) (by omega) (by simpa using n1) (by simpa using n2) (fun e => ?_) (fun j x y k1 k2 hx hy => (el j x y k1 k2 hx hy).1) (fun j x y k1 k2 hx hy => (el j x y k1 k2 hx hy).2)).2
  subst e
  have e3 : as = bs := by
    have := congrArg Array.toList (tup_same t1 t2)
    have this : as.map Value.ref = bs.map Value.ref := by simpa using this
    exact (List.map_inj_right (fun a b h => by injection h)).mp this
  subst e3
  apply List.ext_getElem (by omega)
  intro j k1 k2
  have hj : j < as.length := by omega
  obtain ⟨i1, r3, t3, _⟩ := I.tuple (h2 j as[j] xss[j] (List.getElem?_eq_getElem hj) (List.getElem?_eq_getElem k1))
  obtain ⟨i2, r4, t4, _⟩ := I.tuple (h4 j as[j] yss[j] (List.getElem?_eq_getElem hj) (List.getElem?_eq_getElem k2))
  have e4 : i1 = i2 := by
    have := congrArg Array.toList (tup_same t3 t4)
    simpa using this
  subst e4
  exact ints_same r3 r4
theorem cr_minT (hc : X.calm = true) (hu : X.A.units + 2 < cLine) : CallR X (.builtin "min") (rMinT X.K) := by
  intro pins s σ H xs us Q I r h
  obtain ⟨p, q, xss, yss, rfl, hp, hq, qq⟩ := h
  obtain ⟨u, w', rfl, ru, rw'⟩ := vals2 r
  cases ru
  cases rw'
  have hu1 : X.A.in1.units + 1 < cLine := hu
  let sel : Nat → List (List Int) := fun i => if i = 0 then xss else yss
  refine min_twoK (bt := fun i j => lexG (lexG ltI) (sel i) (sel j)) (I.ok.hd hc) (fun i j vi vj s' Q' E' keep hi hj hq' => ?_) (fun h' tk k => ?_)
  · have pick : ∀ (i : Nat) (v : Value), (#[Value.ref p, Value.ref q] : Array Value)[i]? = some v → ∃ c, v = .ref c ∧ Rows2 X.K H c (sel i) := fun i v hi => by
      match i, hi with
      | 0, hi => exact ⟨p, by simpa using hi.symm, hp⟩
      | 1, hi => exact ⟨q, by simpa using hi.symm, hq⟩
      | i + 2, hi => simp at hi
    obtain ⟨c, rfl, hc1⟩ := pick i vi hi
    obtain ⟨d, rfl, hd1⟩ := pick j vj hj
    exact two_rows (A := X.A.in1) I keep hu1 hc1 hd1 _ _ _ _ hq'
  · have e1 : sel 1 = yss := rfl
    have e0 : sel 0 = xss := rfl
    rw [e1, e0]
    refine ⟨_, H, I.kept (t' := tk) k, ?_, qq⟩
    split <;> rfl
end
end L2

set_option Elab.async false
set_option linter.all false
set_option maxRecDepth 100000
set_option maxHeartbeats 2000000
/-! PXo: min of tuples of tuples in the model. -/
namespace PW
open PySem PySem.Spec PyProof.Rows L2
theorem lexLt_G : ∀ a b : List Int, lexLt a b = lexG ltI a b
  | [], [] => rfl
  | [], _ :: _ => rfl
  | _ :: _, [] => rfl
  | x :: xs, y :: ys => by
    unfold lexLt lexG
    rw [iEqD, lexLt_G xs ys, iLtD]
    by_cases q : x = y
    · rw [decide_eq_true q, if_pos q]
    · rw [decide_eq_false q, if_neg q]
theorem lqI_D : ∀ a b : List Int, lqI a b = decide (a = b)
  | [], [] => rfl
  | [], _ :: _ => by simp [lqI]
  | _ :: _, [] => by simp [lqI]
  | x :: xs, y :: ys => by
    unfold lqI
    rw [iEqD, lqI_D xs ys]
    by_cases q : x = y
    · rw [decide_eq_true q]; simp [q]
    · rw [decide_eq_false q]; simp [q]
theorem lexR_G : ∀ a b : List (List Int), lexR a b = lexG (lexG ltI) a b
  | [], [] => rfl
  | [], _ :: _ => rfl
  | _ :: _, [] => rfl
  | x :: xs, y :: ys => by
    unfold lexR
    rw [lqI_D, lexR_G xs ys, lexLt_G]
    show _ = (if x = y then lexG (lexG ltI) xs ys else lexG ltI x y)
    by_cases q : x = y
    · rw [decide_eq_true q, if_pos q]
    · rw [decide_eq_false q, if_neg q]
theorem rowsO_v {g : Gc} {ρ : List Addr} {H : Hp} : ∀ {l : List W} {vs : List V} {xss : List (List Int)}, RWs g ρ H l vs → rowsO l = some xss →
    ∃ as : List Addr, vs = as.map V.ref ∧ as.length = xss.length ∧ ∀ (j : Nat) (a : Addr) (ns : List Int), as[j]? = some a → xss[j]? = some ns → SqT g.K H a (ns.map V.int)
  | [], _, xss, .nil, e => by
    simp only [rowsO, Option.some.injEq] at e
    subst e
    exact ⟨[], rfl, rfl, fun j a ns h => by simp at h⟩
  | w :: l, _, xss, .cons h t, e => by
    unfold rowsO at e
    cases h <;> first | cases e; done | skip
    rename_i l0 a0 vs0 ht0 rs0
    dsimp only at e
    cases q : intsO l0 with
    | none => rw [q] at e; cases e
    | some is =>
      rw [q] at e
      dsimp only at e
      cases q2 : rowsO l with
      | none => rw [q2] at e; cases e
      | some rs =>
        rw [q2] at e
        cases e
        obtain ⟨as, e1, e2, e3⟩ := rowsO_v t q2
        obtain ⟨_, e4⟩ := intsO_vs rs0 q
        subst e1 e4
        refine ⟨a0 :: as, rfl, by simp [e2], fun j a ns h1 h2 => ?_⟩
        cases j with
        | zero =>
          simp at h1 h2
          subst h1 h2
          exact ht0.sq
        | succ j => exact e3 j a ns (by simpa using h1) (by simpa using h2)
section
variable {X : Cx} {G : G0} {pn : List PinT} {Wx : WX} {pos p : Pos} {a : Expr} {es : List Expr} {dl : DL}
theorem bMinT_s : BiS X G (rMinT X.K) bMinT := by
  intro Wx σ ρ H h ws vs Q rh rs0 af
  unfold bMinT at af
  cases rs0 with
  | nil => exact af.elim
  | cons h1 h2 =>
    cases h2 with
    | nil => cases h1 <;> exact af.elim
    | cons h3 h4 =>
      cases h4 with
      | cons h5 h6 => cases h1 <;> first | exact af.elim | (cases h3 <;> exact af.elim)
      | nil =>
        cases h1 <;> first | exact af.elim | skip
        rename_i l p vs1 ht1 rs1
        cases h3 <;> first | exact af.elim | skip
        rename_i r q vs2 ht2 rs2
        dsimp only at af
        cases q1 : rowsO l with
        | none => rw [q1] at af; exact af.elim
        | some xss =>
          rw [q1] at af
          dsimp only at af
          cases q2 : rowsO r with
          | none => rw [q2] at af; exact af.elim
          | some yss =>
            rw [q2] at af
            dsimp only at af
            obtain ⟨as, e1, e2, e3⟩ := rowsO_v rs1 q1
            obtain ⟨bs, e4, e5, e6⟩ := rowsO_v rs2 q2
            subst e1 e4
            refine ⟨p, q, xss, yss, rfl, ⟨as, ht1.sq, e2, e3⟩, ⟨bs, ht2.sq, e5, e6⟩, ?_⟩
            rw [← lexR_G]
            cases z : lexR yss xss with
            | true =>
              rw [z] at af
              rw [if_pos rfl]
              exact af.go .refl rh (.tup ht2 rs2)
            | false =>
              rw [z] at af
              rw [if_neg Bool.false_ne_true]
              exact af.go .refl rh (.tup ht1 rs1)
theorem se_bMinT (C : Cs X Wx) (g : X.mg "min" = none) (hl : SL X G pn Wx (a :: es) dl) (hg : Gl X "min" := by rfl) (he : starEach (a :: es) X.env = (false, eval a X.env) :: starEach es X.env := by rfl) (hpl : (backTo pos (starEach es X.env)).any (·.1) = false := by rfl) :
    SE X G pn Wx (.Call (.Name "min" p) (a :: es) [] pos) (dB bMinT dl) := PE.imp (pe_callB (cr_minT C.calm (by have := C.un; omega)) hg g PyProof.Rows.boot_min hl (by decide) (by decide) he hpl) fun σ H Q q => rd_bi bMinT_s q
end
end PW
namespace PW
open PySem PySem.Spec PyProof.Rows L2
section
variable {X : Cx} {G : G0} {pn : List PinT} {Wx : WX} {pos : Pos} {a b c : Expr}
theorem ss_par3 (i j l : Nat) {x y z : Str} {px py pz pt : Pos} {kt k2 pt2} {d1 d2 d3 : D} (C : Cs X Wx) (ha : SE X G pn Wx a d1) (hb : SE X G pn Wx b d2) (hcc : SE X G pn Wx c d3) (hi : X.N[i]? = some x := by rfl) (hj : X.N[j]? = some y := by rfl) (hl : X.N[l]? = some z := by rfl) (hij : i ≠ j := by decide) (hil : i ≠ l := by decide) (hjl : j ≠ l := by decide)
    (hx : X.env.scope.names.lookup x = some .local := by rfl) (hy : X.env.scope.names.lookup y = some .local := by rfl) (hz : X.env.scope.names.lookup z = some .local := by rfl) (hw : swappedStores [.Tuple [.Name x px, .Name y py, .Name z pz] kt pt] (.Tuple [a, b, c] k2 pt2) X.env = pure (some [x, y, z]) := by rfl)
    (hs : swapsWithSole [.Tuple [.Name x px, .Name y py, .Name z pz] kt pt] (.Tuple [a, b, c] k2 pt2) pos.line X.env = pure false := by rfl) (h0 : starEach (a :: [b, c]) X.env = (false, eval a X.env) :: starEach [b, c] X.env := by rfl) (h1 : starEach (b :: [c]) X.env = (false, eval b X.env) :: starEach [c] X.env := by rfl) (h2 : starEach (c :: []) X.env = (false, eval c X.env) :: starEach [] X.env := by rfl)
    (hp : ∀ p ∈ pn, p.1 ≠ i ∧ p.1 ≠ j ∧ p.1 ≠ l := by simp) :
    SS X G pn Wx (.Assign [.Tuple [.Name x px, .Name y py, .Name z pz] kt pt] (.Tuple [a, b, c] k2 pt2) pos) (sAsg (dTup (lCons d1 (lCons d2 (lCons d3 lNil)))) (tT 3 (tLc (tN i) (tLc (tN j) (tLc (tN l) tLn))))) :=
  PS.imp (ps_par3 C.calm C.nd hi hj hl hij hil hjl hx hy hz (sl_cons ha (sl_cons hb (sl_cons hcc sl_nil h2) h1) h0) hw hs) fun D σ H q => by
  obtain ⟨ρ, e, h, re, rh, f⟩ := q
  refine ⟨ρ, e, h, re, rh, ?_⟩
  have f : AftS (gx X G) pn ρ H Wx (match ((lCons d1 (lCons d2 (lCons d3 lNil))) e h).bind (fun xs h1 => match short xs with | true => .ok (.tup xs) h1 | false => .bad) with
    | .ok w h1 => (match tT 3 (tLc (tN i) (tLc (tN j) (tLc (tN l) tLn))) w e h1 with | .ok e1 h2 => .nx e1 h2 | _ => .bad)
    | .ex x h1 => .ex x e h1
    | .bad => .bad) D := f
  cases q1 : (lCons d1 (lCons d2 (lCons d3 lNil))) e h with
  | bad => rw [q1] at f; exact f
  | ex z h1 => rw [q1] at f; exact fun ρ' H' cls d x rh' rx => f ρ' H' σ cls d x rh' (re.ext x) rx
  | ok ws h1 =>
    rw [q1] at f
    have hw3 : ∃ w1 w2 w3, ws = [w1, w2, w3] := by
      unfold lCons lNil at q1
      cases z1 : d1 e h with
      | bad => rw [z1] at q1; cases q1
      | ex _ _ => rw [z1] at q1; cases q1
      | ok w1 g1 =>
        rw [z1] at q1
        simp only [Rs.bind] at q1
        cases z2 : d2 e g1 with
        | bad => rw [z2] at q1; cases q1
        | ex _ _ => rw [z2] at q1; cases q1
        | ok w2 g2 =>
          rw [z2] at q1
          simp only [Rs.bind] at q1
          cases z3 : d3 e g2 with
          | bad => rw [z3] at q1; cases q1
          | ex _ _ => rw [z3] at q1; cases q1
          | ok w3 g3 =>
            rw [z3] at q1
            simp only [Rs.bind] at q1
            cases q1
            exact ⟨w1, w2, w3, rfl⟩
    obtain ⟨w1, w2, w3, rfl⟩ := hw3
    intro ρ' H' vs x rh' rvs
    cases rvs with
    | cons r1 r2 =>
      cases r2 with
      | cons r3 r4 =>
        cases r4 with
        | cons r5 r6 =>
          cases r6
          exact ⟨_, _, _, rfl, f ρ' H' _ x rh' ((((re.ext x).set r1 fun p hm => (hp p hm).1).set r3 fun p hm => (hp p hm).2.1).set r5 fun p hm => (hp p hm).2.2)⟩
end
end PW

set_option Elab.async false
set_option linter.all false
set_option maxRecDepth 100000
set_option maxHeartbeats 0
/-! PWu3: a long run cut in pieces: what each piece leaves, the live objects named. -/
namespace PW
def putsL : List Nat → List Ob → HT → HT
  | a :: as, o :: os, t => HT.put 20 (putsL as os t) a o
  | _, _, t => t
def getsB (h : Hq) : List Nat → List (Option Ob)
  | [] => []
  | a :: as => h.get a :: getsB h as
def somes : List Ob → List (Option Ob)
  | [] => []
  | o :: os => some o :: somes os
theorem puts_self {n : Nat} {t : HT} (hn : n ≤ LINE) : ∀ (as : List Nat) (os : List Ob), getsB ⟨n, t⟩ as = somes os → putsL as os t = t
  | [], [], _ => rfl
  | [], _ :: _, h => by cases h
  | _ :: _, [], h => by cases h
  | a :: as, o :: os, h => by
    have h1 : (Hq.mk n t).get a = some o := List.head_eq_of_cons_eq h
    have h2 := List.tail_eq_of_cons_eq h
    show HT.put 20 (putsL as os t) a o = t
    rw [puts_self hn as os h2]
    have := Hq.put_same (h := ⟨n, t⟩) hn h1
    exact congrArg Hq.t this
/-- what a statement leaves -/
def obS (as : List Nat) : RS → Option (E × Nat × List (Option Ob) × Option Ob)
  | .nx e h => some (e, h.n, getsB h as, h.t.top)
  | _ => none
theorem obS_ok {as : List Nat} {os : List Ob} {r : RS} {e : E} {n : Nat} {o : Option Ob} (hn : n ≤ LINE) (h : obS as r = some (e, n, somes os, o)) : ∃ t, r = .nx e ⟨n, putsL as os t⟩ ∧ t.top = o := by
  cases r with
  | nx e1 h1 =>
    obtain ⟨m, t⟩ := h1
    have h : some (e1, m, getsB ⟨m, t⟩ as, t.top) = some (e, n, somes os, o) := h
    injection h with h
    injection h with q1 h
    injection h with q2 h
    injection h with q3 q4
    subst q1 q2
    exact ⟨t, by rw [puts_self hn as os q3], q4⟩
  | _ => cases h
/-- what an expression leaves -/
def obE (as : List Nat) : R → Option (W × Nat × List (Option Ob) × Option Ob)
  | .ok w h => some (w, h.n, getsB h as, h.t.top)
  | _ => none
theorem obE_ok {as : List Nat} {os : List Ob} {r : R} {w : W} {n : Nat} {o : Option Ob} (hn : n ≤ LINE) (h : obE as r = some (w, n, somes os, o)) : ∃ t, r = .ok w ⟨n, putsL as os t⟩ ∧ t.top = o := by
  cases r with
  | ok w1 h1 =>
    obtain ⟨m, t⟩ := h1
    have h : some (w1, m, getsB ⟨m, t⟩ as, t.top) = some (w, n, somes os, o) := h
    injection h with h
    injection h with q1 h
    injection h with q2 h
    injection h with q3 q4
    subst q1 q2
    exact ⟨t, by rw [puts_self hn as os q3], q4⟩
  | _ => cases h
abbrev lK (xs : List W) : DL := fun _ h => .ok xs h
theorem lnil_ok {e : E} {h : Hq} : lNil e h = .ok [] h := rfl
theorem lcons_ok {a : D} {l : DL} {e : E} {h h1 h2 : Hq} {x : W} {xs : List W} (q1 : a e h = .ok x h1) (q2 : l e h1 = .ok xs h2) : lCons a l e h = .ok (x :: xs) h2 := by
  unfold lCons
  rw [q1]
  show (l e h1).bind _ = _
  rw [q2]
  rfl
/-- name = name + [..] -/
theorem add_split {i : Nat} {l : DL} {t : TGW} {e : E} {h h2 : Hq} {xs : List W} (q : l e h = .ok xs h2) : sAsg (dOp oAdd (dVar i) (dLst l)) t e h = sAsg (dOp oAdd (dVar i) (dLst (lK xs))) t e h2 := by
  unfold sAsg dOp dVar
  cases nth e i with
  | none => rfl
  | some o =>
    cases o with
    | none => rfl
    | some w =>
      simp only [Rs.bind, dLst, q]
/-- name = [..] -/
theorem lst_split {l : DL} {t : TGW} {e : E} {h h2 : Hq} {xs : List W} (q : l e h = .ok xs h2) : sAsg (dLst l) t e h = sAsg (dLst (lK xs)) t e h2 := by
  simp only [sAsg, dLst, Rs.bind, q]
theorem call_split {C : CT} {f : Nat} {l : DL} {e : E} {h h2 : Hq} {xs : List W} (q : l e h = .ok xs h2) : dCall C f l e h = C f xs h2 := by
  simp only [dCall, Rs.bind, q]
theorem seq_ok {a b : DS} {e e1 : E} {h h1 : Hq} (q : a e h = .nx e1 h1) : sSeq a b e h = b e1 h1 := by
  unfold sSeq
  rw [q]
/-- what a def's last statement tells -/
def obR : RS → Option (W × Nat × Option Ob)
  | .rt w h => some (w, h.n, h.t.top)
  | _ => none
theorem obR_ok {r : RS} {w : W} {n : Nat} {o : Option Ob} (h : obR r = some (w, n, o)) : ∃ t, r = .rt w ⟨n, t⟩ ∧ t.top = o := by
  cases r with
  | rt w1 h1 =>
    obtain ⟨m, t⟩ := h1
    have h : some (w1, m, t.top) = some (w, n, o) := h
    injection h with h
    injection h with q1 h
    injection h with q2 q3
    subst q1 q2
    exact ⟨t, rfl, q3⟩
  | _ => cases h
end PW

set_option Elab.async false
set_option linter.all false
set_option maxRecDepth 100000
set_option maxHeartbeats 0
namespace PW
/-- cells of whatever script -/
theorem cells_any2 {n : Nat} {t : HT} {ns : List Int} (hn : 0 < n) (hL : n + 20 ≤ LINE) (h0 : (Hq.mk n t).get 0 = some (.rol (mpI ns))) (hl : ns.length ≤ 63) :
    ∃ c t3, (fin (xCells [some (.ref 0), some (.int 1), none, none, none, none] ⟨n, t⟩) = .ok (.ref c) ⟨n + 3, t3⟩ ∧ (∃ z, (Hq.mk (n + 3) t3).get c = some (.lst [.int z])) ∧ ∀ j, j < n → (Hq.mk (n + 3) t3).get j = (Hq.mk n t).get j) ∨
      (fin (xCells [some (.ref 0), some (.int 1), none, none, none, none] ⟨n, t⟩) = .ok (.ref c) ⟨n + 4, t3⟩ ∧ (Hq.mk (n + 4) t3).get c = some (.lst [.int 0]) ∧ ∀ j, j < n → (Hq.mk (n + 4) t3).get j = (Hq.mk n t).get j) := by
  cases ns with
  | nil =>
    have e1 := cells_nil (h := ⟨n, t⟩) (by show n + 10 ≤ LINE; omega) h0 hn
    obtain ⟨B, eB⟩ : ∃ B, B = (((Hq.mk n t).push (.lst [])).push (.lst [])).push (.lst [.int 0]) := ⟨_, rfl⟩
    have nB : B.n = n + 3 := by rw [eB]; rfl
    have gB : B.get (n + 2) = some (.lst [.int 0]) := by
      rw [eB, Hq.get_push (by show n + 1 + 1 < LINE; omega)]; exact if_pos rfl
    have fB : ∀ j, j < n → B.get j = (Hq.mk n t).get j := fun j hj => by
      rw [eB, Hq.get_push (by show n + 1 + 1 < LINE; omega), if_neg (by show ¬ j = n + 1 + 1; omega), Hq.get_push (by show n + 1 < LINE; omega), if_neg (by show ¬ j = n + 1; omega), Hq.get_push (by show n < LINE; omega), if_neg (by show ¬ j = n; omega)]
    obtain ⟨D, eD⟩ : ∃ D, D = B.push (.lst []) := ⟨_, rfl⟩
    have nD : D.n = n + 4 := by rw [eD]; show B.n + 1 = _; rw [nB]
    have gD : D.get (n + 2) = some (.lst [.int 0]) := by
      rw [eD, Hq.get_push (by rw [nB]; omega), if_neg (by rw [nB]; omega), gB]
    have fD : ∀ j, j < n → D.get j = (Hq.mk n t).get j := fun j hj => by
      rw [eD, Hq.get_push (by rw [nB]; omega), if_neg (by rw [nB]; omega), fB j hj]
    rw [← eB, ← eD] at e1
    obtain ⟨a, b⟩ := D
    have nD : a = n + 4 := nD
    subst nD
    exact ⟨n + 2, b, .inr ⟨e1, gD, fD⟩⟩
  | cons x r =>
    obtain ⟨s2, s', e1⟩ := cells_of (h := ⟨n, t⟩) (by show n + 10 ≤ LINE; omega) h0 hn hl
    obtain ⟨B, eB⟩ : ∃ B, B = (((Hq.mk n t).push (.lst [.int x])).push (.lst [.int x])).push (.lst s2) := ⟨_, rfl⟩
    have nB : B.n = n + 3 := by rw [eB]; rfl
    have fB : ∀ j, j < n → B.get j = (Hq.mk n t).get j := fun j hj => by
      rw [eB, Hq.get_push (by show n + 1 + 1 < LINE; omega), if_neg (by show ¬ j = n + 1 + 1; omega), Hq.get_push (by show n + 1 < LINE; omega), if_neg (by show ¬ j = n + 1; omega), Hq.get_push (by show n < LINE; omega), if_neg (by show ¬ j = n; omega)]
    obtain ⟨D, eD⟩ : ∃ D, D = B.put (n + 1) (.lst [.int s']) := ⟨_, rfl⟩
    have nD : D.n = n + 3 := by rw [eD]; exact nB
    have gD : D.get (n + 1) = some (.lst [.int s']) := by rw [eD, Hq.get_put (by rw [nB]; omega) (by rw [nB]; omega), if_pos rfl]
    have fD : ∀ j, j < n → D.get j = (Hq.mk n t).get j := fun j hj => by
      rw [eD, Hq.get_put (by rw [nB]; omega) (by rw [nB]; omega), if_neg (by omega), fB j hj]
    have e1' : fin (xCells [some (.ref 0), some (.int 1), none, none, none, none] ⟨n, t⟩) = .ok (.ref (n + 1)) D := by rw [eD, eB]; exact e1
    obtain ⟨a, b⟩ := D
    have nD : a = n + 3 := nD
    subst nD
    exact ⟨n + 1, b, .inl ⟨e1', ⟨s', gD⟩, fD⟩⟩
end PW

/-! PY0: more combinators of the model. Plain Lean. -/
set_option linter.all false
namespace PW
open PySem
def tupO : W → Option (List W)
  | .tup l => some l
  | .ktup l => some l
  | _ => none
def augI (neg : Bool) (u v : Int) : Int := match neg with
  | true => u - v
  | false => u + v
/-- a[b] += c, a[b] -= c: ints in a list -/
def sAugX (neg : Bool) (a b c : D) : DS := fun e h => match a e h with
  | .ok x h1 => (match b e h1 with
    | .ok y h2 => (match x with
      | .ref n => (match h2.get n with
        | some (.lst l) => (match y with
          | .int i => (match atW l i with
            | some w => (match w with
              | .int u => (match c e h2 with
                | .ok z h3 => (match z with
                  | .int v => (match stW (.ref n) (.int i) (.int (augI neg u v)) h3 with
                    | some h4 => .nx e h4
                    | none => .bad)
                  | _ => .bad)
                | _ => .bad)
              | _ => .bad)
            | none => .bad)
          | _ => .bad)
        | _ => .bad)
      | _ => .bad)
    | _ => .bad)
  | _ => .bad
/-- zip of three tuples -/
def z3 : List W → List W → List W → List W
  | [], _, _ => []
  | a :: l, r, m => match r with
    | [] => []
    | b :: r => match m with
      | [] => []
      | c :: m => .tup [a, b, c] :: z3 l r m
def iZip3 (a b c : D) : DI := fun e h => (a e h).bind fun x h1 => (b e h1).bind fun y h2 => (c e h2).bind fun z h3 => match tupO x with
  | some l => (match tupO y with
    | some r => (match tupO z with
      | some m => .ok (.tup (z3 l r m)) h3
      | none => .bad)
    | none => .bad)
  | none => .bad
/-- l.extend(x), x a tuple or another list -/
def dExt (a b : D) : D := fun e h => (a e h).bind fun x h1 => match x with
  | .ref n => (match h1.get n with
    | some (.lst _) => (b e h1).bind fun y h2 => (match h2.get n with
      | some (.lst l) => (match (match y with
          | .tup r => some r
          | .ktup r => some r
          | .ref m => (match h2.get m with
            | some (.lst r) => some r
            | _ => none)
          | _ => none : Option (List W)) with
        | some r => (match short l && short r with
          | true => .ok .non (h2.put n (.lst (app l r)))
          | false => .bad)
        | none => .bad)
      | _ => .bad)
    | _ => .bad)
  | _ => .bad
def big9 (i : Int) : Bool := iLt (-1000000000) i && iLt i 1000000000
/-- range(a, b) as a value -/
def dRngV (a b : D) : D := fun e h => (a e h).bind fun x h1 => (b e h1).bind fun y h2 => match x with
  | .int i => (match y with
    | .int j => mk (.rng i j) h2
    | _ => .bad)
  | _ => .bad
/-- tuple(range(a)) -/
def dTrng (a : D) : D := fun e h => (a e h).bind fun x h1 => match x with
  | .int j => (match iLt (-SM) j && iLt j 100000 with
    | true => .ok (.tup (rngL j.toNat [])) h1
    | false => .bad)
  | _ => .bad
def cntI : List Int → Int → Nat → Nat
  | [], _, n => n
  | i :: r, k, n => match iEq i k with
    | true => cntI r k (n + 1)
    | false => cntI r k n
/-- l.count(k), ints: a list, or a tuple that is known -/
def dCnt (a b : D) : D := fun e h => (a e h).bind fun x h1 => match (match x with
    | .ktup _ => true
    | _ => false) with
  | true => (b e h1).bind fun y h2 => (match y with
    | .int k => (match x with
      | .ktup l => (match intsO l with
        | some is => (match short l with
          | true => .ok (.int (Int.ofNat (cntI is k 0))) h2
          | false => .bad)
        | none => .bad)
      | _ => .bad)
    | _ => .bad)
  | false => .bad
def ixI : List Int → Int → Nat → Option Nat
  | [], _, _ => none
  | i :: r, k, n => match iEq i k with
    | true => some n
    | false => ixI r k (n + 1)
/-- t.index(k), ints, k being there -/
def dIxO (a b : D) : D := fun e h => (a e h).bind fun x h1 => match (match x with
    | .ktup _ => true
    | _ => false) with
  | true => (b e h1).bind fun y h2 => (match y with
    | .int k => (match x with
      | .ktup l => (match intsO l with
        | some is => (match ixI is k 0 with
          | some n => .ok (.int (Int.ofNat n)) h2
          | none => .bad)
        | none => .bad)
      | _ => .bad)
    | _ => .bad)
  | false => .bad
end PW
namespace PW
open PySem
/-- every k-th item from i on -/
def evN (l : List W) (k : Nat) : Nat → Nat → List W
  | 0, _ => []
  | f + 1, i => match nth l i with
    | some w => w :: evN l k f (i + k)
    | none => []
/-- l[lo::k], a list, 0 ≤ lo, 0 < k -/
def dStep (a lo : D) (k : Nat) : D := fun e h => (a e h).bind fun x h1 => (lo e h1).bind fun y h2 => match y with
  | .int m => (match iLt m 0 with
    | true => .bad
    | false => (match x with
      | .ref n => (match h2.seq n with
        | some l => (match short l with
          | true => mk (.lst (evN l k (len l) m.toNat)) h2
          | false => .bad)
        | none => .bad)
      | _ => .bad))
  | _ => .bad
/-- the texts of a list or a tuple -/
def strsO : List W → Option (List Str)
  | [] => some []
  | w :: r => match w with
    | .str s => (match strsO r with
      | some l => some (s :: l)
      | none => none)
    | _ => none
def joinS (sep : List Nat) : List Str → List Nat
  | [] => []
  | s :: r => match r with
    | [] => s.cps.toList
    | _ :: _ => app s.cps.toList (app sep (joinS sep r))
def lenS : List Str → Nat → Nat
  | [], n => n
  | s :: r, n => lenS r (lenN s.cps.toList n)
/-- sep.join(x): texts of a list -/
def dJoin (a b : D) : D := fun e h => (a e h).bind fun x h1 => match x with
  | .str s => (b e h1).bind fun y h2 => (match y with
    | .ref n => (match h2.seq n with
      | some l => (match strsO l with
        | some ss => (match Nat.ble (lenS ss 0) 100000 && (Nat.ble (len ss) 1000 && Nat.ble (len s.cps.toList) 100) with
          | true => .ok (.str ⟨⟨joinS s.cps.toList ss⟩⟩) h2
          | false => .bad)
        | none => .bad)
      | none => .bad)
    | _ => .bad)
  | _ => .bad
end PW
namespace PW
open PySem
def minI : List Int → Int → Int
  | [], m => m
  | i :: r, m => match iLt i m with
    | true => minI r i
    | false => minI r m
/-- min([..]) of ints -/
def cMin (c : DL) : D := fun e h => (c e h).bind fun l h1 => match Nat.ble (len l) LIM with
  | true => (match intsO l with
    | some is => (match is with
      | [] => .bad
      | i :: r => .ok (.int (minI r i)) h1)
    | none => .bad)
  | false => .bad
end PW

set_option Elab.async false
set_option linter.all false
set_option maxRecDepth 100000
set_option maxHeartbeats 1000000
/-! PYa: a[b] += c; ranges as values. -/
namespace PW
open PySem PySem.Spec PyProof.Rows L2
section
variable {X : Cx} {G : G0} {pn : List PinT} {Wx : WX} {pos tpos p p2 : Pos} {a b c : Expr} {da db dc : D}
/-- l[i], by values -/
def gLst (K : PySem.W.Frag) : V → V → Hp → VK → Prop := fun o i H Q => ∃ (l : Addr) (xs : List V) (k : Int) (z : V), o = .ref l ∧ i = .int k ∧ SqL K H l xs ∧ atI xs k = some z ∧ Q z H
theorem pget_list : PGet X (gLst X.K) := by
  intro pins s σ H o i ov iv Q I ro ri h
  obtain ⟨l, xs, k, z, rfl, rfl, hq, he, q⟩ := h
  cases ro
  obtain ⟨t, rfl⟩ := ri
  obtain ⟨its, r, pl, hz⟩ := I.list hq
  obtain ⟨j, h1, h2, h3, h4, h5⟩ := atI_get he
  obtain ⟨w, ew, rw'⟩ := r.get h2
  have hl := r.length
  have hn := line63
  have fin : EP X pins σ Q w s := ⟨z, H, I, rw', q⟩
  by_cases h0 : 0 ≤ k
  · have hj : k.toNat = j := by
      rw [seqIndex_of h0 h5] at h1
      exact Option.some.inj h1
    exact wpAny_getItem_list (Q := EP X pins σ Q) (x := w) pl.isList h0 (by omega) (by rw [hj]; simpa using ew) fin
  · have hj : (k + (its.toArray.size : Int)).toNat = j := by
      rw [seqIndex_neg (by omega) h4] at h1
      rw [List.size_toArray, ← hl]
      exact Option.some.inj h1
    exact wpAny_getItem_list_neg (Q := EP X pins σ Q) (x := w) pl.isList (by omega) (by rw [List.size_toArray] <;> omega) (by omega) (by rw [hj]; simpa using ew) fin
theorem ss_augx {op : Operator} {f : Int → Int → Int} (neg : Bool) (C : Cs X Wx) (ha : SE X G pn Wx a da) (hb : SE X G pn Wx b db) (hc : SE X G pn Wx c dc) (ho : PIp X op (ipI f)) (hf : ∀ u v, f u v = augI neg u v)
    (hs : ∀ ov iv new, augStore b ov iv new = (do holding [new, ov, iv] (setItem ov iv new); release [new, ov, iv] []; pure .next) := by intros; rfl) : SS X G pn Wx (.AugAssign (.Subscript a b tpos) op c pos) (sAugX neg da db dc) :=
  PS.imp (ps_augS ha hb pget_list hc ho (set_any (by have := C.un; omega)) hs) fun D σ H q => by
  obtain ⟨ρ, e, h, re, rh, f0⟩ := q
  unfold sAugX at f0
  refine ⟨ρ, e, h, re, rh, ?_⟩
  cases qa : da e h with
  | bad => rw [qa] at f0; exact f0.elim
  | ex z h1 => rw [qa] at f0; exact f0.elim
  | ok wx h1 =>
    rw [qa] at f0
    dsimp only at f0
    intro ρ1 H1 x x1 rh1 rx
    refine ⟨ρ1, e, h1, re.ext x1, rh1, ?_⟩
    cases qb : db e h1 with
    | bad => rw [qb] at f0; exact f0.elim
    | ex z h2 => rw [qb] at f0; exact f0.elim
    | ok wy h2 =>
      rw [qb] at f0
      dsimp only at f0
      intro ρ2 H2 y x2 rh2 ry
      have rx2 := rx.ext x2
      cases rx2 <;> first | exact f0.elim | skip
      rename_i n l hn
      dsimp only at f0
      cases q1 : h2.get n with
      | none => rw [q1] at f0; exact f0.elim
      | some o =>
        rw [q1] at f0
        cases o <;> first | exact f0.elim | skip
        rename_i ws
        dsimp only at f0
        cases ry <;> first | exact f0.elim | skip
        rename_i k
        dsimp only at f0
        cases q2 : atW ws k with
        | none => rw [q2] at f0; exact f0.elim
        | some w =>
          rw [q2] at f0
          cases w <;> first | exact f0.elim | skip
          rename_i u
          dsimp only at f0
          obtain ⟨vs, e1, rs⟩ := rh2.ob n _ l q1 hn
          rw [atW_at] at q2
          obtain ⟨z, z1, z2⟩ := rs.atI q2
          cases z2
          refine ⟨l, vs, k, .int u, rfl, rfl, .of e1, z1, ρ2, e, h2, (re.ext x1).ext x2, rh2, ?_⟩
          cases qc : dc e h2 with
          | bad => rw [qc] at f0; exact f0.elim
          | ex z h3 => rw [qc] at f0; exact f0.elim
          | ok wz h3 =>
            rw [qc] at f0
            dsimp only at f0
            intro ρ3 H3 v x3 rh3 rv
            cases rv <;> first | exact f0.elim | skip
            rename_i v
            dsimp only at f0
            refine ⟨u, v, rfl, rfl, ?_⟩
            rw [hf]
            cases qs : stW (.ref n) (.int k) (.int (augI neg u v)) h3 with
            | none => rw [qs] at f0; exact f0.elim
            | some h4 =>
              rw [qs] at f0
              refine stW_v rh3 ((RW.ref hn).ext x3) (.int k) (.int _) qs fun H4 x4 rh4 => ?_
              exact f0 ρ3 H4 σ (((x1.trans x2).trans x3).trans x4) rh4 ((((re.ext x1).ext x2).ext x3).ext x4)
theorem ss_augx_add (C : Cs X Wx) (ha : SE X G pn Wx a da) (hb : SE X G pn Wx b db) (hc : SE X G pn Wx c dc)
    (hs : ∀ ov iv new, augStore b ov iv new = (do holding [new, ov, iv] (setItem ov iv new); release [new, ov, iv] []; pure .next) := by intros; rfl) : SS X G pn Wx (.AugAssign (.Subscript a b tpos) .Add c pos) (sAugX false da db dc) := ss_augx false C ha hb hc ip_add (fun _ _ => rfl) hs
theorem ss_augx_sub (C : Cs X Wx) (ha : SE X G pn Wx a da) (hb : SE X G pn Wx b db) (hc : SE X G pn Wx c dc)
    (hs : ∀ ov iv new, augStore b ov iv new = (do holding [new, ov, iv] (setItem ov iv new); release [new, ov, iv] []; pure .next) := by intros; rfl) : SS X G pn Wx (.AugAssign (.Subscript a b tpos) .Sub c pos) (sAugX true da db dc) := ss_augx true C ha hb hc ip_sub (fun _ _ => rfl) hs
/-! ranges -/
theorem se_rngv (g : X.mg "range" = none) (ha : SE X G pn Wx a da) (hb : SE X G pn Wx b db) (hg : Gl X "range" := by rfl) (hs : starEach [a, b] X.env = (false, eval a X.env) :: starEach [b] X.env := by rfl)
    (hs3 : starEach (b :: []) X.env = (false, eval b X.env) :: starEach [] X.env := by rfl) (hpl : (backTo pos (starEach [b] X.env)).any (·.1) = false := by rfl) :
    SE X G pn Wx (.Call (.Name "range" p) [a, b] [] pos) (dRngV da db) := PE.imp (pe_callTy cr_range2 hg g boot_range (sl_cons ha (sl_cons hb sl_nil hs3) hs) (by decide) (by decide) hs hpl) fun σ H Q q => by
  refine (rd_l2 q).imp ?_
  rintro vs H1 ⟨v, v', ρ, e, wx, wy, h, rfl, re, rh, rx, ry, af⟩
  cases rx <;> first | exact af.elim | skip
  rename_i i
  cases ry <;> first | exact af.elim | skip
  rename_i j
  exact ⟨i, j, rfl, fun t ht => aft_mk af rh ht (fun _ => nofun) upd_same⟩
theorem se_trng (C : Cs X Wx) (g1 : X.mg "tuple" = none) (g : X.mg "range" = none) (ha : SE X G pn Wx a da) (hl : Gl X "tuple" := by rfl) (hg : Gl X "range" := by rfl) (na : starEach [a] X.env = (false, eval a X.env) :: starEach [] X.env := by rfl)
    (nb : starEach [.Call (.Name "range" p2) [a] [] p] X.env = (false, eval (.Call (.Name "range" p2) [a] [] p) X.env) :: starEach [] X.env := by rfl) {pos' : Pos} : SE X G pn Wx (.Call (.Name "tuple" pos') [.Call (.Name "range" p2) [a] [] p] [] pos) (dTrng da) :=
  PE.imp (pe_tupRg C.calm hl g1 (prg_1 hg g ha na) nb) fun σ H Q q => by
  refine (rd.bind q).imp ?_
  rintro x H1 ⟨ρ, e, wx, h, re, rh, rx, af⟩
  cases rx <;> first | exact af.elim | skip
  rename_i j
  dsimp only at af
  by_cases c : (iLt (-SM) j && iLt j 100000) = true
  · rw [c] at af
    have c' := c
    rw [iLtD, iLtD, Bool.and_eq_true, decide_eq_true_eq, decide_eq_true_eq] at c'
    have hsm : SM = 1000000000 := rfl
    refine ⟨j, rfl, ⟨by omega, by omega, by omega, by omega, by omega⟩, fun t ht => aft_tup af rh ?_ ht⟩
    have := rngL_v (g := gx X G) (ρ := ρ) (H := H1) j.toNat .nil
    rw [List.append_nil] at this
    unfold rgV
    rw [Int.sub_zero]
    simpa using this
  · rw [Bool.eq_false_iff.mpr c] at af; exact af.elim
end
end PW

set_option Elab.async false
set_option linter.all false
set_option maxRecDepth 100000
set_option maxHeartbeats 1000000
/-! PYb: l.extend(x). -/
namespace PW
open PySem PySem.Spec PyProof.Rows L2
theorem extend_tuple (l : Addr) (items : Array Value) (n : Nat) (b : Addr) (items2 : Array Value) (n2 : Nat) (d2 : Option Addr) (sl2 : Array (Option Value)) (hs0 : ¬(!items.isEmpty && Builtin.List.listTooLong (items.size + items2.size)) = true) (hs1 : items.size ≤ sizeLine) (hs2 : items.size + items2.size ≤ sizeLine + 1) :
    Meets (Builtin.«list.extend» ⟨[.ref l, .ref b], []⟩) (fun _ R s => s.heap.get? l = some { cls := .type "list", dict := none, data := .seq items n, slots := #[] } ∧ s.heap.get? b = some { cls := .type "tuple", dict := d2, data := .seq items2 n2, slots := sl2 } ∧ R (.ok (.ret Value.none)) { s with heap := s.heap.update l (Obj.mapSeq fun x => x ++ items2), toks := s.toks }) :=
  .of_wp fun prog w A R s ⟨e1, e2, k⟩ => by
    obtain ⟨hp, gs, dr, tk, os⟩ := s
    have := AutoSeq1.idx_int
    have := AutoSeq1.sub_tuple_tuple
    have := AutoSeq1.sub_list_list
    have := AutoSeq1.sub_tuple_list
    have := AutoSeq1.sub_list_tuple
    have zz : (items ++ items2).size ≤ sizeLine + 1 := by simpa using hs2
    wp_walk using (wpAny_updateSeq e1 rfl (hz := hs1) (_hz' := zz)), AutoSeq1.wpAny_loadPart' e1, AutoSeq1.wpAny_loadPart' e2
    exact ⟨_, rfl, k⟩
def rExtT (K : PySem.W.Frag) : V → List V → Hp → VK → Prop := fun x vs H Q => ∃ l b xs zs, x = .ref l ∧ vs = [.ref b] ∧ H l = some (.lst xs) ∧ SqT K H b zs ∧ xs.length + zs.length ≤ sizeLine ∧ Q .non (upd H l (.lst (xs ++ zs)))
theorem mt_extT {X : Cx} : MtR X "list.extend" (rExtT X.K) := by
  intro pins s σ H x vs v us Q I rx rv h
  obtain ⟨l, b, xs, zs, rfl, rfl, hH, hB, hz, q⟩ := h
  cases rx
  obtain ⟨u, rfl, ru⟩ := rv.one
  cases ru
  obtain ⟨z, its, n, r, hl, e⟩ := I.lstM hH
  obtain ⟨its2, r2, ⟨⟨cls, dd, data, sl⟩, ho, hc, n2, hd⟩, hl2⟩ := I.tuple hB
  simp only at hc hd
  subst hc hd
  have h2 := r2.length
  have hsz : its.toArray.size + its2.toArray.size ≤ sizeLine := by rw [List.size_toArray, List.size_toArray]; omega
  have hlong : ¬ (!its.toArray.isEmpty && Builtin.List.listTooLong (its.toArray.size + its2.toArray.size)) = true := by
    rw [notLongL hsz, Bool.and_false]
    exact Bool.false_ne_true
  refine call_meets F.slot_list_extend ⟨_, e, rfl⟩ F.entry_list_extend (F.args_list_extend_2 _ _)
    (extend_tuple l its.toArray n b its2.toArray n2 dd sl hlong (by rw [List.size_toArray]; omega) (by omega)) ⟨e, ho, ?_⟩
  refine ⟨.non, _, I.lset (its' := its ++ its2) hH e (by simp) (r.append r2) ?_, rfl, q⟩
  rw [List.length_append]
  omega
section
variable {X : Cx} {G : G0} {pn : List PinT} {Wx : WX} {a b : Expr} {da db : D}
def rExt (K : PySem.W.Frag) : V → List V → Hp → VK → Prop := fun x vs H Q => rExtend x vs H Q ∨ rExtT K x vs H Q
theorem mt_ext : MtR X "list.extend" (rExt X.K) := MtR.or (r := rExtend) mt_extend mt_extT
theorem se_ext {apos cpos : Pos} (ha : SE X G pn Wx a da) (hb : SE X G pn Wx b db) (hbase : attributeBase a "extend" X.env (eval a X.env) = eval a X.env := by rfl)
    (hfew : ((backTo cpos (starEach [b] X.env)).all (fun x => !x.1) && (backToKw cpos (keywordEach [] X.env)).all (fun x => x.1.isSome)
      && decide ([b].length + ([] : List Keyword).length + (if ([] : List Keyword).isEmpty then 0 else 1) < 30)) = true := by rfl)
    (hline : (apos.endLine == cpos.line) = true := by rfl) (hs : starEach [b] X.env = (false, eval b X.env) :: starEach [] X.env := by rfl) (hplain : (backTo cpos (starEach [] X.env)).any (·.1) = false := by rfl) :
    SE X G pn Wx (.Call (.Attribute a "extend" apos) [b] [] cpos) (dExt da db) :=
  PE.imp (pe_bm F.plainAttrs_list F.slot_list_extend F.type_list_extend mt_ext ha (pa_cons hb pa_nil hs) hbase hfew hline hs hplain) fun σ H Q q => by
  refine (rd.bind q).imp ?_
  rintro x H1 ⟨ρ, e, wx, h, re, rh, rx, af⟩
  cases rx <;> first | exact af.elim | skip
  rename_i n a hn
  dsimp only at af
  cases q1 : h.get n with
  | none => rw [q1] at af; exact af.elim
  | some o =>
    rw [q1] at af
    have ro := rh.ob n o a q1 hn
    cases o <;> first | exact af.elim | skip
    rename_i l0
    obtain ⟨vs0, e0, _⟩ := ro
    refine ⟨.inl ⟨rfl, vs0, .of e0⟩, ρ, e, h, re, rh, (Aft.bind af).imp ?_⟩
    rintro y H2 ⟨ρ2, wy, h2, x2, rh2, ry, af2⟩
    cases q2 : h2.get n with
    | none => rw [q2] at af2; exact af2.elim
    | some o2 =>
      rw [q2] at af2
      have hn2 := x2.at hn
      have ro2 := rh2.ob n o2 a q2 hn2
      cases o2 <;> first | exact af2.elim | skip
      rename_i l
      obtain ⟨vs, e2, rs⟩ := ro2
      dsimp only at af2
      have key : ∀ (r : List W) (ws : List V), RWs (gx X G) ρ2 H2 r ws → (match short l && short r with | true => (Rs.ok W.non (h2.put n (.lst (app l r))) : R) | false => .bad) = (match short l && short r with | true => (Rs.ok W.non (h2.put n (.lst (app l r))) : R) | false => .bad) →
          Aft (gx X G) (RW (gx X G)) ρ2 H2 Wx σ (match short l && short r with | true => (Rs.ok W.non (h2.put n (.lst (app l r))) : R) | false => .bad) Q → vs.length + ws.length ≤ sizeLine ∧ Q .non (upd H2 a (.lst (vs ++ ws))) := fun r ws rw' _ f => by
        rw [shortD, shortD] at f
        by_cases ql : l.length ≤ LIM ∧ r.length ≤ LIM
        · rw [decide_eq_true ql.1, decide_eq_true ql.2, appD] at f
          have x := Ext.put (o := .lst (vs ++ ws)) (List.mem_of_getElem? hn2) e2 (fun _ => nofun)
          refine ⟨?_, f.go x (rh2.put hn2 e2 (fun _ => nofun) (fun _ => nofun) ⟨_, upd_same, (rs.ext x).app (rw'.ext x)⟩) .non⟩
          rw [← rs.length, ← rw'.length, sizeLine_eq]
          have : LIM = 100000 := rfl
          omega
        · have : (decide (l.length ≤ LIM) && decide (r.length ≤ LIM)) = false := by
            rw [Bool.eq_false_iff]; intro h; rw [Bool.and_eq_true, decide_eq_true_iff, decide_eq_true_iff] at h; exact ql h
          rw [this] at f; exact f.elim
      cases ry <;> first | exact af2.elim | skip
      case tup r t ws ht rs2 =>
        obtain ⟨k1, k2⟩ := key r ws rs2 rfl af2
        exact .inr ⟨a, t, vs, ws, rfl, rfl, e2, ht.sq, k1, k2⟩
      case ktup r t ws ht rs2 =>
        obtain ⟨k1, k2⟩ := key r ws rs2 rfl af2
        exact .inr ⟨a, t, vs, ws, rfl, rfl, e2, ht.sq, k1, k2⟩
      case ref m b hm =>
        dsimp only at af2
        cases q3 : h2.get m with
        | none => rw [q3] at af2; exact af2.elim
        | some o3 =>
          rw [q3] at af2
          have ro3 := rh2.ob m o3 b q3 hm
          cases o3 <;> first | exact af2.elim | skip
          rename_i r
          obtain ⟨ws, e3, rs3⟩ := ro3
          obtain ⟨k1, k2⟩ := key r ws rs3 rfl af2
          exact .inl ⟨a, b, vs, ws, rfl, rfl, e2, e3, k1, k2⟩
end
end PW

set_option Elab.async false
set_option linter.all false
set_option maxRecDepth 100000
set_option maxHeartbeats 1000000
/-! PYd: tuples whose object is known: tuple([..]), t.count(k), t.index(k). -/
namespace PW
open PySem PySem.Spec PyProof.Rows L2
def rTupK (K : PySem.W.Frag) : List V → Hp → VK → Prop := fun xs H Q => ∃ p ys, xs = [.ref p] ∧ SqL K H p ys ∧ ∀ l o, H l = none → o.cls = .type "tuple" → o.dict = none → Q (.ref l) (upd H l (.frz o (.tup ys)))
theorem call_tupK {X : Cx} : CallR X (.type "tuple") (rTupK X.K) := by
  intro pins s σ H xs us Q I r h
  obtain ⟨p, ys, rfl, hq, q⟩ := h
  obtain ⟨u, rfl, rx⟩ := vals1 r
  cases rx
  obtain ⟨its, rv, pl, hz⟩ := I.list hq
  have hlen := rv.length
  have hs : its.toArray.size ≤ sizeLine := by rw [List.size_toArray]; omega
  refine call_tuple_list pl.isList (fun h1 kp => ?_) hs
  have I1 : Inv X pins σ H { s with heap := h1 } := I.kept (t' := s.toks) kp
  refine ⟨.ref h1.objs.size, upd H h1.objs.size (.frz { cls := .type "tuple", data := .seq its.toArray } (.tup ys)), ?_, rfl, q _ _ (I1.hok.fresh (Nat.le_refl _)) rfl rfl⟩
  refine I1.laid (t' := s.toks) (fun b o e => Heap.get?_push_of_some _ e) (Nat.le_refl _) ?_
  show _ ∧ _
  exact ⟨Heap.get?_push_size _ rfl, hz, its, rv, IsTup.new _ _⟩
section
variable {X : Cx} {G : G0} {Wx : WX} {pn : List PinT} {pos p : Pos} {a b e : Expr} {da db : D} {c : DL}
theorem se_ctupK (g : X.mg "tuple" = none) (hs : SC X G pn Wx e c) (hg : Gl X "tuple" := by rfl) (na : starEach (e :: []) X.env = (false, eval e X.env) :: starEach [] X.env := by rfl) (hpl : (backTo pos (starEach [] X.env)).any (·.1) = false := by rfl) :
    SE X G pn Wx (.Call (.Name "tuple" p) [e] [] pos) (cTupK c) := PE.imp (pe_callTy call_tupK hg g PyProof.Rows.boot_tuple (pa_cons hs pa_nil na) (by decide) (by decide) na hpl) fun σ H Q q => by
  show rdC (gx X G) pn Wx c σ H _
  refine rdC.imp q fun ρ e h re rh a => ?_
  unfold cTupK at a
  cases qc : c e h with
  | bad => rw [qc] at a; exact a
  | ex x h1 => rw [qc] at a; exact a
  | ok l h1 =>
    rw [qc] at a
    intro ρ1 H1 D vs x1 rh1 rs eD nD h0
    simp only [Rs.bind] at a
    rw [bleD, lenD] at a
    by_cases ql : l.length ≤ LIM
    · rw [decide_eq_true ql] at a
      exact ⟨D, vs, rfl, .of eD, fun t o ht hc hd => a.go (x1.trans (.new ht)) (rh1.new ht) (.ktup (.inl ⟨o, upd_same, hc, hd⟩) (rs.ext (.new ht)))⟩
    · rw [decide_eq_false ql] at a; exact a.elim
/-! methods of such a tuple -/
/-- o.name(e): the receiver a known tuple -/
def tKM (K : PySem.W.Frag) (r : V → List V → Hp → VK → Prop) (to : TE) (t : TA) : TE := fun σ H Q => to σ H fun x H1 => (∃ p vs, x = .ref p ∧ KTup K H1 p vs) ∧ t σ H1 fun xs H2 => r x xs H2 Q
theorem pe_kmeth {o : Expr} {es : List Expr} {to : TE} {t : TA} {name : Str} {apos cpos : Pos} {id : String} {r : V → List V → Hp → VK → Prop} (slot : Slot "tuple" name id) (hty : typeOf (.builtin id) = pure (.type "method_descriptor")) (hm : MtR X id r) (ho : PE X o to) (ha : PA X (e :: es) t)
    (hbase : attributeBase o name X.env (eval o X.env) = eval o X.env)
    (hfew : ((backTo cpos (starEach (e :: es) X.env)).all (fun x => !x.1) && (backToKw cpos (keywordEach [] X.env)).all (fun x => x.1.isSome) && decide ((e :: es).length + ([] : List Keyword).length + (if ([] : List Keyword).isEmpty then 0 else 1) < 30)) = true)
    (hline : (apos.endLine == cpos.line) = true) (hs : starEach (e :: es) X.env = (false, eval e X.env) :: starEach es X.env) (hplain : (backTo cpos (starEach es X.env)).any (·.1) = false) :
    PE X (.Call (.Attribute o name apos) (e :: es) [] cpos) (tKM X.K r to t) := by
  refine ⟨fun pins s σ H Q I h => wpAny_Call_method_late hbase hfew hline rfl (thn (ho.run pins s σ H _ I h) fun v s1 ⟨x, H1, I1, r1, ⟨p, vs, ex, hk⟩, q1⟩ => ?_)⟩
  subst ex
  cases r1
  obtain ⟨ob, hob, hc, hd⟩ : ∃ ob : Obj, s1.heap.get? p = some ob ∧ ob.cls = .type "tuple" ∧ ob.dict = none := by
    rcases hk with ⟨ob, hp, hc, hd⟩ | ⟨ob, its, n, h1, hc, hd, _⟩
    · exact ⟨ob, (I1.hok p _ hp).1, hc, hd⟩
    · exact ⟨ob, I1.kIn p ob h1, hc, hd⟩
  refine ⟨"tuple", id, F.plainAttrs_tuple, slot, hty, ⟨ob, hob, hc⟩, fun a ea => by cases ea; exact ⟨ob, hob, hd⟩, ?_⟩
  have hA := ha.run cpos pins s1 σ H1 _ I1 q1
  rw [hs] at hA ⊢
  refine Calls.callWith_builtin (by show (false || (backTo cpos (starEach es X.env)).any (·.1)) = false; rw [hplain]; rfl) (Calls.evalArgs_plain (thn hA fun us s2 ⟨ws, H2, I2, r2, q2⟩ => ?_))
  exact hm pins s2 σ H2 (.ref p) ws (.ref p) us Q I2 rfl r2 q2
def rCntT (K : PySem.W.Frag) : V → List V → Hp → VK → Prop := fun x xs H Q => ∃ (p : Addr) (ns : List Int) (k : Int), x = .ref p ∧ xs = [.int k] ∧ SqT K H p (ns.map V.int) ∧ Q (.int (ns.count k : Nat)) H
theorem mt_tcount : MtR X "tuple.count" (rCntT X.K) := by
  intro pins s σ H x xs v us Q I rx rxs h
  obtain ⟨p, ns, k, rfl, rfl, ht, q⟩ := h
  cases rx
  obtain ⟨u, rfl, t, rfl⟩ := rxs.one
  obtain ⟨its, rv, ⟨⟨cl, dd, dt, sl⟩, ho, hc, n, hd⟩, hlen⟩ := I.tuple ht
  cases hc
  cases hd
  have hi := ints_of_vals rv
  refine call_meets F.slot_tuple_count ⟨_, ho, rfl⟩ F.entry_tuple_count (F.args_tuple_count_2 _ _) (SeqAt.tuple_countAt p its.toArray n dd sl (.int k t) (eqk k)) ⟨ho, fun y hy => (eqk_gives hi y (by simpa using hy)).at _ _, ?_⟩
  refine ⟨.int (ns.count k : Nat), H, I.tok _, ⟨s.toks, ?_⟩, q⟩
  rw [show its.toArray.toList.countP (eqk k) = ns.count k from eqk_count hi]
def rIxT (K : PySem.W.Frag) : V → List V → Hp → VK → Prop := fun x xs H Q => ∃ (p : Addr) (ns : List Int) (k : Int), x = .ref p ∧ xs = [.int k] ∧ SqT K H p (ns.map V.int) ∧ k ∈ ns ∧ Q (.int (ns.idxOf k : Nat)) H
theorem mt_tindex : MtR X "tuple.index" (rIxT X.K) := by
  intro pins s σ H x xs v us Q I rx rxs h
  obtain ⟨p, ns, k, rfl, rfl, ht, hk, q⟩ := h
  cases rx
  obtain ⟨u, rfl, t, rfl⟩ := rxs.one
  obtain ⟨its, rv, pl, hlen⟩ := I.tuple ht
  exact PySem.SeqAt.tuple_index_ints (show s.heap.IsTuple p its.toArray from pl) (ints_of_vals rv) hk ⟨.int (ns.idxOf k : Nat), H, I.tok _, ⟨s.toks, rfl⟩, q⟩
theorem cntI_D (k : Int) : ∀ (l : List Int) (n : Nat), cntI l k n = l.count k + n
  | [], n => by simp [cntI]
  | i :: r, n => by
    unfold cntI
    rw [iEqD]
    by_cases e : i = k
    · subst e
      rw [decide_eq_true rfl]
      show cntI r i (n + 1) = _
      rw [cntI_D i r]
      simp
      omega
    · rw [decide_eq_false e]
      show cntI r k n = _
      rw [cntI_D k r, List.count_cons_of_ne (by simpa using e)]
theorem ixI_D (k : Int) : ∀ (l : List Int) (n j : Nat), ixI l k n = some j → k ∈ l ∧ j = l.idxOf k + n
  | [], n, j, e => by cases e
  | i :: r, n, j, e => by
    unfold ixI at e
    rw [iEqD] at e
    by_cases z : i = k
    · subst z
      rw [decide_eq_true rfl] at e
      cases e
      exact ⟨List.mem_cons_self, by rw [List.idxOf_cons_self]; omega⟩
    · rw [decide_eq_false z] at e
      obtain ⟨h1, h2⟩ := ixI_D k r (n + 1) j e
      refine ⟨List.mem_cons_of_mem _ h1, ?_⟩
      rw [h2, List.idxOf_cons, beq_eq_false_iff_ne.mpr z]
      simp
      omega
theorem intsO_v {g : Gc} {ρ : List Addr} {H : Hp} : ∀ {l : List W} {vs : List V} {is : List Int}, RWs g ρ H l vs → intsO l = some is → vs = is.map V.int
  | _, _, is, .nil, e => by cases e; rfl
  | w :: l, v :: vs, is, .cons h r, e => by
    unfold intsO mapO at e
    cases h <;> first | (simp [intO] at e; done) | skip
    rename_i i
    simp only [intO] at e
    split at e
    · rename_i bs q
      cases e
      rw [List.map_cons, intsO_v r q]
    · cases e
theorem se_cnt {apos cpos : Pos} (ha : SE X G pn Wx a da) (hb : SE X G pn Wx b db) (hbase : attributeBase a "count" X.env (eval a X.env) = eval a X.env := by rfl)
    (hfew : ((backTo cpos (starEach [b] X.env)).all (fun x => !x.1) && (backToKw cpos (keywordEach [] X.env)).all (fun x => x.1.isSome) && decide ([b].length + ([] : List Keyword).length + (if ([] : List Keyword).isEmpty then 0 else 1) < 30)) = true := by rfl)
    (hline : (apos.endLine == cpos.line) = true := by rfl) (hs : starEach [b] X.env = (false, eval b X.env) :: starEach [] X.env := by rfl) (hplain : (backTo cpos (starEach [] X.env)).any (·.1) = false := by rfl) :
    SE X G pn Wx (.Call (.Attribute a "count" apos) [b] [] cpos) (dCnt da db) :=
  PE.imp (pe_kmeth F.slot_tuple_count F.type_tuple_count mt_tcount ha (pa_cons hb pa_nil hs) hbase hfew hline hs hplain) fun σ H Q q => by
  refine (rd.bind q).imp ?_
  rintro x H1 ⟨ρ, e, wx, h, re, rh, rx, af⟩
  cases rx <;> first | exact af.elim | skip
  rename_i l p vs ht rs
  dsimp only at af
  refine ⟨⟨p, vs, rfl, ht⟩, ρ, e, h, re, rh, (Aft.bind af).imp ?_⟩
  rintro y H2 ⟨ρ2, wy, h2, x2, rh2, ry, af2⟩
  cases ry <;> first | exact af2.elim | skip
  rename_i k
  dsimp only at af2
  cases q1 : intsO l with
  | none => rw [q1] at af2; exact af2.elim
  | some is =>
    rw [q1] at af2
    dsimp only at af2
    rw [shortD] at af2
    by_cases ql : l.length ≤ LIM
    · rw [decide_eq_true ql] at af2
      have ev := intsO_v rs q1
      subst ev
      refine ⟨p, is, k, rfl, rfl, (ht.ext x2.tups).sq, ?_⟩
      have := af2.go .refl rh2 (.int _)
      rw [cntI_D] at this
      exact this
    · rw [decide_eq_false ql] at af2; exact af2.elim
theorem se_ixo {apos cpos : Pos} (ha : SE X G pn Wx a da) (hb : SE X G pn Wx b db) (hbase : attributeBase a "index" X.env (eval a X.env) = eval a X.env := by rfl)
    (hfew : ((backTo cpos (starEach [b] X.env)).all (fun x => !x.1) && (backToKw cpos (keywordEach [] X.env)).all (fun x => x.1.isSome) && decide ([b].length + ([] : List Keyword).length + (if ([] : List Keyword).isEmpty then 0 else 1) < 30)) = true := by rfl)
    (hline : (apos.endLine == cpos.line) = true := by rfl) (hs : starEach [b] X.env = (false, eval b X.env) :: starEach [] X.env := by rfl) (hplain : (backTo cpos (starEach [] X.env)).any (·.1) = false := by rfl) :
    SE X G pn Wx (.Call (.Attribute a "index" apos) [b] [] cpos) (dIxO da db) :=
  PE.imp (pe_kmeth F.slot_tuple_index F.type_tuple_index mt_tindex ha (pa_cons hb pa_nil hs) hbase hfew hline hs hplain) fun σ H Q q => by
  refine (rd.bind q).imp ?_
  rintro x H1 ⟨ρ, e, wx, h, re, rh, rx, af⟩
  cases rx <;> first | exact af.elim | skip
  rename_i l p vs ht rs
  dsimp only at af
  refine ⟨⟨p, vs, rfl, ht⟩, ρ, e, h, re, rh, (Aft.bind af).imp ?_⟩
  rintro y H2 ⟨ρ2, wy, h2, x2, rh2, ry, af2⟩
  cases ry <;> first | exact af2.elim | skip
  rename_i k
  dsimp only at af2
  cases q1 : intsO l with
  | none => rw [q1] at af2; exact af2.elim
  | some is =>
    rw [q1] at af2
    dsimp only at af2
    cases q2 : ixI is k 0 with
    | none => rw [q2] at af2; exact af2.elim
    | some n =>
      rw [q2] at af2
      obtain ⟨k1, k2⟩ := ixI_D k is 0 n q2
      have ev := intsO_v rs q1
      subst ev
      refine ⟨p, is, k, rfl, rfl, (ht.ext x2.tups).sq, k1, ?_⟩
      have := af2.go .refl rh2 (.int _)
      rw [k2] at this
      exact this
end
end PW

set_option Elab.async false
set_option linter.all false
set_option maxRecDepth 100000
set_option maxHeartbeats 1000000
/-! PYc: for x, y, z in zip(a, b, c), three tuples. -/
namespace PW
open PySem PySem.Spec PyProof.Rows L2
/-- the tuples at a, b and c, their items in new triples -/
def Itz3 (K : PySem.W.Frag) (a b c : Addr) (n1 n2 n3 : Nat) : It :=
  ⟨fun i H => ∃ (xs ys zs : List V) (x y z : V), SqT K H a xs ∧ SqT K H b ys ∧ SqT K H c zs ∧ (xs.length = n1 ∧ ys.length = n2 ∧ zs.length = n3) ∧ xs[i]? = some x ∧ ys[i]? = some y ∧ zs[i]? = some z,
    fun i H v H' => ∃ T x y z, v = .ref T ∧ H T = none ∧ H' = upd H T (.tup [x, y, z]) ∧ (∀ xs, SqT K H a xs → xs[i]? = some x) ∧ (∀ ys, SqT K H b ys → ys[i]? = some y) ∧ ∀ zs, SqT K H c zs → zs[i]? = some z,
    fun i H => ∃ xs ys zs : List V, SqT K H a xs ∧ SqT K H b ys ∧ SqT K H c zs ∧ (xs.length = n1 ∧ ys.length = n2 ∧ zs.length = n3) ∧ (n1 ≤ i ∨ n2 ≤ i ∨ n3 ≤ i)⟩
theorem sep3 {z TI TO i1 i2 i3 a b c : Addr} (h : [z, TI, TO, i1, i2, i3].Nodup) (ha : ∀ t ∈ [a, b, c], t ∉ [z, TI, TO, i1, i2, i3]) : ZipSep3 z TI TO i1 i2 i3 [i1, a] [i2, b] [i3, c] := by
  simp only [List.nodup_cons, List.mem_cons, List.not_mem_nil, or_false, not_or] at h
  have h1 := ha a (by simp)
  have h2 := ha b (by simp)
  have h3 := ha c (by simp)
  simp only [List.mem_cons, List.not_mem_nil, or_false, not_or] at h1 h2 h3
  obtain ⟨⟨k1, k2, k3, k4, k5⟩, ⟨k6, k7, k8, k9⟩, ⟨k10, k11, k12⟩, ⟨k13, k14⟩, k15, _⟩ := h
  constructor <;> first | (simp only [List.mem_cons, List.not_mem_nil, or_false, not_or]; refine ⟨?_, ?_⟩ <;> first | (intro e; simp_all; done) | (intro e; exact absurd e (by intro e; simp_all))) | (intro e; simp_all; done) | simp
theorem turn_zip3 {P : Program} {w : World} {K : PySem.W.Frag} {elts : List Expr} {kk : Nat} {tpos : Pos} {a b c z TI TO i1 i2 i3 : Addr} {n1 n2 n3 : Nat} (hn : [z, TI, TO, i1, i2, i3].Nodup) (ha : ∀ t ∈ [a, b, c], t ∉ [z, TI, TO, i1, i2, i3]) :
    Turn P w K (.Tuple elts kk tpos) (Itz3 K a b c n1 n2 n3) [z, TI, TO, i1, i2, i3] z (fun i h => (i ≤ n1 ∧ i ≤ n2 ∧ i ≤ n3) ∧ IsZip h z TI TO .none ∧ IsTupOf3 h TI (.ref i1) (.ref i2) (.ref i3) ∧ (∃ x y u, IsTupOf3 h TO x y u) ∧ h.IsTupleIter i1 a i ∧ h.IsTupleIter i2 b i ∧ h.IsTupleIter i3 c i) where
  mem := by simp
  obj := fun i h st d hc => by
    obtain ⟨_, hz, hTI, ⟨x, y, u, hTO⟩, ⟨o1, e1, _, d1⟩, ⟨o2, e2, _, d2⟩, ⟨o3, e3, _, d3⟩⟩ := st
    simp only [List.mem_cons, List.not_mem_nil, or_false] at hc
    rcases hc with q | q | q | q | q | q <;> subst q
    · exact ⟨_, hz, fun v q => nomatch q⟩
    · exact ⟨_, hTI, fun v q => nomatch q⟩
    · exact ⟨_, hTO, fun v q => nomatch q⟩
    · exact ⟨o1, e1, fun v q => by rw [d1] at q; cases q⟩
    · exact ⟨o2, e2, fun v q => by rw [d2] at q; cases q⟩
    · exact ⟨o3, e3, fun v q => by rw [d3] at q; cases q⟩
  keep := fun i h h' st k => by
    obtain ⟨le, hz, hTI, ⟨x, y, u, hTO⟩, h1, h2, h3⟩ := st
    exact ⟨le, k z (by simp) _ hz, k TI (by simp) _ hTI, ⟨x, y, u, k TO (by simp) _ hTO⟩, h1.at fun o q => k i1 (by simp) o q, h2.at fun o q => k i2 (by simp) o q, h3.at fun o q => k i3 (by simp) o q⟩
  item := by
    intro X hP hw hK hc i pins s σ H E I hf st hg
    subst hP hw hK
    have S := sep3 hn ha
    obtain ⟨le, hz, hTI, ⟨x0, y0, u0, hTO⟩, h1, h2, h3⟩ := st
    obtain ⟨xs, ys, zs, x, y, u, hqx, hqy, hqz, ⟨m1, m2, m3⟩, hx, hy, hu⟩ := hg
    obtain ⟨its1, r1, p1, _⟩ := I.tuple hqx
    obtain ⟨its2, r2, p2, _⟩ := I.tuple hqy
    obtain ⟨its3, r3, p3, _⟩ := I.tuple hqz
    obtain ⟨v1, g1, s1⟩ := r1.get hx
    obtain ⟨v2, g2, s2⟩ := r2.get hy
    obtain ⟨v3, g3, s3⟩ := r3.get hu
    have hh := I.ok.hd hc
    have l1 : i < its1.toArray.size := by have := (List.getElem?_eq_some_iff.mp g1).1; simpa using this
    have l2 : i < its2.toArray.size := by have := (List.getElem?_eq_some_iff.mp g2).1; simpa using this
    have l3 : i < its3.toArray.size := by have := (List.getElem?_eq_some_iff.mp g3).1; simpa using this
    have na : a ≠ i1 := fun e => ha a (by simp) (by rw [e]; simp)
    have nb : b ≠ i2 := fun e => ha b (by simp) (by rw [e]; simp)
    have nc : c ≠ i3 := fun e => ha c (by simp) (by rw [e]; simp)
    have hzl : z < s.heap.objs.size := Heap.lt_size hz
    refine wpAny_pyNext_zipD3_item S (Draws.tuple (A := X.A.in1) (by simpa using hh) i1 a na its1.toArray) (Draws.tuple (A := X.A.in1) (by simpa using hh) i2 b nb its2.toArray) (Draws.tuple (A := X.A.in1) (by simpa using hh) i3 c nc its3.toArray)
      hz hTI hTO ⟨h1, p1⟩ ⟨h2, p2⟩ ⟨h3, p3⟩ l1 l2 l3 fun w1 w2 w3 h' tk y1 y2 y3 z' TO' t1 t2 t3 hT hsz hk => ?_
    have q1 : w1 = v1 := by rw [show its1.toArray[i]? = its1[i]? by simp] at y1; exact Option.some.inj (y1.symm.trans g1)
    have q2 : w2 = v2 := by rw [show its2.toArray[i]? = its2[i]? by simp] at y2; exact Option.some.inj (y2.symm.trans g2)
    have q3 : w3 = v3 := by rw [show its3.toArray[i]? = its3[i]? by simp] at y3; exact Option.some.inj (y3.symm.trans g3)
    subst q1 q2 q3
    refine ⟨_, rfl, wpAny_letOwnedTupleGo_zip (s := { s with heap := h', toks := tk }) z' fun h'' z'' sb => ?_⟩
    have hT2 : h''.get? s.heap.objs.size = some { cls := .type "tuple", data := .seq #[w1, w2, w3] } := (sb.2 _ (Nat.ne_of_gt hzl)).trans hT
    have nw : ObjOk X.prog X.w (upd H s.heap.objs.size (.tup [x, y, u])) h'' s.heap.objs.size (.tup [x, y, u]) :=
      ⟨by show 3 ≤ sizeLine; decide, [w1, w2, w3], .cons s1 (.cons s2 (.cons s3 .nil)), ⟨_, hT2, rfl, _, rfl⟩⟩
    have all : ∀ d o, d ≠ z → d ≠ TO → d ≠ i1 → d ≠ i2 → d ≠ i3 → s.heap.get? d = some o → h''.get? d = some o := fun d o n1 n2 n3 n4 n5 q => (sb.2 d n1).trans (hk d o n1 n2 n3 n4 n5 q)
    have I1 : Inv X pins σ (upd H s.heap.objs.size (.tup [x, y, u])) { s with heap := h'', toks := tk } :=
      I.turnedNew (t' := tk) (ch := [z, TI, TO, i1, i2, i3]) (fun d o hb q => all d o (fun e => hb (by simp [e])) (fun e => hb (by simp [e])) (fun e => hb (by simp [e])) (fun e => hb (by simp [e])) (fun e => hb (by simp [e])) q) hf (Nat.le_refl _) nw
    have nz : ∀ d ∈ [TI, TO, i1, i2, i3], d ≠ z := fun d hd e => (List.nodup_cons.mp hn).1 (by rw [e] at hd; exact hd)
    refine ⟨.ref s.heap.objs.size, _, I1, rfl, ⟨_, x, y, u, rfl, I.hok.fresh (Nat.le_refl _), rfl, fun l hl => by rw [I.tuple_inj hl hqx]; exact hx, fun l hl => by rw [I.tuple_inj hl hqy]; exact hy, fun l hl => by rw [I.tuple_inj hl hqz]; exact hu⟩, ⟨⟨?_, ?_, ?_⟩, z'', ?_, ⟨w1, w2, w3, ?_⟩, ?_, ?_, ?_⟩, fun d hd => ?_⟩
    · rw [← m1]; exact (List.getElem?_eq_some_iff.mp hx).1
    · rw [← m2]; exact (List.getElem?_eq_some_iff.mp hy).1
    · rw [← m3]; exact (List.getElem?_eq_some_iff.mp hu).1
    · exact all TI _ S.TIz S.TITO S.TIi1 S.TIi2 S.TIi3 hTI
    · exact (sb.2 _ S.TOz).trans TO'
    · exact t1.1.at fun o q => (sb.2 _ (nz i1 (by simp))).trans q
    · exact t2.1.at fun o q => (sb.2 _ (nz i2 (by simp))).trans q
    · exact t3.1.at fun o q => (sb.2 _ (nz i3 (by simp))).trans q
    · have hlt : d < s.heap.objs.size := by
        have hd' := hd
        simp only [List.mem_cons, List.not_mem_nil, or_false] at hd'
        rcases hd' with q | q | q | q | q | q <;> subst q
        · exact hzl
        · exact Heap.lt_size hTI
        · exact Heap.lt_size hTO
        · obtain ⟨_, e1, _⟩ := h1; exact Heap.lt_size e1
        · obtain ⟨_, e2, _⟩ := h2; exact Heap.lt_size e2
        · obtain ⟨_, e3, _⟩ := h3; exact Heap.lt_size e3
      rw [upd_ne (Nat.ne_of_lt hlt)]
      exact (hf d hd).1
  done := by
    intro X hP hw hK hc i pins s σ H E I hf st hg
    subst hP hw hK
    have S := sep3 hn ha
    obtain ⟨⟨le1, le2, le3⟩, hz, hTI, ⟨x0, y0, u0, hTO⟩, h1, h2, h3⟩ := st
    obtain ⟨xs, ys, zs, hqx, hqy, hqz, ⟨g1, g2, g3⟩, hend⟩ := hg
    obtain ⟨its1, r1, p1, _⟩ := I.tuple hqx
    obtain ⟨its2, r2, p2, _⟩ := I.tuple hqy
    obtain ⟨its3, r3, p3, _⟩ := I.tuple hqz
    have m1 := r1.length
    have m2 := r2.length
    have m3 := r3.length
    have hh := I.ok.hd hc
    have na : a ≠ i1 := fun e => ha a (by simp) (by rw [e]; simp)
    have nb : b ≠ i2 := fun e => ha b (by simp) (by rw [e]; simp)
    have nc : c ≠ i3 := fun e => ha c (by simp) (by rw [e]; simp)
    refine wpAny_pyNext_zipD3_end S (Draws.tuple (A := X.A.in1) (by simpa using hh) i1 a na its1.toArray) (Draws.tuple (A := X.A.in1) (by simpa using hh) i2 b nb its2.toArray) (Draws.tuple (A := X.A.in1) (by simpa using hh) i3 c nc its3.toArray)
      hz hTI hTO ⟨h1, p1⟩ ⟨h2, p2⟩ ⟨h3, p3⟩ (by simp; omega) (by simp; omega) (by simp; omega) ?_ fun h' tk hk => ⟨rfl, I.turnedL (t' := tk) (ch := [z, TI, TO, i1, i2, i3]) (fun d o hb q =>
      hk d o (fun q' => hb (by simp [q'])) (fun q' => hb (by simp [q'])) (fun q' => hb (by simp [q'])) (fun q' => hb (by simp [q'])) (fun q' => hb (by simp [q'])) q) hf⟩
    simp
    omega
  self := fun A i s Q E st h => wpAny_pyIter_zip st.2.1 h
theorem nodup6 (n : Nat) : [n + 5, n + 3, n + 4, n, n + 1, n + 2].Nodup := by
  simp only [List.nodup_cons, List.mem_cons, List.not_mem_nil, or_false, not_or]
  refine ⟨?_, ?_, ?_, ?_, ?_, ?_, ?_⟩ <;> first | omega | exact not_false | exact .nil
theorem out6 (n t : Nat) (h : t < n) : t ∉ [n + 5, n + 3, n + 4, n, n + 1, n + 2] := by
  simp only [List.mem_cons, List.not_mem_nil, or_false, not_or]
  omega
theorem le6 (n d : Nat) (h : d ∈ [n + 5, n + 3, n + 4, n, n + 1, n + 2]) : n ≤ d := by
  simp only [List.mem_cons, List.not_mem_nil, or_false] at h
  omega
def tIZ3 (K : PySem.W.Frag) (ta : TA) : TI := fun σ H R => ta σ H fun vs H1 => ∃ a b c xs ys zs, vs = [.ref a, .ref b, .ref c] ∧ SqT K H1 a xs ∧ SqT K H1 b ys ∧ SqT K H1 c zs ∧ R (Itz3 K a b c xs.length ys.length zs.length) H1
theorem pi_zip3 {X : Cx} {e e2 e3 : Expr} {ta : TA} {p pos tpos : Pos} {elts : List Expr} {kk : Nat} (hg : Gl X "zip") (hm : X.mg "zip" = none) (ha : PA X [e, e2, e3] ta)
    (hs : starEach [e, e2, e3] X.env = (false, eval e X.env) :: starEach [e2, e3] X.env) (hpl : (backTo pos (starEach [e2, e3] X.env)).any (·.1) = false) :
    PI X (.Tuple elts kk tpos) (.Call (.Name "zip" p) [e, e2, e3] [] pos) (tIZ3 X.K ta) := by
  refine ⟨fun pins s σ H R I h => ?_⟩
  refine Call_ (ld_blt I hg hm PyProof.Rows.boot_zip (PyProof.Rows.callWith_type1 (thn (ha.run pos pins s σ H _ I h) fun us s1 ⟨vs, H1, I1, r1, a, b, c, xs, ys, zs, ex, hqx, hqy, hqz, q⟩ => ?_) hs hpl))
  subst ex
  cases r1 with
  | cons k1 rr =>
  cases rr with
  | cons k2 rr =>
  cases rr with
  | cons k3 rr =>
  cases rr
  cases k1
  cases k2
  cases k3
  obtain ⟨its1, r1, p1, _⟩ := I1.tuple hqx
  obtain ⟨its2, r2, p2, _⟩ := I1.tuple hqy
  obtain ⟨its3, r3, p3, _⟩ := I1.tuple hqz
  have la : a < s1.heap.objs.size := by obtain ⟨_, z, _⟩ := p1; exact Heap.lt_size z
  have lb : b < s1.heap.objs.size := by obtain ⟨_, z, _⟩ := p2; exact Heap.lt_size z
  have lc : c < s1.heap.objs.size := by obtain ⟨_, z, _⟩ := p3; exact Heap.lt_size z
  refine zip_begins3 (begins_tuple a its1.toArray) (begins_tuple b its2.toArray) (begins_tuple c its3.toArray) p1 p2 p3 fun h' hz hTI hTO h1 h2 h3 hsz hk => wpAny_pyIter_zip hz ?_
  have I2 : Inv X pins σ H1 { s1 with heap := h' } := I1.kept (t' := s1.toks) hk
  refine ⟨s1.heap.objs.size + 5, [s1.heap.objs.size + 5, s1.heap.objs.size + 3, s1.heap.objs.size + 4, s1.heap.objs.size, s1.heap.objs.size + 1, s1.heap.objs.size + 2], _, _, H1, rfl, I2, turn_zip3 ?_ ?_, ⟨⟨Nat.zero_le _, Nat.zero_le _, Nat.zero_le _⟩, hz, hTI, ⟨_, _, _, hTO⟩, ⟨_, h1, rfl, rfl⟩, ⟨_, h2, rfl, rfl⟩, ⟨_, h3, rfl, rfl⟩⟩, ?_, q⟩
  · exact nodup6 s1.heap.objs.size
  · intro t ht
    simp only [List.mem_cons, List.not_mem_nil, or_false] at ht
    rcases ht with e | e | e <;> subst e
    · exact out6 _ _ la
    · exact out6 _ _ lb
    · exact out6 _ _ lc
  · intro d hd
    have hle : s1.heap.objs.size ≤ d := le6 _ _ hd
    exact I1.fpOk hle (I1.hok.fresh hle)
section
variable {g : Gc} {ρ : List Addr} {h : Hq} {H : Hp}
theorem tupO_v {w : W} {v : V} {l : List W} (r : RW g ρ H w v) (e : tupO w = some l) : ∃ a vs, v = .ref a ∧ TupA g H a vs ∧ RWs g ρ H l vs := by
  cases r <;> first | cases e; done | skip
  case tup l a vs ht rs => cases e; exact ⟨a, vs, rfl, .inl ht, rs⟩
  case ktup l a vs ht rs => cases e; exact ⟨a, vs, rfl, .inr ht, rs⟩
theorem z3_at : ∀ (l r m : List W) (i : Nat), (z3 l r m)[i]? = match l[i]?, r[i]?, m[i]? with | some a, some b, some c => some (.tup [a, b, c]) | _, _, _ => none
  | [], r, m, i => by simp [z3]
  | a :: l, [], m, i => by
    simp only [z3]
    cases (a :: l)[i]? <;> simp
  | a :: l, b :: r, [], i => by
    simp only [z3]
    cases (a :: l)[i]? <;> cases (b :: r)[i]? <;> simp
  | a :: l, b :: r, c :: m, 0 => by simp [z3]
  | a :: l, b :: r, c :: m, i + 1 => by
    simp only [z3, List.getElem?_cons_succ]
    exact z3_at l r m i
theorem z3_end : ∀ (l r m : List W), (z3 l r m).length ≤ l.length ∧ (z3 l r m).length ≤ r.length ∧ (z3 l r m).length ≤ m.length ∧ (l.length = (z3 l r m).length ∨ r.length = (z3 l r m).length ∨ m.length = (z3 l r m).length)
  | [], r, m => by simp [z3]
  | a :: l, [], m => by simp [z3]
  | a :: l, b :: r, [] => by simp [z3]
  | a :: l, b :: r, c :: m => by
    obtain ⟨h1, h2, h3, h4⟩ := z3_end l r m
    simp only [z3, List.length_cons]
    omega
theorem src_zip3 {l r m : List W} {a b c : Addr} {vs ws us : List V} (h1 : TupA g H a vs) (s1 : RWs g ρ H l vs) (h2 : TupA g H b ws) (s2 : RWs g ρ H r ws) (h3 : TupA g H c us) (s3 : RWs g ρ H m us) : SrcR g ρ H (.tup (z3 l r m)) (Itz3 g.K a b c vs.length ws.length us.length) := by
  intro ρ' H' h' i x rh
  have k1 := (h1.extw x).sq
  have k2 := (h2.extw x).sq
  have k3 := (h3.extw x).sq
  have t1 := s1.extw x
  have t2 := s2.extw x
  have t3 := s3.extw x
  unfold next
  rw [nthD]
  cases q : (z3 l r m)[i]? with
  | none =>
    refine ⟨vs, ws, us, k1, k2, k3, ⟨rfl, rfl, rfl⟩, ?_⟩
    have hi := List.getElem?_eq_none_iff.mp q
    have h4 := (z3_end l r m).2.2.2
    have e1 := s1.length
    have e2 := s2.length
    have e3 := s3.length
    omega
  | some w =>
    rw [z3_at] at q
    dsimp only
    cases q1 : l[i]? with
    | none => rw [q1] at q; cases q
    | some w1 =>
    cases q2 : r[i]? with
    | none => rw [q1, q2] at q; cases q
    | some w2 =>
    cases q3 : m[i]? with
    | none => rw [q1, q2, q3] at q; cases q
    | some w3 =>
    rw [q1, q2, q3] at q
    cases q
    obtain ⟨v1, e1, r1⟩ := t1.get q1
    obtain ⟨v2, e2, r2⟩ := t2.get q2
    obtain ⟨v3, e3, r3⟩ := t3.get q3
    refine ⟨⟨vs, ws, us, v1, v2, v3, k1, k2, k3, ⟨rfl, rfl, rfl⟩, e1, e2, e3⟩, fun y H'' ⟨T, y1, y2, y3, z1, z2, z3, z4, z5, z6⟩ => ?_⟩
    subst z1 z3
    have j1 := z4 vs k1
    have j2 := z5 ws k2
    have j3 := z6 us k3
    rw [e1] at j1
    rw [e2] at j2
    rw [e3] at j3
    cases j1
    cases j2
    cases j3
    exact ⟨.new z2, rh.new z2, .tup upd_same (.cons (r1.ext (.new z2)) (.cons (r2.ext (.new z2)) (.cons (r3.ext (.new z2)) .nil)))⟩
end
section
variable {X : Cx} {G : G0} {pn : List PinT} {Wx : WX} {pos p tpos : Pos} {a b c : Expr} {da db dc : D} {elts : List Expr} {kk : Nat}
theorem rd_l3 {γ : Type} {δ : Type} {rel2 : List Addr → Hp → γ → δ → Prop} {k : W → W → W → Hq → Rs γ} {σ : L2.St} {H : Hp} {Q : δ → Hp → Prop} (q : rd (gx X G) pn rel2 Wx (fun e h => (da e h).bind fun x h1 => (db e h1).bind fun y h2 => (dc e h2).bind fun z h3 => k x y z h3) σ H Q) :
    rd (gx X G) pn (RWs (gx X G)) Wx (lCons da (lCons db (lCons dc lNil))) σ H fun vs H1 => ∃ v v' v'' ρ e wx wy wz h, vs = [v, v', v''] ∧ RE (gx X G) pn ρ H1 e σ ∧ RH (gx X G) ρ h H1 ∧ RW (gx X G) ρ H1 wx v ∧ RW (gx X G) ρ H1 wy v' ∧ RW (gx X G) ρ H1 wz v'' ∧ Aft (gx X G) rel2 ρ H1 Wx σ (k wx wy wz h) Q := by
  obtain ⟨ρ, e, h, re, rh, a⟩ := q
  refine ⟨ρ, e, h, re, rh, ?_⟩
  show Aft (gx X G) (RWs (gx X G)) ρ H Wx σ ((da e h).bind fun x h1 => (((db e h1).bind fun y h2 => (((dc e h2).bind fun z h3 => .ok [z] h3).bind fun xs h3 => .ok (y :: xs) h3)).bind fun xs h2 => .ok (x :: xs) h2)) _
  dsimp only at a
  cases qd : da e h with
  | bad => rw [qd] at a; exact a
  | ex z h1 => rw [qd] at a; exact a
  | ok wx h1 =>
    rw [qd] at a
    simp only [Rs.bind] at a ⊢
    cases qd2 : db e h1 with
    | bad => rw [qd2] at a; exact a
    | ex z h2 => rw [qd2] at a; exact a
    | ok wy h2 =>
      rw [qd2] at a
      simp only [Rs.bind] at a ⊢
      cases qd3 : dc e h2 with
      | bad => rw [qd3] at a; exact a
      | ex z h3 => rw [qd3] at a; exact a
      | ok wz h3 =>
        rw [qd3] at a
        intro ρ' H' b x rh' rb
        cases rb with
        | cons r1 r2 =>
        cases r2 with
        | cons r3 r4 =>
        cases r4 with
        | cons r5 r6 =>
          cases r6
          exact ⟨_, _, _, ρ', e, wx, wy, wz, h3, rfl, re.ext x, rh', r1, r3, r5, Aft.ext x a⟩
theorem si_zip3 (g : X.mg "zip" = none) (ha : SE X G pn Wx a da) (hb : SE X G pn Wx b db) (hc : SE X G pn Wx c dc) (hg : Gl X "zip" := by rfl) (hs : starEach [a, b, c] X.env = (false, eval a X.env) :: starEach [b, c] X.env := by rfl) (hpl : (backTo pos (starEach [b, c] X.env)).any (·.1) = false := by rfl)
    (hs2 : starEach (b :: [c]) X.env = (false, eval b X.env) :: starEach [c] X.env := by rfl) (hs3 : starEach (c :: []) X.env = (false, eval c X.env) :: starEach [] X.env := by rfl) :
    SI X G pn Wx (.Tuple elts kk tpos) (.Call (.Name "zip" p) [a, b, c] [] pos) (PW.iZip3 da db dc) := PI.imp (pi_zip3 hg g (sl_cons ha (sl_cons hb (sl_cons hc sl_nil hs3) hs2) hs) hs hpl) fun σ H R q => by
  refine (rd_l3 q).imp ?_
  rintro vs H1 ⟨v, v', v'', ρ, e, wx, wy, wz, h, rfl, re, rh, rx, ry, rz, af⟩
  cases q1 : tupO wx with
  | none => rw [q1] at af; exact af.elim
  | some l =>
  cases q2 : tupO wy with
  | none => rw [q1, q2] at af; exact af.elim
  | some r =>
  cases q3 : tupO wz with
  | none => rw [q1, q2, q3] at af; exact af.elim
  | some m =>
  rw [q1, q2, q3] at af
  obtain ⟨a1, vs1, rfl, h1, s1⟩ := tupO_v rx q1
  obtain ⟨a2, vs2, rfl, h2, s2⟩ := tupO_v ry q2
  obtain ⟨a3, vs3, rfl, h3, s3⟩ := tupO_v rz q3
  exact ⟨a1, a2, a3, vs1, vs2, vs3, rfl, h1.sq, h2.sq, h3.sq, Aft.go (rel := SrcR (gx X G)) af .refl rh (src_zip3 h1 s1 h2 s2 h3 s3)⟩
end
end PW

set_option Elab.async false
set_option linter.all false
set_option maxRecDepth 100000
set_option maxHeartbeats 1000000
/-! PYe: for x, y in zip(a, b), each a list or a tuple. -/
namespace PW
open PySem PySem.Spec PyProof.Rows L2
/-- f: a tuple; else a list -/
def SqB (f : Bool) (K : PySem.W.Frag) (H : Hp) (a : Addr) (xs : List V) : Prop := match f with
  | true => SqT K H a xs
  | false => SqL K H a xs
def IterB (f : Bool) (h : Heap) (it a : Addr) (i : Nat) : Prop := match f with
  | true => h.IsTupleIter it a i
  | false => h.IsListIter it a i
def IsB (f : Bool) (h : Heap) (a : Addr) (its : Array Value) : Prop := match f with
  | true => h.IsTuple a its
  | false => h.IsList a its
def itObj (f : Bool) (a : Addr) : Obj := match f with
  | true => { cls := .type "tuple_iterator", data := .fields #[.ref a, .int 0 0] }
  | false => { cls := .type "list_iterator", data := .fields #[.ref a, .int 0 0] }
theorem begB (f : Bool) (a : Addr) (its : Array Value) : Begins (.ref a) (itObj f a) fun h => IsB f h a its := by
  cases f
  · exact begins_list a its
  · exact begins_tuple a its
theorem itB0 {f : Bool} {h : Heap} {it a : Addr} (e : h.get? it = some (itObj f a)) : IterB f h it a 0 := by
  cases f
  · exact ⟨_, e, rfl, rfl⟩
  · exact ⟨_, e, rfl, rfl⟩
theorem IterB.at {f : Bool} {h h' : Heap} {it a : Addr} {i : Nat} (x : IterB f h it a i) (e : ∀ o, h.get? it = some o → h'.get? it = some o) : IterB f h' it a i := by
  cases f
  · obtain ⟨o, q, r⟩ := x; exact ⟨o, e o q, r⟩
  · obtain ⟨o, q, r⟩ := x; exact ⟨o, e o q, r⟩
theorem IterB.obj {f : Bool} {h : Heap} {it a : Addr} {i : Nat} (x : IterB f h it a i) : ∃ o, h.get? it = some o ∧ ∀ v, o.data ≠ .cell v := by
  cases f
  · obtain ⟨o, q, _, d⟩ := x; exact ⟨o, q, fun v z => by rw [d] at z; cases z⟩
  · obtain ⟨o, q, _, d⟩ := x; exact ⟨o, q, fun v z => by rw [d] at z; cases z⟩
theorem IsB.lt {f : Bool} {h : Heap} {a : Addr} {its : Array Value} (x : IsB f h a its) : a < h.objs.size := by
  cases f
  · obtain ⟨o, q, _⟩ := x; exact Heap.lt_size q
  · obtain ⟨o, q, _⟩ := x; exact Heap.lt_size q
theorem drawsB (f : Bool) {prog : Program} {w : World} {A : Around} (hh : A.handled = none) (it a : Addr) (hne : a ≠ it) (its : Array Value) :
    Draws prog w A it [it, a] its.size (fun i v => its[i]? = some v) (fun i h => IterB f h it a i ∧ IsB f h a its) := by
  cases f
  · exact Draws.list hh it a hne its
  · exact Draws.tuple hh it a hne its
theorem seqB {X : Cx} {pins : List (Addr × Obj)} {σ : L2.St} {H : Hp} {s : Shared} {f : Bool} {a : Addr} {xs : List V} (I : Inv X pins σ H s) (h : SqB f X.K H a xs) : ∃ its : List Value, Vals xs its ∧ IsB f s.heap a its.toArray := by
  cases f
  · obtain ⟨its, r, p, _⟩ := I.list h; exact ⟨its, r, p.isList⟩
  · obtain ⟨its, r, p, _⟩ := I.tuple h; exact ⟨its, r, p⟩
theorem injB {X : Cx} {pins : List (Addr × Obj)} {σ : L2.St} {H : Hp} {s : Shared} {f : Bool} {a : Addr} {xs ys : List V} (I : Inv X pins σ H s) (h : SqB f X.K H a xs) (h' : SqB f X.K H a ys) : xs = ys := by
  cases f
  · exact I.list_inj h h'
  · exact I.tuple_inj h h'
def ItzB (f g : Bool) (K : PySem.W.Frag) (a b : Addr) (n1 n2 : Nat) : It :=
  ⟨fun i H => ∃ (xs ys : List V) (x y : V), SqB f K H a xs ∧ SqB g K H b ys ∧ (xs.length = n1 ∧ ys.length = n2) ∧ xs[i]? = some x ∧ ys[i]? = some y,
    fun i H v H' => ∃ T x y, v = .ref T ∧ H T = none ∧ H' = upd H T (.tup [x, y]) ∧ (∀ xs, SqB f K H a xs → xs[i]? = some x) ∧ ∀ ys, SqB g K H b ys → ys[i]? = some y,
    fun i H => ∃ xs ys : List V, SqB f K H a xs ∧ SqB g K H b ys ∧ (xs.length = n1 ∧ ys.length = n2) ∧ (n1 ≤ i ∨ n2 ≤ i)⟩
theorem sep2 {z TI TO i1 i2 a b : Addr} (h : [z, TI, TO, i1, i2].Nodup) (ha : ∀ t ∈ [a, b], t ∉ [z, TI, TO, i1, i2]) : ZipSep2 z TI TO i1 i2 [i1, a] [i2, b] := by
  simp only [List.nodup_cons, List.mem_cons, List.not_mem_nil, or_false, not_or] at h
  have h1 := ha a (by simp)
  have h2 := ha b (by simp)
  simp only [List.mem_cons, List.not_mem_nil, or_false, not_or] at h1 h2
  obtain ⟨⟨k1, k2, k3, k4⟩, ⟨k6, k7, k8⟩, ⟨k10, k11⟩, k13, _⟩ := h
  constructor <;> first | (simp only [List.mem_cons, List.not_mem_nil, or_false, not_or]; refine ⟨?_, ?_⟩ <;> (intro e; simp_all; done)) | (intro e; simp_all; done) | simp
theorem turn_zipB {P : Program} {w : World} {K : PySem.W.Frag} {elts : List Expr} {kk : Nat} {tpos : Pos} {f g : Bool} {a b z TI TO i1 i2 : Addr} {n1 n2 : Nat} (hn : [z, TI, TO, i1, i2].Nodup) (ha : ∀ t ∈ [a, b], t ∉ [z, TI, TO, i1, i2]) :
    Turn P w K (.Tuple elts kk tpos) (ItzB f g K a b n1 n2) [z, TI, TO, i1, i2] z (fun i h => (i ≤ n1 ∧ i ≤ n2) ∧ IsZip h z TI TO .none ∧ IsTupOf2 h TI (.ref i1) (.ref i2) ∧ (∃ x y, IsTupOf2 h TO x y) ∧ IterB f h i1 a i ∧ IterB g h i2 b i) where
  mem := by simp
  obj := fun i h st d hc => by
    obtain ⟨_, hz, hTI, ⟨x, y, hTO⟩, h1, h2⟩ := st
    simp only [List.mem_cons, List.not_mem_nil, or_false] at hc
    rcases hc with q | q | q | q | q <;> subst q
    · exact ⟨_, hz, fun v q => nomatch q⟩
    · exact ⟨_, hTI, fun v q => nomatch q⟩
    · exact ⟨_, hTO, fun v q => nomatch q⟩
    · exact h1.obj
    · exact h2.obj
  keep := fun i h h' st k => by
    obtain ⟨le, hz, hTI, ⟨x, y, hTO⟩, h1, h2⟩ := st
    exact ⟨le, k z (by simp) _ hz, k TI (by simp) _ hTI, ⟨x, y, k TO (by simp) _ hTO⟩, h1.at fun o q => k i1 (by simp) o q, h2.at fun o q => k i2 (by simp) o q⟩
  item := by
    intro X hP hw hK hc i pins s σ H E I hf st hg
    subst hP hw hK
    have S := sep2 hn ha
    obtain ⟨le, hz, hTI, ⟨x0, y0, hTO⟩, h1, h2⟩ := st
    obtain ⟨xs, ys, x, y, hqx, hqy, ⟨m1, m2⟩, hx, hy⟩ := hg
    obtain ⟨its1, r1, p1⟩ := seqB I hqx
    obtain ⟨its2, r2, p2⟩ := seqB I hqy
    obtain ⟨v1, g1, s1⟩ := r1.get hx
    obtain ⟨v2, g2, s2⟩ := r2.get hy
    have hh := I.ok.hd hc
    have l1 : i < its1.toArray.size := by have := (List.getElem?_eq_some_iff.mp g1).1; simpa using this
    have l2 : i < its2.toArray.size := by have := (List.getElem?_eq_some_iff.mp g2).1; simpa using this
    have na : a ≠ i1 := fun e => ha a (by simp) (by rw [e]; simp)
    have nb : b ≠ i2 := fun e => ha b (by simp) (by rw [e]; simp)
    have hzl : z < s.heap.objs.size := Heap.lt_size hz
    refine wpAny_pyNext_zipD2_item S (drawsB f (A := X.A.in1) (by simpa using hh) i1 a na its1.toArray) (drawsB g (A := X.A.in1) (by simpa using hh) i2 b nb its2.toArray)
      hz hTI hTO ⟨h1, p1⟩ ⟨h2, p2⟩ l1 l2 fun w1 w2 h' tk y1 y2 z' TO' t1 t2 hT hsz hk => ?_
    have q1 : w1 = v1 := by rw [show its1.toArray[i]? = its1[i]? by simp] at y1; exact Option.some.inj (y1.symm.trans g1)
    have q2 : w2 = v2 := by rw [show its2.toArray[i]? = its2[i]? by simp] at y2; exact Option.some.inj (y2.symm.trans g2)
    subst q1 q2
    refine ⟨_, rfl, wpAny_letOwnedTupleGo_zip (s := { s with heap := h', toks := tk }) z' fun h'' z'' sb => ?_⟩
    have hT2 : h''.get? s.heap.objs.size = some { cls := .type "tuple", data := .seq #[w1, w2] } := (sb.2 _ (Nat.ne_of_gt hzl)).trans hT
    have nw : ObjOk X.prog X.w (upd H s.heap.objs.size (.tup [x, y])) h'' s.heap.objs.size (.tup [x, y]) :=
      ⟨by show 2 ≤ sizeLine; decide, [w1, w2], .cons s1 (.cons s2 .nil), ⟨_, hT2, rfl, _, rfl⟩⟩
    have all : ∀ d o, d ≠ z → d ≠ TO → d ≠ i1 → d ≠ i2 → s.heap.get? d = some o → h''.get? d = some o := fun d o n1 n2 n3 n4 q => (sb.2 d n1).trans (hk d o n1 n2 n3 n4 q)
    have I1 : Inv X pins σ (upd H s.heap.objs.size (.tup [x, y])) { s with heap := h'', toks := tk } :=
      I.turnedNew (t' := tk) (ch := [z, TI, TO, i1, i2]) (fun d o hb q => all d o (fun e => hb (by simp [e])) (fun e => hb (by simp [e])) (fun e => hb (by simp [e])) (fun e => hb (by simp [e])) q) hf (Nat.le_refl _) nw
    have nz : ∀ d ∈ [TI, TO, i1, i2], d ≠ z := fun d hd e => (List.nodup_cons.mp hn).1 (by rw [e] at hd; exact hd)
    refine ⟨.ref s.heap.objs.size, _, I1, rfl, ⟨_, x, y, rfl, I.hok.fresh (Nat.le_refl _), rfl, fun l hl => by rw [injB I hl hqx]; exact hx, fun l hl => by rw [injB I hl hqy]; exact hy⟩, ⟨⟨?_, ?_⟩, z'', ?_, ⟨w1, w2, ?_⟩, ?_, ?_⟩, fun d hd => ?_⟩
    · rw [← m1]; exact (List.getElem?_eq_some_iff.mp hx).1
    · rw [← m2]; exact (List.getElem?_eq_some_iff.mp hy).1
    · exact all TI _ S.TIz S.TITO S.TIi1 S.TIi2 hTI
    · exact (sb.2 _ S.TOz).trans TO'
    · exact t1.1.at fun o q => (sb.2 _ (nz i1 (by simp))).trans q
    · exact t2.1.at fun o q => (sb.2 _ (nz i2 (by simp))).trans q
    · have hlt : d < s.heap.objs.size := by
        have hd' := hd
        simp only [List.mem_cons, List.not_mem_nil, or_false] at hd'
        rcases hd' with q | q | q | q | q <;> subst q
        · exact hzl
        · exact Heap.lt_size hTI
        · exact Heap.lt_size hTO
        · obtain ⟨_, e1, _⟩ := h1.obj; exact Heap.lt_size e1
        · obtain ⟨_, e2, _⟩ := h2.obj; exact Heap.lt_size e2
      rw [upd_ne (Nat.ne_of_lt hlt)]
      exact (hf d hd).1
  done := by
    intro X hP hw hK hc i pins s σ H E I hf st hg
    subst hP hw hK
    have S := sep2 hn ha
    obtain ⟨⟨le1, le2⟩, hz, hTI, ⟨x0, y0, hTO⟩, h1, h2⟩ := st
    obtain ⟨xs, ys, hqx, hqy, ⟨g1, g2⟩, hend⟩ := hg
    obtain ⟨its1, r1, p1⟩ := seqB I hqx
    obtain ⟨its2, r2, p2⟩ := seqB I hqy
    have m1 := r1.length
    have m2 := r2.length
    have hh := I.ok.hd hc
    have na : a ≠ i1 := fun e => ha a (by simp) (by rw [e]; simp)
    have nb : b ≠ i2 := fun e => ha b (by simp) (by rw [e]; simp)
    refine wpAny_pyNext_zipD2_end S (drawsB f (A := X.A.in1) (by simpa using hh) i1 a na its1.toArray) (drawsB g (A := X.A.in1) (by simpa using hh) i2 b nb its2.toArray)
      hz hTI hTO ⟨h1, p1⟩ ⟨h2, p2⟩ (by simp; omega) (by simp; omega) ?_ fun h' tk hk => ⟨rfl, I.turnedL (t' := tk) (ch := [z, TI, TO, i1, i2]) (fun d o hb q =>
      hk d o (fun q' => hb (by simp [q'])) (fun q' => hb (by simp [q'])) (fun q' => hb (by simp [q'])) (fun q' => hb (by simp [q'])) q) hf⟩
    simp
    omega
  self := fun A i s Q E st h => wpAny_pyIter_zip st.2.1 h
theorem nodup5 (n : Nat) : [n + 4, n + 2, n + 3, n, n + 1].Nodup := by
  simp only [List.nodup_cons, List.mem_cons, List.not_mem_nil, or_false, not_or]
  refine ⟨?_, ?_, ?_, ?_, ?_, ?_⟩ <;> first | omega | exact not_false | exact .nil
theorem out5 (n t : Nat) (h : t < n) : t ∉ [n + 4, n + 2, n + 3, n, n + 1] := by
  simp only [List.mem_cons, List.not_mem_nil, or_false, not_or]
  omega
theorem le5 (n d : Nat) (h : d ∈ [n + 4, n + 2, n + 3, n, n + 1]) : n ≤ d := by
  simp only [List.mem_cons, List.not_mem_nil, or_false] at h
  omega
def tIZB (K : PySem.W.Frag) (ta : TA) : TI := fun σ H R => ta σ H fun vs H1 => ∃ f g a b xs ys, vs = [.ref a, .ref b] ∧ SqB f K H1 a xs ∧ SqB g K H1 b ys ∧ R (ItzB f g K a b xs.length ys.length) H1
theorem pi_zipB {X : Cx} {e e2 : Expr} {ta : TA} {p pos tpos : Pos} {elts : List Expr} {kk : Nat} (hg : Gl X "zip") (hm : X.mg "zip" = none) (ha : PA X [e, e2] ta)
    (hs : starEach [e, e2] X.env = (false, eval e X.env) :: starEach [e2] X.env) (hpl : (backTo pos (starEach [e2] X.env)).any (·.1) = false) :
    PI X (.Tuple elts kk tpos) (.Call (.Name "zip" p) [e, e2] [] pos) (tIZB X.K ta) := by
  refine ⟨fun pins s σ H R I h => ?_⟩
  refine Call_ (ld_blt I hg hm PyProof.Rows.boot_zip (PyProof.Rows.callWith_type1 (thn (ha.run pos pins s σ H _ I h) fun us s1 ⟨vs, H1, I1, r1, f, g, a, b, xs, ys, ex, hqx, hqy, q⟩ => ?_) hs hpl))
  subst ex
  cases r1 with
  | cons k1 rr =>
  cases rr with
  | cons k2 rr =>
  cases rr
  cases k1
  cases k2
  obtain ⟨its1, r1, p1⟩ := seqB I1 hqx
  obtain ⟨its2, r2, p2⟩ := seqB I1 hqy
  have la : a < s1.heap.objs.size := p1.lt
  have lb : b < s1.heap.objs.size := p2.lt
  refine zip_begins2 (begB f a its1.toArray) (begB g b its2.toArray) p1 p2 fun h' hz hTI hTO h1 h2 hsz hk => wpAny_pyIter_zip hz ?_
  have I2 : Inv X pins σ H1 { s1 with heap := h' } := I1.kept (t' := s1.toks) hk
  refine ⟨s1.heap.objs.size + 4, [s1.heap.objs.size + 4, s1.heap.objs.size + 2, s1.heap.objs.size + 3, s1.heap.objs.size, s1.heap.objs.size + 1], _, _, H1, rfl, I2, turn_zipB ?_ ?_, ⟨⟨Nat.zero_le _, Nat.zero_le _⟩, hz, hTI, ⟨_, _, hTO⟩, itB0 h1, itB0 h2⟩, ?_, q⟩
  · exact nodup5 s1.heap.objs.size
  · intro t ht
    simp only [List.mem_cons, List.not_mem_nil, or_false] at ht
    rcases ht with e | e <;> subst e
    · exact out5 _ _ la
    · exact out5 _ _ lb
  · intro d hd
    have hle : s1.heap.objs.size ≤ d := le5 _ _ hd
    exact I1.fpOk hle (I1.hok.fresh hle)
section
variable {g : Gc} {ρ : List Addr} {h : Hq} {H : Hp}
/-- a part of a zip, and what it stands for -/
def ZcR (g : Gc) (ρ : List Addr) (H : Hp) (z : ZC) (f : Bool) (a : Addr) (n : Nat) : Prop := match z with
  | .t l => f = true ∧ n = l.length ∧ ∃ vs, TupA g H a vs ∧ RWs g ρ H l vs
  | .l m k => f = false ∧ n = k ∧ ρ[m]? = some a
theorem zcO_v {w : W} {v : V} {z : ZC} (rh : RH g ρ h H) (r : RW g ρ H w v) (e : zcO h w = some z) : ∃ f a vs, v = .ref a ∧ SqB f g.K H a vs ∧ ZcR g ρ H z f a vs.length := by
  cases r <;> first | cases e; done | skip
  case tup l a vs ht rs => cases e; exact ⟨true, a, vs, rfl, ht.sq, rfl, rs.length.symm, vs, .inl ht, rs⟩
  case ktup l a vs ht rs => cases e; exact ⟨true, a, vs, rfl, ht.sq, rfl, rs.length.symm, vs, .inr ht, rs⟩
  case ref n a hn =>
    simp only [zcO] at e
    cases q : h.seq n with
    | none => rw [q] at e; cases e
    | some xs =>
      rw [q] at e
      cases e
      obtain ⟨vs, hs, rs⟩ := seq_at rh hn q
      exact ⟨false, a, vs, rfl, hs, rfl, by rw [lenD, rs.length], hn⟩
theorem zcAt_v {z : ZC} {f : Bool} {a : Addr} {n i : Nat} {ρ' : List Addr} {H' : Hp} {h' : Hq} (zr : ZcR g ρ H z f a n) (x : ExtW ρ H ρ' H') (rh : RH g ρ' h' H') {o : Option W} (e : zcAt z i h' = some o) :
    ∃ vs, SqB f g.K H' a vs ∧ vs.length = n ∧ match o with | some w => ∃ v, vs[i]? = some v ∧ RW g ρ' H' w v | none => n ≤ i := by
  cases z with
  | t l =>
    obtain ⟨rfl, rfl, vs, ht, rs⟩ := zr
    simp only [zcAt, nthD, Option.some.injEq] at e
    have rs' := rs.extw x
    refine ⟨vs, (ht.extw x).sq, rs.length.symm, ?_⟩
    cases o with
    | none => exact List.getElem?_eq_none_iff.mp e
    | some w => exact rs'.get e
  | l m k =>
    obtain ⟨rfl, rfl, hm⟩ := zr
    simp only [zcAt] at e
    cases q : h'.seq m with
    | none => rw [q] at e; cases e
    | some xs =>
      rw [q] at e
      dsimp only at e
      rw [beqD, lenD, nthD] at e
      by_cases ql : xs.length = n
      · rw [decide_eq_true ql] at e
        simp only [Option.some.injEq] at e
        obtain ⟨vs, hs, rs⟩ := seq_at rh (x.at hm) q
        refine ⟨vs, hs, by rw [← rs.length, ql], ?_⟩
        cases o with
        | none => have := List.getElem?_eq_none_iff.mp e; show n ≤ i; omega
        | some w => exact rs.get e
      · rw [decide_eq_false ql] at e; cases e
theorem src_zipB {s t : ZC} {f f' : Bool} {a b : Addr} {n1 n2 : Nat} (h1 : ZcR g ρ H s f a n1) (h2 : ZcR g ρ H t f' b n2) : SrcR g ρ H (.zb s t) (ItzB f f' g.K a b n1 n2) := by
  intro ρ' H' h' i x rh
  simp only [next]
  cases q1 : zcAt s i h' with
  | none => trivial
  | some o1 =>
  cases q2 : zcAt t i h' with
  | none => trivial
  | some o2 =>
  dsimp only
  obtain ⟨vs, k1, l1, m1⟩ := zcAt_v h1 x rh q1
  obtain ⟨ws, k2, l2, m2⟩ := zcAt_v h2 x rh q2
  cases o1 with
  | none => exact ⟨vs, ws, k1, k2, ⟨l1, l2⟩, .inl m1⟩
  | some w1 =>
  cases o2 with
  | none => exact ⟨vs, ws, k1, k2, ⟨l1, l2⟩, .inr m2⟩
  | some w2 =>
  obtain ⟨v1, e1, r1⟩ := m1
  obtain ⟨v2, e2, r2⟩ := m2
  refine ⟨⟨vs, ws, v1, v2, k1, k2, ⟨l1, l2⟩, e1, e2⟩, fun y H'' ⟨T, y1, y2, z1, z2, z3, z4, z5⟩ => ?_⟩
  subst z1 z3
  have j1 := z4 vs k1
  have j2 := z5 ws k2
  rw [e1] at j1
  rw [e2] at j2
  cases j1
  cases j2
  exact pair_new rh z2 r1 r2
end
section
variable {X : Cx} {G : G0} {pn : List PinT} {Wx : WX} {pos p tpos : Pos} {a b : Expr} {da db : D} {elts : List Expr} {kk : Nat}
theorem si_zipB (g : X.mg "zip" = none) (ha : SE X G pn Wx a da) (hb : SE X G pn Wx b db) (hg : Gl X "zip" := by rfl) (hs : starEach [a, b] X.env = (false, eval a X.env) :: starEach [b] X.env := by rfl) (hpl : (backTo pos (starEach [b] X.env)).any (·.1) = false := by rfl)
    (hs3 : starEach (b :: []) X.env = (false, eval b X.env) :: starEach [] X.env := by rfl) :
    SI X G pn Wx (.Tuple elts kk tpos) (.Call (.Name "zip" p) [a, b] [] pos) (PW.iZipB da db) := PI.imp (pi_zipB hg g (sl_cons ha (sl_cons hb sl_nil hs3) hs) hs hpl) fun σ H R q => by
  refine (rd_l2 q).imp ?_
  rintro vs H1 ⟨v, v', ρ, e, wx, wy, h, rfl, re, rh, rx, ry, af⟩
  cases q1 : zcO h wx with
  | none => rw [q1] at af; exact af.elim
  | some s =>
  cases q2 : zcO h wy with
  | none => rw [q1, q2] at af; exact af.elim
  | some t =>
  rw [q1, q2] at af
  obtain ⟨f, a1, vs1, rfl, k1, z1⟩ := zcO_v rh rx q1
  obtain ⟨f', a2, vs2, rfl, k2, z2⟩ := zcO_v rh ry q2
  exact ⟨f, f', a1, a2, vs1, vs2, rfl, k1, k2, Aft.go (rel := SrcR (gx X G)) af .refl rh (src_zipB z1 z2)⟩
end
end PW

set_option Elab.async false
set_option linter.all false
set_option maxRecDepth 100000
set_option maxHeartbeats 1000000
/-! PYf: l[lo::k]. -/
namespace L2
open PySem PySem.Spec PyProof.Rows
section
variable {X : Cx}
def pickV (xs : List V) (m k : Nat) : List V := (List.range xs.length).filterMap fun j => xs[m + k * j]?
theorem range_cut {α : Type} (f : Nat → Option α) (a b : Nat) (hab : a ≤ b) (h : ∀ j, a ≤ j → f j = none) : (List.range b).filterMap f = (List.range a).filterMap f := by
  obtain ⟨c, rfl⟩ := Nat.exists_eq_add_of_le hab
  rw [List.range_add, List.filterMap_append]
  have : (List.map (a + ·) (List.range c)).filterMap f = [] := by
    rw [List.filterMap_map]
    apply List.filterMap_eq_nil_iff.mpr
    intro j _
    exact h (a + j) (Nat.le_add_right _ _)
  rw [this, List.append_nil]
/-- the places of a slice, by its step -/
theorem pick_eq {α : Type} (l : List α) (m k : Nat) (hk : 0 < k) : (sliceRange (sliceBounds (some (m : Int)) none (some (k : Int)) l.length).1 (sliceBounds (some (m : Int)) none (some (k : Int)) l.length).2.1 (sliceBounds (some (m : Int)) none (some (k : Int)) l.length).2.2).filterMap (l[·]?) = (List.range l.length).filterMap fun j => l[m + k * j]? := by
  have k0 : ((k : Int) > 0) := by omega
  have b1 : (sliceBounds (some (m : Int)) none (some (k : Int)) l.length).1 = max 0 (min (m : Int) (l.length : Int)) := by
    simp only [sliceBounds, Option.getD_some, if_pos k0, if_neg (show ¬ ((m : Int) < 0) by omega)]
  have b2 : (sliceBounds (some (m : Int)) none (some (k : Int)) l.length).2.1 = (l.length : Int) := by
    simp only [sliceBounds, Option.getD_some, if_pos k0]
  have b3 : (sliceBounds (some (m : Int)) none (some (k : Int)) l.length).2.2 = (k : Int) := rfl
  rw [b1, b2, b3]
  by_cases hm : m < l.length
  · have e1 : max 0 (min (m : Int) (l.length : Int)) = (m : Int) := by omega
    rw [e1]
    unfold sliceRange
    rw [if_pos k0, if_pos (show (m : Int) < (l.length : Int) by omega), List.filterMap_map]
    have hc := ceilDiv_le ((l.length : Int) - m) k (by omega) (by omega)
    have hd : 0 ≤ ((l.length : Int) - m + k - 1) / k := Int.ediv_nonneg (by omega) (by omega)
    have hx : (fun j => l[j]?) ∘ (fun j : Nat => ((m : Int) + (k : Int) * (j : Int)).toNat) = fun j => l[m + k * j]? := by
      funext j
      show l[((m : Int) + (k : Int) * (j : Int)).toNat]? = _
      have : ((m : Int) + (k : Int) * (j : Int)).toNat = m + k * j := by
        rw [show (m : Int) + (k : Int) * (j : Int) = ((m + k * j : Nat) : Int) by push_cast; rfl, Int.toNat_natCast]
      rw [this]
    rw [hx]
    symm
    refine range_cut _ _ _ (by omega) fun j hj => List.getElem?_eq_none_iff.mpr ?_
    have h1 : ((l.length : Int) - m + k - 1) / k ≤ j := by omega
    have h2 : (l.length : Int) - m + k - 1 < (j + 1) * k := by
      have := Int.lt_ediv_add_one_mul_self ((l.length : Int) - m + k - 1) k0
      have h3 : (((l.length : Int) - m + k - 1) / k + 1) * k ≤ ((j : Int) + 1) * k := Int.mul_le_mul_of_nonneg_right (by omega) (by omega)
      omega
    have h4 : ((j : Int) + 1) * k = k * j + k := by rw [Int.add_mul, Int.one_mul, Int.mul_comm]
    have h5 : ((m + k * j : Nat) : Int) ≥ (l.length : Int) := by push_cast; omega
    omega
  · have e1 : max 0 (min (m : Int) (l.length : Int)) = (l.length : Int) := by omega
    rw [e1]
    unfold sliceRange
    rw [if_pos k0, if_neg (by omega)]
    symm
    apply List.filterMap_eq_nil_iff.mpr
    intro j _
    exact List.getElem?_eq_none_iff.mpr (by have : m ≤ m + k * j := Nat.le_add_right _ _; omega)
theorem vals_pick {xs : List V} {us : List Value} (r : Vals xs us) (m k : Nat) : ∀ b : Nat, Vals ((List.range b).filterMap fun j => xs[m + k * j]?) ((List.range b).filterMap fun j => us[m + k * j]?)
  | 0 => .nil
  | b + 1 => by
    rw [List.range_succ, List.filterMap_append, List.filterMap_append]
    refine (vals_pick r m k b).append ?_
    cases q : xs[m + k * b]? with
    | none =>
      have q2 := r.none_of q
      simp [q, q2]
      exact .nil
    | some x =>
      obtain ⟨u, h1, h2⟩ := r.get q
      simp [q, h1]
      exact .cons h2 .nil
theorem pick_len {α : Type} (l : List α) (m k : Nat) : ((List.range l.length).filterMap fun j => l[m + k * j]?).length ≤ l.length := by
  have := List.length_filterMap_le (fun j => l[m + k * j]?) (List.range l.length)
  rwa [List.length_range] at this
def tStep (K : PySem.W.Frag) (te : TE) (tl : TO) (k : Nat) : TE := fun σ H Q => te σ H fun x H1 => tl σ H1 fun o H2 => ∃ (a : Addr) (xs : List V) (m : Nat), x = .ref a ∧ o = some (m : Int) ∧ SqL K H2 a xs ∧ ∀ p, H2 p = none → Q (.ref p) (upd H2 p (.lst (pickV xs m k)))
theorem pe_step {e lo : Expr} {te : TE} {tl : TO} {k j : Nat} {p1 p3 pos : Pos} (hk : 0 < k) (he : PE X e te) (hl : PO X (some lo) tl) : PE X (.Subscript e (.Slice (some lo) none (some (.Constant (.int (k : Int)) j p1)) p3) pos) (tStep X.K te tl k) := by
  refine ⟨fun pins s σ H Q I h => Subscript_ (thn (he.run pins s σ H _ I h) fun v s1 ⟨x, H1, I1, r1, q1⟩ => ?_)⟩
  refine wpAny_Slice (thn (hl.run pins s1 σ H1 _ I1 q1) fun vl s2 ⟨l, H2, I2, pl, a, xs, m, ex, el, hx, q⟩ => ?_)
  subst ex el
  cases r1
  refine thn (po_none.run pins s2 σ H2 (fun o H3 => o = none ∧ H3 = H2) I2 ⟨rfl, rfl⟩) fun vu s3 ⟨u, H3, I3, pu, eu, e3⟩ => ?_
  subst eu e3
  have hst : PO X (some (.Constant (.int (k : Int)) j p1)) (tPart (tC (.int (k : Int)))) := po_some pe_int
  refine thn (hst.run pins s3 σ H3 (fun o H4 => o = some (k : Int) ∧ H4 = H3) I3 ⟨(k : Int), rfl, rfl, rfl⟩) fun vs s4 ⟨o, H4, I4, ps, eo, e4⟩ => ?_
  subst eo e4
  have I5 : Inv X pins σ H4 { s4 with heap := s4.heap.push { cls := .type "slice", data := .fields #[vl, vu, vs] } } := I4.kept (t' := s4.toks) fun b ob q => Heap.get?_push_of_some _ q
  obtain ⟨its, r, ht, hz⟩ := I5.list hx
  have hlen := r.length
  refine tail_any (ops := [.ref a, .ref s4.heap.objs.size]) ht.isList.typeIs (PySem.slot_list_getitem.lookup) ?_ (by with_unfolding_all rfl)
  refine wpAny_getItem_list_slice ht.isList (Heap.IsSliceOf.new _ vl vu vs) pl pu ps (by simp; omega) ?_ (by rw [List.size_toArray]; omega)
  refine ⟨.ref _, _, I5.laid (t' := s4.toks) (o := .lst (pickV xs m k)) (fun b ob q => Heap.get?_push_of_some _ q) (Nat.le_refl _) ?_, rfl, q _ (I5.hok.fresh (Nat.le_refl _))⟩
  refine ⟨Nat.le_trans (pick_len xs m k) hz, (List.range its.length).filterMap (fun j => its[m + k * j]?), 0, ?_, ?_⟩
  · unfold pickV
    rw [hlen]
    exact vals_pick r m k _
  · have e := pick_eq its m k hk
    have e2 : slicePick its.toArray (some (m : Int)) none (some (k : Int)) = ((List.range its.length).filterMap (fun j => its[m + k * j]?)).toArray := by
      rw [← e]
      unfold slicePick
      simp
    show (Heap.get? _ _) = _
    rw [e2]
    exact Heap.get?_push_size _ rfl
end
end L2
namespace PW
open PySem PySem.Spec PyProof.Rows L2
theorem evN_D (l : List W) (k : Nat) : ∀ (f i : Nat), evN l k f i = (List.range f).filterMap fun j => l[i + k * j]?
  | 0, i => rfl
  | f + 1, i => by
    unfold evN
    rw [nthD, List.range_succ_eq_map, List.filterMap_cons, List.filterMap_map]
    have e : ((fun j => l[i + k * j]?) ∘ Nat.succ) = fun j => l[i + k + k * j]? := by
      funext j
      show l[i + k * (j + 1)]? = _
      rw [Nat.mul_add, Nat.mul_one, Nat.add_comm (k * j) k, ← Nat.add_assoc]
    rw [e, ← evN_D l k f (i + k), Nat.mul_zero, Nat.add_zero]
    cases q : l[i]? with
    | some w => rfl
    | none =>
      simp only
      rw [evN_D l k f (i + k)]
      symm
      apply List.filterMap_eq_nil_iff.mpr
      intro j _
      have := List.getElem?_eq_none_iff.mp q
      exact List.getElem?_eq_none_iff.mpr (by have : i ≤ i + k + k * j := by omega
                                              omega)
section
variable {X : Cx} {G : G0} {pn : List PinT} {Wx : WX} {a lo : Expr} {da dlo : D}
theorem RWs.pick {g : Gc} {ρ : List Addr} {H : Hp} {l : List W} {vs : List V} (r : RWs g ρ H l vs) (m k : Nat) : ∀ b : Nat, RWs g ρ H ((List.range b).filterMap fun j => l[m + k * j]?) ((List.range b).filterMap fun j => vs[m + k * j]?)
  | 0 => .nil
  | b + 1 => by
    rw [List.range_succ, List.filterMap_append, List.filterMap_append]
    refine (RWs.pick r m k b).app ?_
    cases q : l[m + k * b]? with
    | none =>
      have q2 : vs[m + k * b]? = none := List.getElem?_eq_none_iff.mpr (by rw [← r.length]; exact List.getElem?_eq_none_iff.mp q)
      simp [q, q2]
      exact .nil
    | some x =>
      obtain ⟨u, h1, h2⟩ := r.get q
      simp [q, h1]
      exact .cons h2 .nil
theorem se_step {k j : Nat} {p1 p3 pos : Pos} (hk : 0 < k) (ha : SE X G pn Wx a da) (hl : SE X G pn Wx lo dlo) : SE X G pn Wx (.Subscript a (.Slice (some lo) none (some (.Constant (.int (k : Int)) j p1)) p3) pos) (dStep da dlo k) := PE.imp (pe_step hk ha (so_some hl)) fun σ H Q q => by
  refine (rd.bind q).imp ?_
  rintro x H1 ⟨ρ, e, wx, h, re, rh, rx, af⟩
  refine ⟨ρ, e, h, re, rh, ?_⟩
  unfold oSome
  cases qd : dlo e h with
  | bad => rw [qd] at af; exact af
  | ex z h1 => rw [qd] at af; exact af
  | ok wy h2 =>
    rw [qd] at af
    simp only [Rs.bind] at af ⊢
    cases wy <;> first | exact af.elim | skip
    rename_i m
    dsimp only at af ⊢
    intro ρ2 H2 o x2 rh2 eo
    cases eo
    rw [iLtD] at af
    by_cases h0 : m < 0
    · rw [decide_eq_true h0] at af; exact False.elim af
    · rw [decide_eq_false h0] at af
      dsimp only at af
      have rx2 := rx.ext x2
      cases rx2 <;> first | exact False.elim af | skip
      rename_i n p hn
      dsimp only at af
      cases q0 : h2.seq n with
      | none => rw [q0] at af; exact False.elim af
      | some l =>
        rw [q0] at af
        obtain ⟨vs, hs, rs⟩ := seq_at rh2 hn q0
        dsimp only at af
        rw [shortD] at af
        by_cases ql : l.length ≤ LIM
        · rw [decide_eq_true ql] at af
          refine ⟨p, vs, m.toNat, rfl, by rw [Int.toNat_of_nonneg (by omega)], hs, fun t ht => ?_⟩
          dsimp only at af
          rw [evN_D, lenD] at af
          have af := Aft.ext x2 af
          unfold pickV
          rw [← rs.length]
          exact aft_lst af rh2 (rs.pick m.toNat k _) ht
        · rw [decide_eq_false ql] at af; exact False.elim af
end
end PW

set_option Elab.async false
set_option linter.all false
set_option maxRecDepth 100000
set_option maxHeartbeats 1000000
/-! PYg: min([..]), sep.join(..), tuples of texts of the module. -/
namespace PW
open PySem PySem.Spec PyProof.Rows L2
theorem minI_D : ∀ (l : List Int) (m : Int), (minI l m ∈ m :: l) ∧ ∀ y ∈ m :: l, minI l m ≤ y
  | [], m => ⟨by simp [minI], by simp [minI]⟩
  | i :: r, m => by
    unfold minI
    rw [iLtD]
    by_cases e : i < m
    · rw [decide_eq_true e]
      obtain ⟨h1, h2⟩ := minI_D r i
      refine ⟨?_, fun y hy => ?_⟩
      · show minI r i ∈ m :: i :: r
        exact List.mem_cons_of_mem _ h1
      · show minI r i ≤ y
        rcases List.mem_cons.mp hy with z | z
        · have := h2 i (by simp); omega
        · exact h2 y z
    · rw [decide_eq_false e]
      obtain ⟨h1, h2⟩ := minI_D r m
      refine ⟨?_, fun y hy => ?_⟩
      · show minI r m ∈ m :: i :: r
        rcases List.mem_cons.mp h1 with z | z
        · rw [z]; simp
        · simp [z]
      · show minI r m ≤ y
        have h0 := h2 m (by simp)
        rcases List.mem_cons.mp hy with z | z
        · omega
        · rcases List.mem_cons.mp z with z | z
          · omega
          · exact h2 y (List.mem_cons_of_mem _ z)
section
variable {X : Cx} {G : G0} {Wx : WX} {pn : List PinT} {pos p : Pos} {a b e : Expr} {da db : D} {c : DL}
theorem se_cmin (C : Cs X Wx) (g : X.mg "min" = none) (hs : SC X G pn Wx e c) (hg : Gl X "min" := by rfl) (na : starEach (e :: []) X.env = (false, eval e X.env) :: starEach [] X.env := by rfl) (hpl : (backTo pos (starEach [] X.env)).any (·.1) = false := by rfl) :
    SE X G pn Wx (.Call (.Name "min" p) [e] [] pos) (cMin c) := PE.imp (pe_callB (cr_min C.calm) hg g PyProof.Rows.boot_min (pa_cons hs pa_nil na) (by decide) (by decide) na hpl) fun σ H Q q => by
  show rdC (gx X G) pn Wx c σ H _
  refine rdC.imp q fun ρ e h re rh a => ?_
  unfold cMin at a
  cases qc : c e h with
  | bad => rw [qc] at a; exact a
  | ex x h1 => rw [qc] at a; exact a
  | ok l h1 =>
    rw [qc] at a
    intro ρ1 H1 D vs x1 rh1 rs eD nD h0
    simp only [Rs.bind] at a
    rw [bleD, lenD] at a
    by_cases ql : l.length ≤ LIM
    · rw [decide_eq_true ql] at a
      dsimp only at a
      cases q3 : intsO l with
      | none => rw [q3] at a; exact a.elim
      | some is =>
        rw [q3] at a
        cases is with
        | nil => exact a.elim
        | cons i r =>
          have ev := intsO_v rs q3
          subst ev
          refine ⟨D, i :: r, rfl, .of eD, by simp, fun m hm hle => ?_⟩
          obtain ⟨k1, k2⟩ := minI_D r i
          have : m = minI r i := Int.le_antisymm (hle _ k1) (k2 _ hm)
          rw [this]
          exact a.go x1 rh1 (.int _)
    · rw [decide_eq_false ql] at a; exact a.elim
/-! join -/
theorem strsO_v {g : Gc} {ρ : List Addr} {H : Hp} : ∀ {l : List W} {vs : List V} {ss : List Str}, RWs g ρ H l vs → strsO l = some ss → vs = ss.map V.str
  | _, _, ss, .nil, e => by cases e; rfl
  | w :: l, v :: vs, ss, .cons h r, e => by
    unfold strsO at e
    cases h <;> first | cases e; done | skip
    rename_i s
    dsimp only at e
    split at e
    · rename_i bs q
      cases e
      rw [List.map_cons, strsO_v r q]
    · cases e
theorem joinS_D (y : Str) : ∀ ss : List Str, joinS y.cps.toList ss = TL.tl (Str.join y ss)
  | [] => rfl
  | [_] => rfl
  | x :: z :: r => by
    have ih := joinS_D y (z :: r)
    rw [TL.tl_join] at ih ⊢
    show app x.cps.toList (app y.cps.toList (joinS y.cps.toList (z :: r))) = _
    rw [appD, appD, ih]
    rfl
theorem lenS_D : ∀ (ss : List Str) (n : Nat), lenS ss n = (ss.map (·.length)).sum + n
  | [], n => by simp [lenS]
  | s :: r, n => by
    show lenS r (lenN s.cps.toList n) = _
    rw [lenS_D r, lenND]
    have : s.length = s.cps.toList.length := by show s.cps.size = _; simp
    simp only [List.map_cons, List.sum_cons]
    omega
theorem se_join {apos : Pos} (ha : SE X G pn Wx a da) (hb : SE X G pn Wx b db) (hs : starEach [b] X.env = [(false, eval b X.env)] := by rfl) (hbase : attributeBase a "join" X.env (eval a X.env) = eval a X.env := by rfl) (hline : (apos.endLine == pos.line) = true := by rfl) :
    SE X G pn Wx (.Call (.Attribute a "join" apos) [b] [] pos) (dJoin da db) := PE.imp (pe_join ha hb hs hbase hline) fun σ H Q q => by
  refine (rd.bind q).imp ?_
  rintro x H1 ⟨ρ, e, wx, h, re, rh, rx, af⟩
  cases rx <;> first | exact af.elim | skip
  rename_i s
  dsimp only at af
  refine ⟨⟨s, rfl⟩, ρ, e, h, re, rh, (Aft.bind af).imp ?_⟩
  rintro y H2 ⟨ρ2, wy, h2, x2, rh2, ry, af2⟩
  cases ry <;> first | exact af2.elim | skip
  rename_i n p hn
  dsimp only at af2
  cases q0 : h2.seq n with
  | none => rw [q0] at af2; exact af2.elim
  | some l =>
    rw [q0] at af2
    obtain ⟨vs, hq, rs⟩ := seq_at rh2 hn q0
    dsimp only at af2
    cases q1 : strsO l with
    | none => rw [q1] at af2; exact af2.elim
    | some ss =>
      rw [q1] at af2
      dsimp only at af2
      rw [bleD, bleD, bleD, lenD, lenD, lenS_D] at af2
      have ev := strsO_v rs q1
      subst ev
      by_cases ql : (ss.map (·.length)).sum + 0 ≤ 100000 ∧ ss.length ≤ 1000 ∧ s.cps.toList.length ≤ 100
      · rw [decide_eq_true ql.1, decide_eq_true ql.2.1, decide_eq_true ql.2.2] at af2
        refine ⟨s, p, ss, rfl, rfl, .inl hq, ?_, ?_⟩
        · have hl : s.length = s.cps.toList.length := by show s.cps.size = _; simp
          have := Nat.mul_le_mul ql.2.1 (show s.length ≤ 100 by omega)
          omega
        · have e2 : Txt.join s ss = ⟨⟨joinS s.cps.toList ss⟩⟩ := by
            rw [TL.join_eq]
            refine TL.ext_tl ?_
            rw [joinS_D]
          rw [e2]
          exact af2.go .refl rh2 (.str _)
      · have : (decide ((ss.map (·.length)).sum + 0 ≤ 100000) && (decide (ss.length ≤ 1000) && decide (s.cps.toList.length ≤ 100))) = false := by
          rw [Bool.eq_false_iff]; intro h; rw [Bool.and_eq_true, Bool.and_eq_true, decide_eq_true_iff, decide_eq_true_iff, decide_eq_true_iff] at h; exact ql h
        rw [this] at af2; exact af2.elim
/-! tuples of texts of the module -/
def strsB : List Value → List Str → Bool
  | [], [] => true
  | v :: r, s :: t => (match v with
    | .str x _ => sEq x s
    | _ => false) && strsB r t
  | _, _ => false
theorem strsB_v {g : Gc} {ρ : List Addr} {H : Hp} : ∀ {vs : List Value} {ss : List Str}, strsB vs ss = true → Vals (ss.map V.str) vs ∧ RWs g ρ H (ss.map W.str) (ss.map V.str)
  | [], [], _ => ⟨.nil, .nil⟩
  | v :: r, s :: t, e => by
    unfold strsB at e
    rw [Bool.and_eq_true] at e
    obtain ⟨e1, e2⟩ := e
    obtain ⟨h1, h2⟩ := strsB_v (g := g) (ρ := ρ) (H := H) e2
    cases v <;> first | cases e1; done | skip
    rename_i x t'
    dsimp only at e1
    rw [sEqD] at e1
    have e1 := of_decide_eq_true e1
    subst e1
    exact ⟨.cons ⟨t', rfl⟩ h1, .cons (.str _) h2⟩
  | [], _ :: _, e => by cases e
  | _ :: _, [], e => by cases e
def tupFc (x : Str) (ss : List Str) : PySem.W.Frag → Bool := fun K => (He.Fa.glo x).ok K && (match K.lookup (He.ga K x) with
  | some o => decide (o.cls = .type "tuple") && (o.dict.isNone && (match o.data with
    | .seq its _ => Nat.ble its.size 100 && strsB its.toList ss
    | _ => false))
  | none => false)
/-- what such a name stands for -/
def TupC (M : Amb) (x : Str) (ss : List Str) : Prop := ∃ a, M.mg x = some (.ref a) ∧ ∃ (o : Obj) (its : Array Value) (n : Nat), M.K.lookup a = some o ∧ o.cls = .type "tuple" ∧ o.dict = none ∧ o.data = .seq its n ∧ its.size ≤ sizeLine ∧ strsB its.toList ss = true
theorem tupC_ok {M : Amb} {h : Heap} {x : Str} {ss : List Str} (X : M.K.In h) (Gn : h.Ns mainGlobals M.mg) (c : tupFc x ss M.K = true) : TupC M x ss := by
  unfold tupFc at c
  rw [Bool.and_eq_true] at c
  obtain ⟨c1, c2⟩ := c
  refine ⟨_, He.glo_ok X Gn c1, ?_⟩
  cases e : M.K.lookup (He.ga M.K x) with
  | none => rw [e] at c2; cases c2
  | some o =>
    rw [e] at c2
    dsimp only at c2
    rw [Bool.and_eq_true, Bool.and_eq_true] at c2
    obtain ⟨d1, d2, d3⟩ := c2
    cases q : o.data <;> rw [q] at d3 <;> first | cases d3; done | skip
    rename_i its n
    dsimp only at d3
    rw [Bool.and_eq_true, bleD] at d3
    exact ⟨o, its, n, rfl, of_decide_eq_true d1, by simpa using d2, q, Nat.le_trans (of_decide_eq_true d3.1) (by rw [sizeLine_eq]; decide), d3.2⟩
theorem se_gtup {x : Str} {ss : List Str} (c : TupC (amb X) x ss) (hg : Gl X x := by rfl) (hd : (x == ("__debug__" : Str)) = false := by decide) : SE X G pn Wx (.Name x pos) (dC (.ktup (ss.map W.str))) := by
  obtain ⟨a, hm, o, its, n, h1, h2, h3, h4, h5, h6⟩ := c
  refine PE.imp (pe_glob hg hm (v := .ref a) rfl hd) fun _ _ _ q => rd_c (fun ρ H => ?_) q
  obtain ⟨k1, k2⟩ := strsB_v (g := gx X G) (ρ := ρ) (H := H) h6
  exact .ktup (.inr ⟨o, its, n, h1, h2, h3, h4, h5, k1⟩) k2
end
end PW

set_option linter.all false
set_option maxRecDepth 100000
namespace Law
open PySem PW
def xIs (c : Nat) (b : String) : Bool := match c, b with
  | 0, "LookupError" => true
  | 1, "ValueError" => true
  | _, _ => false
def f_is_number (C : CT) : DS :=
  (sRet (dAnd (dB bIs (lCons (dVar 0) (lCons (dC (.ty "int")) lNil))) (dNot (dB bIs (lCons (dVar 0) (lCons (dC (.ty "bool")) lNil))))))
def f_is_below (C : CT) : DS :=
  (sRet (dAnd (dCall C 0 (lCons (dVar 0) lNil)) (dChain oLe oLt (dC (.int 0)) (dVar 0) (dVar 1))))
def f_is_tuple_of (C : CT) : DS :=
  (sRet (dAnd (dB bIs (lCons (dVar 0) (lCons (dC (.ty "tuple")) lNil))) (dOp oEq (dB bLen (lCons (dVar 0) lNil)) (dVar 1))))
def f_is_set_below (C : CT) : DS :=
  (sRet (dAnd (dCall C 4 (lCons (dVar 0) lNil)) (cAll (cLc (iVal (dVar 0)) (tN 2) tYes (dOp oLt (dVar 2) (dVar 1)) [2]))))
def f_is_set_from_0 (C : CT) : DS :=
  (sSeq (sIf (tOr (tNot (tVal (dB bIs (lCons (dVar 0) (lCons (dC (.ty "tuple")) lNil))))) (tNot (tVal (cAll (cLc (iVal (dVar 0)) (tN 1) tYes (dAnd (dCall C 0 (lCons (dVar 1) lNil)) (dOp oGe (dVar 1) (dC (.int 0)))) [1]))))) (sRet (dC (.bl false))) sNil)
  (sRet (dCall C 5 (lCons (dVar 0) lNil))))
def f_is_ascending (C : CT) : DS :=
  (sRet (cAll (cLc (iZipB (dVar 0) (dSl (dVar 0) (oSome (dC (.int 1))) oNone)) (tT 2 (tLc (tN 1) (tLc (tN 2) tLn))) tYes (dOp oLt (dVar 1) (dVar 2)) [1, 2])))
def f_as_tuples (C : CT) : DS :=
  (sSeq (sIf (tOr (tVal (dOp oEq (dVar 1) (dC (.int 0)))) (tNot (tVal (dB bIs (lCons (dVar 0) (lCons (dTup (lCons (dC (.ty "list")) (lCons (dC (.ty "tuple")) lNil))) lNil)))))) (sRet (dVar 0)) sNil)
  (sRet (cTup (cLc (iVal (dVar 0)) (tN 2) tYes (dCall C 6 (lCons (dVar 2) (lCons (dOp oSub (dVar 1) (dC (.int 1))) lNil))) [2]))))
def f_check_numbers (C : CT) : DS :=
  (sIf (tNot (tVal (cAll (cLc (iVal (dVar 0)) (tN 1) tYes (dCall C 0 (lCons (dVar 1) lNil)) [1])))) (sRs0 1) sNil)
def f_check_from_0 (C : CT) : DS :=
  (sIf (tNot (tVal (cAll (cLc (iVal (dVar 0)) (tN 1) tYes (dAnd (dCall C 0 (lCons (dVar 1) lNil)) (dOp oGe (dVar 1) (dC (.int 0)))) [1])))) (sRs0 1) sNil)
def f_are_bits (C : CT) : DS :=
  (sRet (dAnd (dCall C 2 (lCons (dVar 0) (lCons (dVar 1) lNil))) (cAll (cLc (iVal (dVar 0)) (tN 2) tYes (dCall C 1 (lCons (dVar 2) (lCons (dC (.int 2)) lNil))) [2]))))
def f_is_skin (C : CT) : DS :=
  (sRet (dAnd (dCall C 12 (lCons (dVar 0) lNil)) (dAnd (dCall C 15 (lCons (dVar 0) lNil)) (dCall C 16 (lCons (dVar 0) lNil)))))
def f_fit_skin (C : CT) : DS :=
  (sSeq (sAsg (dCall C 6 (lCons (dVar 0) (lCons (dC (.int 3)) lNil))) (tN 1))
  (sSeq (sIf (tNot (tVal (dCall C 10 (lCons (dVar 1) lNil)))) (sRs0 1) sNil)
  (sRet (dVar 1))))
def f_has_skin_form (C : CT) : DS :=
  (sSeq (sIf (tOr (tNot (tVal (dB bIs (lCons (dVar 0) (lCons (dC (.ty "tuple")) lNil))))) (tVal (dOp oEq (dB bLen (lCons (dVar 0) lNil)) (dC (.int 0))))) (sRet (dC (.bl false))) sNil)
  (sRet (cAll (cLc (iVal (dVar 0)) (tN 1) tYes (dCall C 13 (lCons (dVar 1) (lCons (dB bLen (lCons (dVar 0) lNil)) lNil))) [1]))))
def f_is_field_row (C : CT) : DS :=
  (sRet (dAnd (dCall C 2 (lCons (dVar 0) (lCons (dC (.int 4)) lNil))) (cAll (cLc (iVal (dVar 0)) (tN 2) tYes (dCall C 14 (lCons (dVar 2) (lCons (dVar 1) lNil))) [2]))))
def f_is_crossing_below (C : CT) : DS :=
  (sRet (dAnd (dCall C 2 (lCons (dVar 0) (lCons (dC (.int 2)) lNil))) (dAnd (dCall C 1 (lCons (dOp oIx (dVar 0) (dC (.int 0))) (lCons (dVar 1) lNil))) (dCall C 1 (lCons (dOp oIx (dVar 0) (dC (.int 1))) (lCons (dC (.int 4)) lNil))))))
def f_is_sewn_back (C : CT) : DS :=
  (sSeq (sFor (iEnm (dVar 0)) (tT 2 (tLc (tN 1) (tLc (tN 2) tLn))) (sFor (iEnm (dVar 2)) (tT 2 (tLc (tN 3) (tLc (tT 2 (tLc (tN 4) (tLc (tN 5) tLn))) tLn))) (sIf (tOr (tVal (dOp oEq (dTup (lCons (dVar 4) (lCons (dVar 5) lNil))) (dTup (lCons (dVar 1) (lCons (dVar 3) lNil))))) (tVal (dOp oNe (dOp oIx (dOp oIx (dVar 0) (dVar 4)) (dVar 5)) (dTup (lCons (dVar 1) (lCons (dVar 3) lNil)))))) (sRet (dC (.bl false))) sNil)))
  (sRet (dC (.bl true))))
def f_hangs_together (C : CT) : DS :=
  (sSeq (sAsg (dOp oAdd (dLst (lCons (dC (.bl true)) lNil)) (dOp oMul (dLst (lCons (dC (.bl false)) lNil)) (dOp oSub (dB bLen (lCons (dVar 0) lNil)) (dC (.int 1))))) (tN 1))
  (sSeq (sAsg (dLst (lCons (dC (.int 0)) lNil)) (tN 2))
  (sSeq (sWh (tTru (dVar 2)) (sSeq (sAsg (dPop (dVar 2)) (tN 3))
  (sFor (iVal (dOp oIx (dVar 0) (dVar 3))) (tT 2 (tLc (tN 4) (tLc (tN 5) tLn))) (sIf (tNot (tTru (dOp oIx (dVar 1) (dVar 4)))) (sSeq (sAsg (dC (.bl true)) (tS (dVar 1) (dVar 4)))
  (sExpr (dApp (dVar 2) (dVar 4)))) sNil))))
  (sRet (dB bAll (lCons (dVar 1) lNil))))))
def f_lesser_crossings (C : CT) : DS :=
  (sRet (cNew (cLc2 (iEnm (dVar 0)) (tT 2 (tLc (tN 1) (tLc (tN 2) tLn))) (iEnm (dVar 2)) (tT 2 (tLc (tN 3) (tLc (tN 4) tLn))) (tVal (dOp oLt (dTup (lCons (dVar 1) (lCons (dVar 3) lNil))) (dVar 4))) (dTup (lCons (dVar 1) (lCons (dVar 3) lNil))) [1, 2, 3, 4] [3, 4])))
def f_joined_fields (C : CT) : DS :=
  (sRet (cTup (cLc (iVal (dCall C 17 (lCons (dVar 0) lNil))) (tT 2 (tLc (tN 1) (tLc (tN 2) tLn))) tYes (dTup (lCons (dVar 1) (lCons (dOp oIx (dOp oIx (dOp oIx (dVar 0) (dVar 1)) (dVar 2)) (dC (.int 0))) lNil))) [1, 2])))
def f_is_lot_of_edges (C : CT) : DS :=
  (sRet (dCall C 3 (lCons (dVar 1) (lCons (dOp oMul (dC (.int 2)) (dB bLen (lCons (dVar 0) lNil))) lNil))))
def f_fit_arrows (C : CT) : DS :=
  (sSeq (sAsg (dCall C 6 (lCons (dVar 1) (lCons (dC (.int 1)) lNil))) (tN 2))
  (sSeq (sIf (tNot (tVal (dCall C 21 (lCons (dVar 0) (lCons (dVar 2) lNil))))) (sRs0 1) sNil)
  (sRet (dVar 2))))
def f_are_arrows_of (C : CT) : DS :=
  (sRet (dCall C 9 (lCons (dVar 1) (lCons (dOp oMul (dC (.int 2)) (dB bLen (lCons (dVar 0) lNil))) lNil))))
def f_fit_pairing (C : CT) : DS :=
  (sSeq (sAsg (dCall C 6 (lCons (dVar 1) (lCons (dC (.int 1)) lNil))) (tN 2))
  (sSeq (sIf (tNot (tVal (dCall C 23 (lCons (dVar 0) (lCons (dVar 2) lNil))))) (sRs0 1) sNil)
  (sRet (dVar 2))))
def f_is_pairing_of (C : CT) : DS :=
  (sSeq (sIf (tNot (tVal (dCall C 19 (lCons (dVar 0) (lCons (dVar 1) lNil))))) (sRet (dC (.bl false))) sNil)
  (sSeq (sAsg (dCall C 18 (lCons (dVar 0) lNil)) (tN 2))
  (sRet (dOp oEq (dB bSrt (lCons (cNew (cLc2 (iVal (dVar 1)) (tN 3) (iVal (dOp oIx (dVar 2) (dVar 3))) (tN 4) tYes (dVar 4) [3, 4] [4])) lNil)) (dLrng (dB bLen (lCons (dVar 0) lNil)))))))
def f_worth_of (C : CT) : DS :=
  (sSeq (sAsg (dCall C 11 (lCons (dVar 0) lNil)) (tN 3))
  (sSeq (sAsg (dCall C 33 (lCons (dVar 3) (lCons (dVar 1) lNil))) (tN 4))
  (sSeq (sAsg (dC (.int 1)) (tN 5))
  (sSeq (sFor (iVal (dCall C 22 (lCons (dVar 3) (lCons (dVar 2) lNil)))) (tN 6) (sAsg (dOp oMul (dVar 5) (dOp oIx (dVar 4) (dVar 6))) (tN 5)))
  (sRet (dVar 5))))))
def f_sign_of (C : CT) : DS :=
  (sSeq (sAsg (dCall C 11 (lCons (dVar 0) lNil)) (tN 3))
  (sSeq (sAsg (dCall C 20 (lCons (dVar 3) (lCons (dVar 1) lNil))) (tN 4))
  (sRet (dCall C 39 (lCons (dVar 3) (lCons (dVar 4) (lCons (dCall C 22 (lCons (dVar 3) (lCons (dVar 2) lNil))) lNil)))))))
def f_signed_table (C : CT) : DS :=
  (sSeq (sAsg (dCall C 11 (lCons (dVar 0) lNil)) (tN 3))
  (sSeq (sAsg (dCall C 20 (lCons (dVar 3) (lCons (dVar 1) lNil))) (tN 4))
  (sRet (dCall C 40 (lCons (dVar 3) (lCons (dVar 4) (lCons (dCall C 33 (lCons (dVar 3) (lCons (dVar 2) lNil))) lNil)))))))
def f_is_signed_table (C : CT) : DS :=
  (sSeq (sIf (tOr (tNot (tVal (dB bIs (lCons (dVar 0) (lCons (dC (.ty "tuple")) lNil))))) (tNot (tVal (cAll (cLc (iVal (dVar 0)) (tN 1) tYes (dCall C 37 (lCons (dVar 1) (lCons (dB bLen (lCons (dVar 0) lNil)) lNil))) [1]))))) (sRet (dC (.bl false))) sNil)
  (sRet (cAll (cLc2 (iEnm (dVar 0)) (tT 2 (tLc (tN 2) (tLc (tN 1) tLn))) (iEnm (dSl (dVar 1) oNone (oSome (dOp oAdd (dVar 2) (dC (.int 1)))))) (tT 2 (tLc (tN 3) (tLc (tN 4) tLn))) tYes (dOp oEq (dVar 4) (dNeg (dOp oIx (dOp oIx (dVar 0) (dVar 3)) (dVar 2)))) [2, 1, 3, 4] [3, 4]))))
def f_paired_sum (C : CT) : DS :=
  (sRet (dCall C 42 (lCons (dCall C 34 (lCons (dVar 0) lNil)) lNil)))
def f_struck (C : CT) : DS :=
  (sSeq (sAsg (dCall C 34 (lCons (dVar 0) lNil)) (tN 2))
  (sSeq (sAsg (dCall C 35 (lCons (dVar 1) lNil)) (tN 3))
  (sSeq (sExpr (dCall C 36 (lCons (dVar 2) (lCons (dVar 3) lNil))))
  (sRet (dCall C 41 (lCons (dVar 2) (lCons (dVar 3) lNil)))))))
def f_turned_table (C : CT) : DS :=
  (sSeq (sAsg (dCall C 34 (lCons (dVar 0) lNil)) (tN 2))
  (sSeq (sAsg (dCall C 35 (lCons (dVar 1) lNil)) (tN 3))
  (sSeq (sExpr (dCall C 36 (lCons (dVar 2) (lCons (dVar 3) lNil))))
  (sSeq (sAsg (cNew (cLc (iRng1 (dB bLen (lCons (dVar 2) lNil))) (tN 5) tYes (dIf (tVal (dOp oIn (dVar 5) (dVar 3))) (dNeg (dC (.int 1))) (dC (.int 1))) [5])) (tN 4))
  (sRet (cTup (cLc (iZipB (dVar 4) (dVar 2)) (tT 2 (tLc (tN 6) (tLc (tN 5) tLn))) tYes (cTup (cLc (iZipB (dVar 4) (dVar 5)) (tT 2 (tLc (tN 7) (tLc (tN 8) tLn))) tYes (dOp oMul (dOp oMul (dVar 6) (dVar 7)) (dVar 8)) [7, 8])) [6, 5])))))))
def f_row_added (C : CT) : DS :=
  (sSeq (sAsg (dCall C 34 (lCons (dVar 0) lNil)) (tN 4))
  (sSeq (sExpr (dCall C 8 (lStar (lCons (dVar 1) (lCons (dVar 2) lNil)))))
  (sSeq (sExpr (dCall C 7 (lStar (lCons (dVar 3) lNil))))
  (sSeq (sExpr (dCall C 36 (lCons (dVar 4) (lCons (dTup (lCons (dVar 1) (lCons (dVar 2) lNil))) lNil))))
  (sSeq (sIf (tVal (dOp oEq (dVar 1) (dVar 2))) (sRs0 1) sNil)
  (sSeq (sAsg (cNew (cLc (iVal (dVar 4)) (tN 8) tYes (dB bList (lCons (dVar 8) lNil)) [8])) (tN 5))
  (sSeq (sFor (iEnm (dOp oIx (dVar 4) (dVar 1))) (tT 2 (tLc (tN 6) (tLc (tN 7) tLn))) (sIf (tVal (dOp oNe (dVar 6) (dVar 2))) (sSeq (sAugX false (dOp oIx (dVar 5) (dVar 2)) (dVar 6) (dOp oMul (dVar 3) (dVar 7)))
  (sAugX true (dOp oIx (dVar 5) (dVar 6)) (dVar 2) (dOp oMul (dVar 3) (dVar 7)))) sNil))
  (sRet (cTup (cLc (iVal (dVar 5)) (tN 8) tYes (dB bTup (lCons (dVar 8) lNil)) [8]))))))))))
def f_sum_by_pairs (C : CT) : DS :=
  (sSeq (sAsg (dCall C 34 (lCons (dVar 0) lNil)) (tN 2))
  (sSeq (sExpr (dCall C 8 (lStar (lCons (dVar 1) lNil))))
  (sSeq (sExpr (dCall C 36 (lCons (dVar 2) (lCons (dTup (lCons (dVar 1) lNil)) lNil))))
  (sRet (cTup (cLc (iRng1 (dB bLen (lCons (dVar 2) lNil))) (tN 3) tYes (dCall C 45 (lCons (dVar 2) (lCons (dVar 1) (lCons (dVar 3) lNil)))) [3]))))))
def f_fit_worths (C : CT) : DS :=
  (sSeq (sAsg (dCall C 6 (lCons (dVar 1) (lCons (dC (.int 1)) lNil))) (tN 2))
  (sSeq (sIf (tNot (tVal (dCall C 38 (lCons (dVar 0) (lCons (dVar 2) lNil))))) (sRs0 1) sNil)
  (sRet (dVar 2))))
def f_fit_signed_table (C : CT) : DS :=
  (sSeq (sAsg (dCall C 6 (lCons (dVar 0) (lCons (dC (.int 2)) lNil))) (tN 1))
  (sSeq (sIf (tNot (tVal (dCall C 27 (lCons (dVar 1) lNil)))) (sRs0 1) sNil)
  (sRet (dVar 1))))
def f_fit_row_numbers (C : CT) : DS :=
  (sSeq (sAsg (dCall C 6 (lCons (dVar 0) (lCons (dC (.int 1)) lNil))) (tN 1))
  (sSeq (sIf (tNot (tVal (dCall C 4 (lCons (dVar 1) lNil)))) (sRs0 1) sNil)
  (sRet (dVar 1))))
def f_check_rows (C : CT) : DS :=
  (sFor (iVal (dVar 1)) (tN 2) (sIf (tVal (dOp oGe (dVar 2) (dB bLen (lCons (dVar 0) lNil)))) (sRs1 0 (dVar 2)) sNil))
def f_is_row_of_numbers (C : CT) : DS :=
  (sRet (dAnd (dCall C 2 (lCons (dVar 0) (lCons (dVar 1) lNil))) (cAll (cLc (iVal (dVar 0)) (tN 2) tYes (dCall C 0 (lCons (dVar 2) lNil)) [2]))))
def f_are_worths_of (C : CT) : DS :=
  (sRet (dCall C 37 (lCons (dVar 1) (lCons (dOp oMul (dC (.int 2)) (dB bLen (lCons (dVar 0) lNil))) lNil))))
def f_pairing_sign (C : CT) : DS :=
  (sSeq (sAsg (dCall C 18 (lCons (dVar 0) lNil)) (tN 3))
  (sSeq (sAsg (dLst lNil) (tN 4))
  (sSeq (sFor (iVal (dVar 2)) (tN 5) (sSeq (sAsg (dOp oIx (dVar 3) (dVar 5)) (tT 2 (tLc (tN 6) (tLc (tN 7) tLn))))
  (sExpr (dExt (dVar 4) (dIf (tVal (dOp oEq (dOp oIx (dVar 1) (dVar 5)) (dC (.int 1)))) (dTup (lCons (dVar 7) (lCons (dVar 6) lNil))) (dTup (lCons (dVar 6) (lCons (dVar 7) lNil))))))))
  (sSeq (sAsg (dB bLen (lCons (cNew (cLc2 (iEnm (dVar 4)) (tT 2 (tLc (tN 9) (tLc (tN 6) tLn))) (iVal (dSl (dVar 4) (oSome (dVar 9)) oNone)) (tN 7) (tVal (dOp oGt (dVar 6) (dVar 7))) (dVar 6) [9, 6, 7] [7])) lNil)) (tN 8))
  (sRet (dIf (tVal (dOp oEq (dOp oMod (dVar 8) (dC (.int 2))) (dC (.int 0)))) (dC (.int 1)) (dNeg (dC (.int 1)))))))))
def f_table_by_arrows (C : CT) : DS :=
  (sSeq (sAsg (cNew (cLc (iVal (dVar 0)) (tN 9) tYes (dOp oMul (dLst (lCons (dC (.int 0)) lNil)) (dB bLen (lCons (dVar 0) lNil))) [9])) (tN 3))
  (sSeq (sFor (iZip3 (dCall C 18 (lCons (dVar 0) lNil)) (dVar 1) (dVar 2)) (tT 3 (tLc (tT 2 (tLc (tN 4) (tLc (tN 5) tLn))) (tLc (tN 6) (tLc (tN 7) tLn)))) (sSeq (sAsg (dIf (tVal (dOp oEq (dVar 6) (dC (.int 1)))) (dNeg (dVar 7)) (dVar 7)) (tN 8))
  (sSeq (sAugX false (dOp oIx (dVar 3) (dVar 4)) (dVar 5) (dVar 8))
  (sAugX true (dOp oIx (dVar 3) (dVar 5)) (dVar 4) (dVar 8)))))
  (sRet (cTup (cLc (iVal (dVar 3)) (tN 10) tYes (dB bTup (lCons (dVar 10) lNil)) [10])))))
def f_without_rows (C : CT) : DS :=
  (sSeq (sAsg (cNew (cLc (iRng1 (dB bLen (lCons (dVar 0) lNil))) (tN 3) (tVal (dOp oNotIn (dVar 3) (dVar 1))) (dVar 3) [3])) (tN 2))
  (sRet (cTup (cLc (iVal (dVar 2)) (tN 3) tYes (cTup (cLc (iVal (dVar 2)) (tN 4) tYes (dOp oIx (dOp oIx (dVar 0) (dVar 3)) (dVar 4)) [4])) [3]))))
def f_sum_over_pairs (C : CT) : DS :=
  (sSeq (sIf (tVal (dOp oEq (dOp oMod (dB bLen (lCons (dVar 0) lNil)) (dC (.int 2))) (dC (.int 1)))) (sRet (dC (.int 0))) sNil)
  (sSeq (sAsg (dVar 0) (tN 1))
  (sSeq (sAsg (dTup (lCons (dC (.int 1)) (lCons (dC (.int 1)) lNil))) (tT 2 (tLc (tN 2) (tLc (tN 3) tLn))))
  (sSeq (sWh (tTru (dVar 1)) (sSeq (sAsg (cNew (cLc (iEnm (dOp oIx (dVar 1) (dC (.int 0)))) (tT 2 (tLc (tN 6) (tLc (tN 7) tLn))) (tVal (dOp oNe (dVar 7) (dC (.int 0)))) (dVar 6) [6, 7])) (tN 4))
  (sSeq (sIf (tNot (tTru (dVar 4))) (sRet (dC (.int 0))) sNil)
  (sSeq (sIf (tVal (dOp oNe (dOp oIx (dVar 4) (dC (.int 0))) (dC (.int 1)))) (sSeq (sAsg (dCall C 43 (lCons (dVar 1) (lCons (dC (.int 1)) (lCons (dOp oIx (dVar 4) (dC (.int 0))) lNil)))) (tN 1))
  (sAsg (dNeg (dVar 3)) (tN 3))) sNil)
  (sSeq (sAsg (dVar 2) (tN 5))
  (sSeq (sAsg (dOp oIx (dOp oIx (dVar 1) (dC (.int 0))) (dC (.int 1))) (tN 2))
  (sAsg (dCall C 44 (lCons (dVar 1) (lCons (dVar 5) lNil))) (tN 1))))))))
  (sRet (dOp oMul (dVar 3) (dVar 2)))))))
def f_with_exchanged (C : CT) : DS :=
  (sSeq (sAsg (dLrng (dB bLen (lCons (dVar 0) lNil))) (tN 3))
  (sSeq (sAsg (dVar 2) (tS (dVar 3) (dVar 1)))
  (sSeq (sAsg (dVar 1) (tS (dVar 3) (dVar 2)))
  (sRet (cNew (cLc (iVal (dVar 3)) (tN 4) tYes (cNew (cLc (iVal (dVar 3)) (tN 5) tYes (dOp oIx (dOp oIx (dVar 0) (dVar 4)) (dVar 5)) [5])) [4]))))))
def f_two_rows_less (C : CT) : DS :=
  (sSeq (sAsg (dTup (lCons (dOp oIx (dVar 0) (dC (.int 0))) (lCons (dOp oIx (dVar 0) (dC (.int 1))) lNil))) (tT 2 (tLc (tN 2) (tLc (tN 3) tLn))))
  (sSeq (sAsg (dOp oIx (dVar 2) (dC (.int 1))) (tN 4))
  (sSeq (sAsg (dRngV (dC (.int 2)) (dB bLen (lCons (dVar 0) lNil))) (tN 5))
  (sRet (cNew (cLc (iVal (dVar 5)) (tN 6) tYes (cNew (cLc (iVal (dVar 5)) (tN 7) tYes (dOp oDiv (dOp oAdd (dOp oSub (dOp oMul (dVar 4) (dOp oIx (dOp oIx (dVar 0) (dVar 6)) (dVar 7))) (dOp oMul (dOp oIx (dVar 2) (dVar 6)) (dOp oIx (dVar 3) (dVar 7)))) (dOp oMul (dOp oIx (dVar 2) (dVar 7)) (dOp oIx (dVar 3) (dVar 6)))) (dVar 1)) [7])) [6]))))))
def f_sum_with_pair (C : CT) : DS :=
  (sSeq (sIf (tVal (dOp oEq (dVar 1) (dVar 2))) (sRet (dC (.int 0))) sNil)
  (sSeq (sAsg (dTup (lCons (dB bMin (lCons (dVar 1) (lCons (dVar 2) lNil))) (lCons (dB bMax (lCons (dVar 1) (lCons (dVar 2) lNil))) lNil))) (tT 2 (tLc (tN 3) (tLc (tN 4) tLn))))
  (sSeq (sAsg (dIf (tVal (dOp oEq (dOp oMod (dOp oSub (dVar 4) (dVar 3)) (dC (.int 2))) (dC (.int 1)))) (dC (.int 1)) (dNeg (dC (.int 1)))) (tN 5))
  (sRet (dOp oMul (dOp oMul (dVar 5) (dOp oIx (dOp oIx (dVar 0) (dVar 3)) (dVar 4))) (dCall C 42 (lCons (dCall C 41 (lCons (dVar 0) (lCons (dTup (lCons (dVar 3) (lCons (dVar 4) lNil))) lNil))) lNil)))))))
def f_law_box (C : CT) : DS :=
  (sSeq (sAsg (dIf (tVal (dOp oLt (dVar 1) (dB bLen (lCons (dVar 0) lNil)))) (dOp oIx (dVar 0) (dVar 1)) (dC (.int 0))) (tN 2))
  (sRet (dLst (lCons (dOp oMul (dB bAbs (lCons (dVar 2) lNil)) (dB bInt (lCons (dOp oGe (dB bAbs (lCons (dVar 2) lNil)) (dOp oPow (dC (.int 10)) (dC (.int 18)))) lNil))) (lCons (dOp oAdd (dOp oAdd (dOp oMod (dB bInt (lCons (dVar 2) lNil)) (dC (.int 2305843009213693951))) (dOp oMul (dC (.int 39373)) (dVar 1))) (dC (.int 3192034))) (lCons (dC (.int 0)) lNil))))))
def f_law_take (C : CT) : DS :=
  (sSeq (sIf (tVal (dOp oGt (dOp oIx (dVar 0) (dC (.int 0))) (dC (.int 0)))) (sSeq (sAsg (dOp oMod (dB bInt (lCons (dOp oIx (dVar 0) (dC (.int 0))) lNil)) (dVar 1)) (tN 2))
  (sSeq (sAsg (dOp oDiv (dOp oIx (dVar 0) (dC (.int 0))) (dVar 1)) (tS (dVar 0) (dC (.int 0))))
  (sRet (dVar 2)))) sNil)
  (sSeq (sAsg (dOp oAdd (dOp oIx (dVar 0) (dC (.int 2))) (dC (.int 1))) (tS (dVar 0) (dC (.int 2))))
  (sSeq (sAsg (dOp oMod (dB bInt (lCons (dOp oMul (dOp oAdd (dOp oIx (dVar 0) (dC (.int 1))) (dOp oMul (dC (.int 48271)) (dOp oIx (dVar 0) (dC (.int 2))))) (dOp oAdd (dC (.int 39373)) (dOp oIx (dVar 0) (dC (.int 2))))) lNil)) (dC (.int 2147483647))) (tN 3))
  (sSeq (sAsg (dOp oAdd (dOp oMod (dB bInt (lCons (dVar 3) lNil)) (dC (.int 40009))) (dC (.int 7))) (tN 4))
  (sSeq (sAsg (dOp oMod (dB bInt (lCons (dOp oMul (dOp oAdd (dOp oAdd (dVar 3) (dOp oIx (dVar 0) (dC (.int 2)))) (dOp oDiv (dOp oIx (dVar 0) (dC (.int 1))) (dC (.int 1000003)))) (dVar 4)) lNil)) (dC (.int 2147483629))) (tN 5))
  (sRet (dOp oMod (dB bInt (lCons (dOp oDiv (dOp oMod (dB bInt (lCons (dOp oAdd (dOp oMul (dVar 5) (dC (.int 48271))) (dVar 3)) lNil)) (dC (.int 2147483587))) (dC (.int 64))) lNil)) (dVar 1))))))))
def f_law_cells (C : CT) : DS :=
  (sSeq (sAsg (dOrT (dB bList (lCons (dSl (dVar 0) oNone (oSome (dVar 1))) lNil)) (dLst (lCons (dC (.int 0)) lNil))) (tN 2))
  (sSeq (sFor (iEnm (dSl (dVar 0) (oSome (dVar 1)) (oSome (dC (.int 63))))) (tT 2 (tLc (tN 3) (tLc (tN 4) tLn))) (sSeq (sAsg (dOp oMod (dB bInt (lCons (dVar 3) lNil)) (dVar 1)) (tN 5))
  (sAsg (dOp oAdd (dOp oIx (dVar 2) (dVar 5)) (dOp oMul (dVar 4) (dOp oAdd (dVar 3) (dC (.int 2))))) (tS (dVar 2) (dVar 5)))))
  (sRet (dVar 2))))
def f_law_lists (C : CT) : DS :=
  (sRet (dIf (tVal (dB bIs (lCons (dVar 0) (lCons (dTup (lCons (dC (.ty "list")) (lCons (dC (.ty "tuple")) lNil))) lNil)))) (cNew (cLc (iVal (dVar 0)) (tN 1) tYes (dCall C 49 (lCons (dVar 1) lNil)) [1])) (dVar 0)))
def f_law_same (C : CT) : DS :=
  (sSeq (sIf (tVal (dB bIs (lCons (dVar 1) (lCons (dTup (lCons (dC (.ty "list")) (lCons (dC (.ty "tuple")) lNil))) lNil)))) (sSeq (sIf (tOr (tVal (dOp oNe (dB bIs (lCons (dVar 0) (lCons (dC (.ty "list")) lNil))) (dB bIs (lCons (dVar 1) (lCons (dC (.ty "list")) lNil))))) (tVal (dOp oNe (dB bIs (lCons (dVar 0) (lCons (dC (.ty "tuple")) lNil))) (dB bIs (lCons (dVar 1) (lCons (dC (.ty "tuple")) lNil)))))) (sRet (dC (.bl false))) sNil)
  (sRet (dAnd (dOp oEq (dB bLen (lCons (dVar 0) lNil)) (dB bLen (lCons (dVar 1) lNil))) (cAll (cLc (iZipB (dVar 0) (dVar 1)) (tT 2 (tLc (tN 2) (tLc (tN 3) tLn))) tYes (dCall C 50 (lCons (dVar 2) (lCons (dVar 3) lNil))) [2, 3]))))) sNil)
  (sSeq (sIf (tOr (tVal (dOp oIsN (dVar 1) (dC .non))) (tVal (dB bIs (lCons (dVar 1) (lCons (dTup (lCons (dC (.ty "bool")) (lCons (dC (.ty "str")) lNil))) lNil))))) (sRet (dAnd (dOp oEq (dVar 0) (dVar 1)) (dAnd (dOp oEq (dB bIs (lCons (dVar 0) (lCons (dC (.ty "bool")) lNil))) (dB bIs (lCons (dVar 1) (lCons (dC (.ty "bool")) lNil)))) (dOp oEq (dOp oIsN (dVar 0) (dC .non)) (dOp oIsN (dVar 1) (dC .non)))))) sNil)
  (sRet (dAnd (dB bIs (lCons (dVar 0) (lCons (dC (.ty "int")) lNil))) (dAnd (dNot (dB bIs (lCons (dVar 0) (lCons (dC (.ty "bool")) lNil)))) (dOp oEq (dVar 0) (dVar 1)))))))
def f_law_square (C : CT) : DS :=
  (sSeq (sAsg (dLst lNil) (tN 2))
  (sSeq (sFor (iRng1 (dOp oMul (dVar 0) (dVar 1))) (tN 3) (sSeq (sAsg (dTup (lCons (dOp oMod (dB bInt (lCons (dVar 3) lNil)) (dVar 0)) (lCons (dOp oDiv (dVar 3) (dVar 0)) lNil))) (tT 2 (tLc (tN 4) (tLc (tN 5) tLn))))
  (sSeq (sAsg (dTup (lCons (dOp oMod (dB bInt (lCons (dOp oAdd (dVar 4) (dC (.int 1))) lNil)) (dVar 0)) (lCons (dOp oMod (dB bInt (lCons (dOp oSub (dOp oAdd (dVar 4) (dVar 0)) (dC (.int 1))) lNil)) (dVar 0)) lNil))) (tT 2 (tLc (tN 6) (tLc (tN 7) tLn))))
  (sSeq (sAsg (dTup (lCons (dOp oMod (dB bInt (lCons (dOp oAdd (dVar 5) (dC (.int 1))) lNil)) (dVar 1)) (lCons (dOp oMod (dB bInt (lCons (dOp oSub (dOp oAdd (dVar 5) (dVar 1)) (dC (.int 1))) lNil)) (dVar 1)) lNil))) (tT 2 (tLc (tN 8) (tLc (tN 9) tLn))))
  (sExpr (dApp (dVar 2) (dTup (lCons (dTup (lCons (dOp oAdd (dOp oMul (dVar 5) (dVar 0)) (dVar 6)) (lCons (dC (.int 2)) lNil))) (lCons (dTup (lCons (dOp oAdd (dOp oMul (dVar 8) (dVar 0)) (dVar 4)) (lCons (dC (.int 3)) lNil))) (lCons (dTup (lCons (dOp oAdd (dOp oMul (dVar 5) (dVar 0)) (dVar 7)) (lCons (dC (.int 0)) lNil))) (lCons (dTup (lCons (dOp oAdd (dOp oMul (dVar 9) (dVar 0)) (dVar 4)) (lCons (dC (.int 1)) lNil))) lNil)))))))))))
  (sRet (dB bTup (lCons (dVar 2) lNil)))))
def f_law_told_skins (C : CT) : DS :=
  (sSeq (sAsg (dTup (lCons (dTup (lCons (dTup (lCons (dC (.int 1)) (lCons (dC (.int 2)) lNil))) (lCons (dTup (lCons (dC (.int 0)) (lCons (dC (.int 3)) lNil))) (lCons (dTup (lCons (dC (.int 1)) (lCons (dC (.int 0)) lNil))) (lCons (dTup (lCons (dC (.int 0)) (lCons (dC (.int 1)) lNil))) lNil))))) (lCons (dTup (lCons (dTup (lCons (dC (.int 0)) (lCons (dC (.int 2)) lNil))) (lCons (dTup (lCons (dC (.int 1)) (lCons (dC (.int 3)) lNil))) (lCons (dTup (lCons (dC (.int 0)) (lCons (dC (.int 0)) lNil))) (lCons (dTup (lCons (dC (.int 1)) (lCons (dC (.int 1)) lNil))) lNil))))) lNil))) (tN 0))
  (sSeq (sAsg (dTup (lCons (dTup (lCons (dC (.int 0)) (lCons (dC (.int 1)) (lCons (dC (.int 2)) (lCons (dC (.int 3)) lNil))))) (lCons (dTup (lCons (dNeg (dC (.int 1))) (lCons (dC (.int 0)) (lCons (dC (.int 4)) (lCons (dC (.int 5)) lNil))))) (lCons (dTup (lCons (dNeg (dC (.int 2))) (lCons (dNeg (dC (.int 4))) (lCons (dC (.int 0)) (lCons (dC (.int 6)) lNil))))) (lCons (dTup (lCons (dNeg (dC (.int 3))) (lCons (dNeg (dC (.int 5))) (lCons (dNeg (dC (.int 6))) (lCons (dC (.int 0)) lNil))))) lNil))))) (tN 1))
  (sRet (dTup (lCons (dVar 0) (lCons (dCall C 51 (lCons (dC (.int 2)) (lCons (dC (.int 2)) lNil))) (lCons (dTup (lCons (dC (.int 0)) (lCons (dC (.int 0)) (lCons (dC (.int 0)) (lCons (dC (.int 0)) (lCons (dC (.int 0)) (lCons (dC (.int 1)) (lCons (dC (.int 0)) (lCons (dC (.int 1)) lNil))))))))) (lCons (dTup (lCons (dC (.int 1)) (lCons (dC (.int 2)) (lCons (dC (.int 3)) (lCons (dC (.int 4)) (lCons (dC (.int 5)) (lCons (dC (.int 6)) (lCons (dC (.int 7)) (lCons (dNeg (dC (.int 1))) lNil))))))))) (lCons (dVar 1) lNil)))))))))
def f_law_heard (C : CT) : DS :=
  (sTry 2 (sSeq (sIf (tVal (dOp oEq (dVar 0) (dC (.int 0)))) (sRet (dCall C 28 (lCons (dOp oIx (dVar 1) (dC (.int 0))) lNil))) sNil)
  (sSeq (sIf (tVal (dOp oLt (dVar 0) (dC (.int 4)))) (sRet (dCallV (noStar [7, 8] C) (dOp oIx (dTup (lCons (dC (.fn 29)) (lCons (dC (.fn 30)) (lCons (dC (.fn 32)) lNil)))) (dOp oSub (dVar 0) (dC (.int 1)))) (lCons (dOp oIx (dVar 1) (dC (.int 0))) (lCons (dOp oIx (dVar 1) (dC (.int 1))) lNil)))) sNil)
  (sSeq (sIf (tVal (dOp oLt (dVar 0) (dC (.int 7)))) (sRet (dCallV (noStar [7, 8] C) (dOp oIx (dTup (lCons (dC (.fn 25)) (lCons (dC (.fn 26)) (lCons (dC (.fn 24)) lNil)))) (dOp oSub (dVar 0) (dC (.int 4)))) (lCons (dOp oIx (dVar 1) (dC (.int 0))) (lCons (dOp oIx (dVar 1) (dC (.int 1))) (lCons (dOp oIx (dVar 1) (dC (.int 2))) lNil))))) sNil)
  (sRet (dCall C 31 (lCons (dOp oIx (dVar 1) (dC (.int 0))) (lCons (dOp oIx (dVar 1) (dC (.int 1))) (lCons (dOp oIx (dVar 1) (dC (.int 2))) (lCons (dOp oIx (dVar 1) (dC (.int 3))) lNil))))))))) [(0, 2, fun x => (sRet (dLst (lCons (dC (.str ⟨⟨[110, 111, 32, 102, 105, 101, 108, 100]⟩⟩)) (lCons (dXf x) (lCons (dC (.bl (xIs x.cls "LookupError"))) lNil)))))),
   (1, 2, fun x => (sRet (dLst (lCons (dC (.str ⟨⟨[117, 110, 102, 105, 116]⟩⟩)) (lCons (dC (.bl (xIs x.cls "ValueError"))) lNil)))))])
def f_law_always_right (C : CT) : DS :=
  (sSeq (sAsg (dCall C 52 lNil) (tT 5 (tLc (tN 0) (tLc (tN 1) (tLc (tN 2) (tLc (tN 3) (tLc (tN 4) tLn)))))))
  (sSeq (sAsg (dLst (lCons (dCall C 53 (lCons (dC (.int 1)) (lCons (dTup (lCons (dVar 4) (lCons (dTup (lCons (dC (.int 1)) (lCons (dC (.int 4)) lNil))) lNil))) lNil))) (lCons (dCall C 53 (lCons (dC (.int 1)) (lCons (dTup (lCons (dVar 4) (lCons (dTup (lCons (dC (.int 0)) (lCons (dC (.int 5)) (lCons (dC (.int 9)) lNil)))) lNil))) lNil))) (lCons (dCall C 27 (lCons (dVar 4) lNil)) (lCons (dCall C 27 (lCons (dTup lNil) lNil)) (lCons (dCall C 27 (lCons (dTup (lCons (dTup (lCons (dC (.int 0)) lNil)) lNil)) lNil)) (lCons (dCall C 27 (lCons (dTup (lCons (dTup (lCons (dC (.int 0)) (lCons (dC (.int 1)) lNil))) (lCons (dTup (lCons (dC (.int 1)) (lCons (dC (.int 0)) lNil))) lNil))) lNil)) lNil))))))) (tN 5))
  (sSeq (sAsg (dLst (lCons (dLst (lCons (dC (.str ⟨⟨[110, 111, 32, 102, 105, 101, 108, 100]⟩⟩)) (lCons (dC (.int 4)) (lCons (dC (.bl true)) lNil)))) (lCons (dLst (lCons (dC (.str ⟨⟨[110, 111, 32, 102, 105, 101, 108, 100]⟩⟩)) (lCons (dC (.int 5)) (lCons (dC (.bl true)) lNil)))) (lCons (dC (.bl true)) (lCons (dC (.bl true)) (lCons (dC (.bl true)) (lCons (dC (.bl false)) lNil))))))) (tN 6))
  (sSeq (sAsg (dLst (lCons (dTup (lCons (dTup (lCons (dC (.int 1)) lNil)) lNil)) (lCons (dTup (lCons (dTup (lCons (dC (.int 0)) (lCons (dC (.int 1)) lNil))) lNil)) (lCons (dTup (lCons (dTup (lCons (dC (.int 0)) (lCons (dC (.int 1)) lNil))) (lCons (dTup (lCons (dNeg (dC (.int 1))) lNil)) lNil))) (lCons (dLst (lCons (dTup (lCons (dC (.int 0)) lNil)) lNil)) (lCons (dTup (lCons (dLst (lCons (dC (.int 0)) lNil)) lNil)) (lCons (dC .non) (lCons (dC (.int 4)) (lCons (dC (.str ⟨⟨[97, 98]⟩⟩)) (lCons (dTup (lCons (dTup (lCons (dC (.int 0)) (lCons (dC (.bl true)) lNil))) (lCons (dTup (lCons (dNeg (dC (.int 1))) (lCons (dC (.int 0)) lNil))) lNil))) (lCons (dTup (lCons (dTup (lCons (dC (.int 0)) (lCons (dC (.int 1)) lNil))) (lCons (dTup (lCons (dNeg (dC (.int 1))) (lCons (dC (.bl false)) lNil))) lNil))) (lCons (dTup (lCons (dC (.int 0)) lNil)) (lCons (dTup (lCons (dTup (lCons (dC (.int 0)) (lCons (dC (.int 1)) lNil))) (lCons (dTup (lCons (dNeg (dC (.int 1))) (lCons (dC (.int 0)) lNil))) (lCons (dTup lNil) lNil)))) (lCons (dTup (lCons (dTup lNil) (lCons (dTup lNil) lNil))) lNil)))))))))))))) (tN 7))
  (sRet (dCall C 50 (lCons (dOp oAdd (dVar 5) (dLst (lCons (cNew (cLc (iVal (dVar 7)) (tN 8) tYes (dCall C 27 (lCons (dVar 8) lNil)) [8])) lNil))) (lCons (dOp oAdd (dVar 6) (dLst (lCons (dOp oMul (dLst (lCons (dC (.bl false)) lNil)) (dC (.int 13))) lNil))) lNil))))))))
def f_law_refused_right (C : CT) : DS :=
  (sSeq (sAsg (dCall C 52 lNil) (tT 5 (tLc (tN 0) (tLc (tN 1) (tLc (tN 2) (tLc (tN 3) (tLc (tN 4) tLn)))))))
  (sSeq (sAsg (dTup (lCons (dLst (lCons (dC (.str ⟨⟨[117, 110, 102, 105, 116]⟩⟩)) (lCons (dC (.bl true)) lNil))) (lCons (dLst lNil) (lCons (dLst lNil) lNil)))) (tT 3 (tLc (tN 5) (tLc (tN 6) (tLc (tN 7) tLn)))))
  (sSeq (sAsg (dLst (lCons (dTup (lCons (dTup (lCons (dC (.int 0)) (lCons (dC (.int 1)) lNil))) (lCons (dTup (lCons (dC (.int 1)) (lCons (dC (.int 0)) lNil))) lNil))) (lCons (dTup (lCons (dTup (lCons (dC (.int 0)) (lCons (dC (.int 1)) lNil))) lNil)) (lCons (dC .non) (lCons (dC (.int 5)) (lCons (dTup (lCons (dTup (lCons (dC (.int 0)) (lCons (dC (.int 1)) lNil))) (lCons (dTup (lCons (dNeg (dC (.int 1))) (lCons (dC (.bl true)) lNil))) lNil))) (lCons (dC (.str ⟨⟨[97, 98]⟩⟩)) (lCons (dTup (lCons (dC (.int 0)) lNil)) (lCons (dTup (lCons (dTup (lCons (dC (.int 0)) (lCons (dC (.int 1)) lNil))) (lCons (dTup (lCons (dNeg (dC (.int 1))) (lCons (dC (.int 0)) (lCons (dC (.int 0)) lNil)))) lNil))) lNil))))))))) (tN 8))
  (sSeq (sFor (iVal (dVar 8)) (tN 9) (sSeq (sExpr (dApp (dVar 6) (dLst (lCons (dCall C 53 (lCons (dC (.int 0)) (lCons (dTup (lCons (dVar 9) lNil)) lNil))) (lCons (dCall C 53 (lCons (dC (.int 1)) (lCons (dTup (lCons (dVar 9) (lCons (dTup (lCons (dC (.int 9)) lNil)) lNil))) lNil))) (lCons (dCall C 53 (lCons (dC (.int 2)) (lCons (dTup (lCons (dVar 9) (lCons (dTup (lCons (dC (.int 9)) lNil)) lNil))) lNil))) (lCons (dCall C 53 (lCons (dC (.int 3)) (lCons (dTup (lCons (dVar 9) (lCons (dC (.int 9)) lNil))) lNil))) (lCons (dCall C 53 (lCons (dC (.int 7)) (lCons (dTup (lCons (dVar 9) (lCons (dC (.int 9)) (lCons (dC (.int 9)) (lCons (dC (.int 1)) lNil))))) lNil))) lNil))))))))
  (sExpr (dApp (dVar 7) (dOp oMul (dLst (lCons (dVar 5) lNil)) (dC (.int 5)))))))
  (sSeq (sAsg (dLst (lCons (dC .non) (lCons (dTup (lCons (dC (.int 1)) (lCons (dC (.int 0)) lNil))) (lCons (dTup (lCons (dC (.int 0)) (lCons (dC (.int 0)) lNil))) (lCons (dTup (lCons (dNeg (dC (.int 1))) lNil)) (lCons (dTup (lCons (dC (.bl true)) lNil)) (lCons (dC (.int 3)) (lCons (dTup (lCons (dC (.str ⟨⟨[97]⟩⟩)) lNil)) (lCons (dTup (lCons (dC (.int 9)) (lCons (dC (.int 3)) lNil))) lNil))))))))) (tN 10))
  (sSeq (sExpr (dApp (dVar 6) (cNew (cLc (iVal (dTup (lCons (dC (.int 1)) (lCons (dC (.int 2)) lNil)))) (tN 12) tYes (dCall C 53 (lCons (dVar 12) (lCons (dTup (lCons (dVar 4) (lCons (dTup (lCons (dNeg (dC (.int 1))) (lCons (dC (.int 2)) lNil))) lNil))) lNil))) [12]))))
  (sSeq (sAsg (dOp oAdd (dOp oAdd (dOp oIx (dVar 6) (dNeg (dC (.int 1)))) (cNew (cLc (iVal (dVar 10)) (tN 9) tYes (dCall C 53 (lCons (dC (.int 1)) (lCons (dTup (lCons (dVar 4) (lCons (dVar 9) lNil))) lNil))) [9]))) (cNew (cLc (iVal (dVar 10)) (tN 9) tYes (dCall C 53 (lCons (dC (.int 2)) (lCons (dTup (lCons (dVar 4) (lCons (dVar 9) lNil))) lNil))) [9]))) (tS (dVar 6) (dNeg (dC (.int 1)))))
  (sSeq (sExpr (dApp (dVar 7) (dOp oMul (dLst (lCons (dVar 5) lNil)) (dC (.int 18)))))
  (sSeq (sExpr (dApp (dVar 6) (dLst (lCons (dCall C 53 (lCons (dC (.int 2)) (lCons (dTup (lCons (dVar 4) (lCons (dTup (lCons (dC (.int 0)) (lCons (dC (.int 4)) lNil))) lNil))) lNil))) (lCons (dCall C 53 (lCons (dC (.int 3)) (lCons (dTup (lCons (dVar 4) (lCons (dC (.int 4)) lNil))) lNil))) (lCons (dCall C 53 (lCons (dC (.int 3)) (lCons (dTup (lCons (dTup lNil) (lCons (dC (.int 0)) lNil))) lNil))) (lCons (dCall C 53 (lCons (dC (.int 7)) (lCons (dTup (lCons (dVar 4) (lCons (dC (.int 4)) (lCons (dC (.int 9)) (lCons (dC (.int 1)) lNil))))) lNil))) (lCons (dCall C 53 (lCons (dC (.int 7)) (lCons (dTup (lCons (dVar 4) (lCons (dC (.int 0)) (lCons (dC (.int 4)) (lCons (dC (.int 1)) lNil))))) lNil))) (lCons (dCall C 53 (lCons (dC (.int 7)) (lCons (dTup (lCons (dVar 4) (lCons (dC (.int 6)) (lCons (dC (.int 6)) (lCons (dC (.int 1)) lNil))))) lNil))) lNil)))))))))
  (sSeq (sExpr (dApp (dVar 7) (cNew (cLc (iVal (dTup (lCons (dC (.int 4)) (lCons (dC (.int 4)) (lCons (dC (.int 0)) (lCons (dC (.int 4)) (lCons (dC (.int 4)) (lCons (dC (.int 6)) lNil)))))))) (tN 9) tYes (dLst (lCons (dC (.str ⟨⟨[110, 111, 32, 102, 105, 101, 108, 100]⟩⟩)) (lCons (dVar 9) (lCons (dC (.bl true)) lNil)))) [9]))))
  (sSeq (sExpr (dApp (dVar 6) (cNew (cLc (iVal (dTup (lCons (dC .non) (lCons (dNeg (dC (.int 1))) (lCons (dC (.bl true)) (lCons (dTup (lCons (dC (.int 0)) lNil)) (lCons (dC (.str ⟨⟨[48]⟩⟩)) lNil))))))) (tN 9) tYes (dCall C 53 (lCons (dC (.int 3)) (lCons (dTup (lCons (dVar 4) (lCons (dVar 9) lNil))) lNil))) [9]))))
  (sSeq (sAsg (dOp oAdd (dOp oIx (dVar 6) (dNeg (dC (.int 1)))) (cNew (cLc (iVal (dTup (lCons (dC .non) (lCons (dNeg (dC (.int 1))) (lCons (dC (.bl true)) lNil))))) (tN 9) tYes (dCall C 53 (lCons (dC (.int 7)) (lCons (dTup (lCons (dVar 4) (lCons (dVar 9) (lCons (dC (.int 1)) (lCons (dC (.int 1)) lNil))))) lNil))) [9]))) (tS (dVar 6) (dNeg (dC (.int 1)))))
  (sSeq (sAsg (dOp oAdd (dOp oIx (dVar 6) (dNeg (dC (.int 1)))) (cNew (cLc (iVal (dTup (lCons (dC .non) (lCons (dNeg (dC (.int 1))) (lCons (dC (.bl true)) lNil))))) (tN 9) tYes (dCall C 53 (lCons (dC (.int 7)) (lCons (dTup (lCons (dVar 4) (lCons (dC (.int 9)) (lCons (dVar 9) (lCons (dC (.int 1)) lNil))))) lNil))) [9]))) (tS (dVar 6) (dNeg (dC (.int 1)))))
  (sSeq (sExpr (dApp (dVar 6) (dOp oAdd (cNew (cLc (iVal (dTup (lCons (dC .non) (lCons (dC (.bl true)) (lCons (dC (.str ⟨⟨[49]⟩⟩)) (lCons (dTup (lCons (dC (.int 1)) lNil)) lNil)))))) (tN 9) tYes (dCall C 53 (lCons (dC (.int 7)) (lCons (dTup (lCons (dVar 4) (lCons (dC (.int 9)) (lCons (dC (.int 1)) (lCons (dVar 9) lNil))))) lNil))) [9])) (dLst (lCons (dCall C 53 (lCons (dC (.int 7)) (lCons (dTup (lCons (dVar 4) (lCons (dC (.int 2)) (lCons (dC (.int 2)) (lCons (dC (.int 1)) lNil))))) lNil))) lNil)))))
  (sSeq (sAsg (dOp oAdd (dVar 7) (dLst (lCons (dOp oMul (dLst (lCons (dVar 5) lNil)) (dC (.int 11))) (lCons (dOp oMul (dLst (lCons (dVar 5) lNil)) (dC (.int 5))) lNil)))) (tN 7))
  (sSeq (sAsg (dLst (lCons (dC .non) (lCons (dTup lNil) (lCons (dC (.int 7)) (lCons (dTup (lCons (dTup (lCons (dTup (lCons (dC (.int 0)) (lCons (dC (.int 1)) lNil))) (lCons (dTup (lCons (dC (.int 0)) (lCons (dC (.int 0)) lNil))) (lCons (dTup (lCons (dC (.int 0)) (lCons (dC (.int 3)) lNil))) lNil)))) lNil)) (lCons (dTup (lCons (dTup (lCons (dTup (lCons (dC (.int 0)) (lCons (dC (.int 0)) lNil))) (lCons (dTup (lCons (dC (.int 0)) (lCons (dC (.int 1)) lNil))) (lCons (dTup (lCons (dC (.int 0)) (lCons (dC (.int 3)) lNil))) (lCons (dTup (lCons (dC (.int 0)) (lCons (dC (.int 2)) lNil))) lNil))))) lNil)) (lCons (dSl (dVar 0) oNone (oSome (dC (.int 1)))) (lCons (dOp oAdd (dVar 0) (dVar 0)) (lCons (dTup (lCons (dOp oIx (dVar 0) (dC (.int 0))) (lCons (dTup (lCons (dOp oIx (dOp oIx (dVar 0) (dC (.int 1))) (dC (.int 0))) (lCons (dOp oIx (dOp oIx (dVar 0) (dC (.int 1))) (dC (.int 1))) (lCons (dOp oIx (dOp oIx (dVar 0) (dC (.int 1))) (dC (.int 2))) (lCons (dTup (lCons (dC (.int 1)) (lCons (dC (.int 0)) lNil))) lNil))))) lNil))) lNil))))))))) (tN 11))
  (sSeq (sFor (iVal (dVar 11)) (tN 9) (sSeq (sExpr (dApp (dVar 6) (dLst (lCons (dCall C 53 (lCons (dC (.int 4)) (lCons (dTup (lCons (dVar 9) (lCons (dOp oMul (dTup (lCons (dC (.int 0)) lNil)) (dC (.int 4))) (lCons (dTup (lCons (dC (.int 0)) lNil)) lNil)))) lNil))) (lCons (dCall C 53 (lCons (dC (.int 5)) (lCons (dTup (lCons (dVar 9) (lCons (dOp oMul (dTup (lCons (dC (.int 0)) lNil)) (dC (.int 4))) (lCons (dOp oMul (dTup (lCons (dC (.int 1)) lNil)) (dC (.int 4))) lNil)))) lNil))) (lCons (dCall C 53 (lCons (dC (.int 6)) (lCons (dTup (lCons (dVar 9) (lCons (dOp oMul (dTup (lCons (dC (.int 1)) lNil)) (dC (.int 4))) (lCons (dTup (lCons (dC (.int 0)) lNil)) lNil)))) lNil))) lNil))))))
  (sExpr (dApp (dVar 7) (dOp oMul (dLst (lCons (dVar 5) lNil)) (dC (.int 3)))))))
  (sSeq (sFor (iVal (dLst (lCons (dC .non) (lCons (dOp oMul (dTup (lCons (dC (.int 0)) lNil)) (dC (.int 3))) (lCons (dOp oMul (dTup (lCons (dC (.int 0)) lNil)) (dC (.int 5))) (lCons (dTup (lCons (dC (.int 0)) (lCons (dC (.int 0)) (lCons (dC (.int 2)) (lCons (dC (.int 0)) lNil))))) (lCons (dTup (lCons (dC (.int 0)) (lCons (dC (.int 0)) (lCons (dC (.bl true)) (lCons (dC (.int 0)) lNil))))) (lCons (dC (.int 0)) (lCons (dTup (lCons (dC (.int 0)) (lCons (dNeg (dC (.int 1))) (lCons (dC (.int 0)) (lCons (dC (.int 0)) lNil))))) lNil))))))))) (tN 9) (sSeq (sExpr (dApp (dVar 6) (dLst (lCons (dCall C 53 (lCons (dC (.int 4)) (lCons (dTup (lCons (dVar 0) (lCons (dVar 9) (lCons (dTup (lCons (dC (.int 0)) lNil)) lNil)))) lNil))) (lCons (dCall C 53 (lCons (dC (.int 5)) (lCons (dTup (lCons (dVar 0) (lCons (dVar 9) (lCons (dOp oMul (dTup (lCons (dC (.int 1)) lNil)) (dC (.int 4))) lNil)))) lNil))) lNil)))))
  (sExpr (dApp (dVar 7) (dOp oMul (dLst (lCons (dVar 5) lNil)) (dC (.int 2)))))))
  (sSeq (sFor (iVal (dLst (lCons (dC .non) (lCons (dOp oMul (dTup (lCons (dC (.int 1)) lNil)) (dC (.int 3))) (lCons (dOp oMul (dTup (lCons (dC (.int 1)) lNil)) (dC (.int 5))) (lCons (dTup (lCons (dC (.int 1)) (lCons (dC (.int 1)) (lCons (dC (.bl true)) (lCons (dC (.int 1)) lNil))))) (lCons (dC (.int 4)) (lCons (dTup (lCons (dC (.int 1)) (lCons (dC (.int 1)) (lCons (dC (.str ⟨⟨[49]⟩⟩)) (lCons (dC (.int 1)) lNil))))) lNil)))))))) (tN 9) (sSeq (sExpr (dApp (dVar 6) (dLst (lCons (dCall C 53 (lCons (dC (.int 5)) (lCons (dTup (lCons (dVar 0) (lCons (dOp oMul (dTup (lCons (dC (.int 0)) lNil)) (dC (.int 4))) (lCons (dVar 9) lNil)))) lNil))) (lCons (dCall C 53 (lCons (dC (.int 6)) (lCons (dTup (lCons (dVar 0) (lCons (dVar 9) (lCons (dTup (lCons (dC (.int 0)) lNil)) lNil)))) lNil))) lNil)))))
  (sExpr (dApp (dVar 7) (dOp oMul (dLst (lCons (dVar 5) lNil)) (dC (.int 2)))))))
  (sSeq (sFor (iVal (dLst (lCons (dC .non) (lCons (dTup lNil) (lCons (dTup (lCons (dC (.int 1)) lNil)) (lCons (dTup (lCons (dC (.int 0)) (lCons (dC (.int 2)) lNil))) (lCons (dTup (lCons (dC (.int 4)) lNil)) (lCons (dTup (lCons (dNeg (dC (.int 1))) lNil)) (lCons (dTup (lCons (dC (.int 0)) (lCons (dC (.int 0)) lNil))) (lCons (dTup (lCons (dC (.bl true)) lNil)) (lCons (dC (.int 0)) lNil))))))))))) (tN 9) (sSeq (sExpr (dApp (dVar 6) (dLst (lCons (dCall C 53 (lCons (dC (.int 4)) (lCons (dTup (lCons (dVar 0) (lCons (dOp oMul (dTup (lCons (dC (.int 0)) lNil)) (dC (.int 4))) (lCons (dVar 9) lNil)))) lNil))) (lCons (dCall C 53 (lCons (dC (.int 6)) (lCons (dTup (lCons (dVar 0) (lCons (dOp oMul (dTup (lCons (dC (.int 1)) lNil)) (dC (.int 4))) (lCons (dVar 9) lNil)))) lNil))) lNil)))))
  (sExpr (dApp (dVar 7) (dOp oMul (dLst (lCons (dVar 5) lNil)) (dC (.int 2)))))))
  (sRet (dCall C 50 (lCons (dVar 6) (lCons (dVar 7) lNil))))))))))))))))))))))))
def f_law_names_right (C : CT) : DS :=
  (sSeq (sAsg (dCall C 52 lNil) (tT 5 (tLc (tN 0) (tLc (tN 1) (tLc (tN 2) (tLc (tN 3) (tLc (tN 4) tLn)))))))
  (sSeq (sAsg (dTup (lCons (dCall C 49 (lCons (dVar 1) lNil)) (lCons (dB bList (lCons (dVar 2) lNil)) (lCons (dB bList (lCons (dVar 3) lNil)) (lCons (dCall C 49 (lCons (dVar 4) lNil)) lNil))))) (tT 4 (tLc (tN 5) (tLc (tN 6) (tLc (tN 7) (tLc (tN 8) tLn))))))
  (sSeq (sAsg (dLst (lCons (dCallP C 25 [2, 1, 0] (lCons (dLst (lCons (dC (.int 0)) (lCons (dC (.int 7)) lNil))) (lCons (dVar 6) (lCons (dVar 5) lNil)))) (lCons (dCallP C 24 [2, 1, 0] (lCons (dLst (lCons (dC (.int 1)) (lCons (dC (.int 4)) lNil))) (lCons (dVar 7) (lCons (dVar 5) lNil)))) (lCons (dOp oIx (dCallP C 26 [2, 1, 0] (lCons (dVar 7) (lCons (dVar 6) (lCons (dVar 5) lNil)))) (dC (.int 0))) lNil)))) (tN 9))
  (sSeq (sAsg (dLst (lCons (dNeg (dC (.int 1))) (lCons (dC (.int 10)) (lCons (dTup (lCons (dC (.int 0)) (lCons (dC (.int 4)) (lCons (dC (.int 6)) (lCons (dC (.int 0)) lNil))))) lNil)))) (tN 10))
  (sSeq (sAsg (dOp oAdd (dVar 9) (dLst (lCons (dCallP C 27 [0] (lCons (dVar 4) lNil)) (lCons (dCallP C 28 [0] (lCons (dVar 8) lNil)) (lCons (dCallP C 29 [1, 0] (lCons (dLst (lCons (dC (.int 0)) (lCons (dC (.int 2)) lNil))) (lCons (dVar 8) lNil))) (lCons (dOp oIx (dCallP C 30 [1, 0] (lCons (dLst (lCons (dC (.int 1)) lNil)) (lCons (dVar 8) lNil))) (dC (.int 1))) lNil)))))) (tN 9))
  (sSeq (sAsg (dOp oAdd (dVar 10) (dLst (lCons (dC (.bl true)) (lCons (dC (.int 8)) (lCons (dTup (lCons (dTup (lCons (dC (.int 0)) (lCons (dC (.int 5)) lNil))) (lCons (dTup (lCons (dNeg (dC (.int 5))) (lCons (dC (.int 0)) lNil))) lNil))) (lCons (dTup (lCons (dC (.int 1)) (lCons (dC (.int 0)) (lCons (dNeg (dC (.int 4))) (lCons (dNeg (dC (.int 5))) lNil))))) lNil)))))) (tN 10))
  (sSeq (sAsg (dOp oAdd (dVar 9) (dLst (lCons (dOp oIx (dCallP C 31 [3, 2, 1, 0] (lCons (dC (.int 2)) (lCons (dC (.int 1)) (lCons (dC (.int 0)) (lCons (dVar 8) lNil))))) (dC (.int 1))) (lCons (dCallP C 32 [1, 0] (lCons (dC (.int 2)) (lCons (dVar 8) lNil))) (lCons (dVar 5) (lCons (dVar 6) (lCons (dVar 7) (lCons (dVar 8) lNil)))))))) (tN 9))
  (sSeq (sAsg (dOp oAdd (dVar 10) (dLst (lCons (dTup (lCons (dNeg (dC (.int 1))) (lCons (dC (.int 0)) (lCons (dC (.int 8)) (lCons (dC (.int 11)) lNil))))) (lCons (dTup (lCons (dNeg (dC (.int 10))) (lCons (dC (.int 12)) (lCons (dC (.int 0)) (lCons (dC (.int 6)) lNil))))) (lCons (dCall C 49 (lCons (dVar 1) lNil)) (lCons (dB bList (lCons (dVar 2) lNil)) (lCons (dB bList (lCons (dVar 3) lNil)) (lCons (dCall C 49 (lCons (dVar 4) lNil)) lNil)))))))) (tN 10))
  (sRet (dCall C 50 (lCons (dVar 9) (lCons (dVar 10) lNil))))))))))))
def f_law (C : CT) : DS :=
  (sSeq (sIf (tNot (tVal (dCall C 54 lNil))) (sRet (dC (.bl false))) sNil)
  (sSeq (sAsg (dCall C 47 (lCons (dCall C 46 (lCons (dCall C 48 (lCons (dVar 0) (lCons (dC (.int 1)) lNil))) (lCons (dC (.int 0)) lNil))) (lCons (dC (.int 2)) lNil))) (tN 1))
  (sRet (dCallV (noStar [7, 8] C) (dOp oIx (dLst (lCons (dC (.fn 55)) (lCons (dC (.fn 56)) lNil))) (dVar 1)) lNil))))
def tbl (C : CT) : List Fn := [
  ⟨1, 1, f_is_number C⟩,
  ⟨2, 2, f_is_below C⟩,
  ⟨2, 2, f_is_tuple_of C⟩,
  ⟨3, 2, f_is_set_below C⟩,
  ⟨2, 1, f_is_set_from_0 C⟩,
  ⟨3, 1, f_is_ascending C⟩,
  ⟨3, 2, f_as_tuples C⟩,
  ⟨2, 1, f_check_numbers C⟩,
  ⟨2, 1, f_check_from_0 C⟩,
  ⟨3, 2, f_are_bits C⟩,
  ⟨1, 1, f_is_skin C⟩,
  ⟨2, 1, f_fit_skin C⟩,
  ⟨2, 1, f_has_skin_form C⟩,
  ⟨3, 2, f_is_field_row C⟩,
  ⟨2, 2, f_is_crossing_below C⟩,
  ⟨6, 1, f_is_sewn_back C⟩,
  ⟨6, 1, f_hangs_together C⟩,
  ⟨5, 1, f_lesser_crossings C⟩,
  ⟨3, 1, f_joined_fields C⟩,
  ⟨2, 2, f_is_lot_of_edges C⟩,
  ⟨3, 2, f_fit_arrows C⟩,
  ⟨2, 2, f_are_arrows_of C⟩,
  ⟨3, 2, f_fit_pairing C⟩,
  ⟨5, 2, f_is_pairing_of C⟩,
  ⟨7, 3, f_worth_of C⟩,
  ⟨5, 3, f_sign_of C⟩,
  ⟨5, 3, f_signed_table C⟩,
  ⟨5, 1, f_is_signed_table C⟩,
  ⟨1, 1, f_paired_sum C⟩,
  ⟨4, 2, f_struck C⟩,
  ⟨9, 2, f_turned_table C⟩,
  ⟨9, 4, f_row_added C⟩,
  ⟨4, 2, f_sum_by_pairs C⟩,
  ⟨3, 2, f_fit_worths C⟩,
  ⟨2, 1, f_fit_signed_table C⟩,
  ⟨2, 1, f_fit_row_numbers C⟩,
  ⟨3, 2, f_check_rows C⟩,
  ⟨3, 2, f_is_row_of_numbers C⟩,
  ⟨2, 2, f_are_worths_of C⟩,
  ⟨10, 3, f_pairing_sign C⟩,
  ⟨11, 3, f_table_by_arrows C⟩,
  ⟨5, 2, f_without_rows C⟩,
  ⟨8, 1, f_sum_over_pairs C⟩,
  ⟨6, 3, f_with_exchanged C⟩,
  ⟨8, 2, f_two_rows_less C⟩,
  ⟨6, 3, f_sum_with_pair C⟩,
  ⟨3, 2, f_law_box C⟩,
  ⟨6, 2, f_law_take C⟩,
  ⟨6, 2, f_law_cells C⟩,
  ⟨2, 1, f_law_lists C⟩,
  ⟨4, 2, f_law_same C⟩,
  ⟨10, 2, f_law_square C⟩,
  ⟨2, 0, f_law_told_skins C⟩,
  ⟨3, 2, f_law_heard C⟩,
  ⟨9, 0, f_law_always_right C⟩,
  ⟨13, 0, f_law_refused_right C⟩,
  ⟨11, 0, f_law_names_right C⟩,
  ⟨2, 1, f_law C⟩]
def P (C : CT) (f : Nat) : Option Fn := nth (tbl C) f
def idx : List (Nat × String) := [(0, "is_number"), (1, "is_below"), (2, "is_tuple_of"), (3, "is_set_below"), (4, "is_set_from_0"), (5, "is_ascending"), (6, "as_tuples"), (7, "check_numbers"), (8, "check_from_0"), (9, "are_bits"), (10, "is_skin"), (11, "fit_skin"), (12, "has_skin_form"), (13, "is_field_row"), (14, "is_crossing_below"), (15, "is_sewn_back"), (16, "hangs_together"), (17, "lesser_crossings"), (18, "joined_fields"), (19, "is_lot_of_edges"), (20, "fit_arrows"), (21, "are_arrows_of"), (22, "fit_pairing"), (23, "is_pairing_of"), (24, "worth_of"), (25, "sign_of"), (26, "signed_table"), (27, "is_signed_table"), (28, "paired_sum"), (29, "struck"), (30, "turned_table"), (31, "row_added"), (32, "sum_by_pairs"), (33, "fit_worths"), (34, "fit_signed_table"), (35, "fit_row_numbers"), (36, "check_rows"), (37, "is_row_of_numbers"), (38, "are_worths_of"), (39, "pairing_sign"), (40, "table_by_arrows"), (41, "without_rows"), (42, "sum_over_pairs"), (43, "with_exchanged"), (44, "two_rows_less"), (45, "sum_with_pair"), (46, "_law_box"), (47, "_law_take"), (48, "_law_cells"), (49, "_law_lists"), (50, "_law_same"), (51, "_law_square"), (52, "_law_told_skins"), (53, "_law_heard"), (54, "_law_always_right"), (55, "_law_refused_right"), (56, "_law_names_right"), (57, "law")]
end Law

set_option Elab.async false
set_option linter.all false
set_option maxRecDepth 100000
set_option maxHeartbeats 0
namespace Law
open PW
abbrev Prr : CT → Nat → Option Fn := fun C f => nth (tbl C) f
theorem ev1 (t : HT) : ob3 (callN Prr 39 54 [] ⟨1, t⟩) = (true, 18, t.top) := by kernel_rfl
theorem pa0 (t : HT) : isT (callN Prr 39 55 [] ⟨23, t⟩) = true := by kernel_rfl
theorem pa1 (t : HT) : isT (callN Prr 39 56 [] ⟨23, t⟩) = true := by kernel_rfl
theorem pan (t : HT) : isT (callN Prr 39 55 [] ⟨24, t⟩) = true := by kernel_rfl
end Law

set_option Elab.async false
set_option linter.all false
set_option maxRecDepth 100000
set_option maxHeartbeats 0
namespace Law
open PySem PySem.Spec PyProof.Rows L2 PW
def top (i : Nat) : Stmt := PySem.Challenge.pw_handlepairs_k34_tables_by_hand_and_refus.main.body.getD i (.Pass ⟨0, 0, 0, 0⟩)
/-- what the names stand for -/
structure Fx (M : Amb) (G : G0) : Prop where
  g_abs : M.mg "abs" = none
  g_all : M.mg "all" = none
  g_bool : M.mg "bool" = none
  g_enumerate : M.mg "enumerate" = none
  g_int : M.mg "int" = none
  g_isinstance : M.mg "isinstance" = none
  g_len : M.mg "len" = none
  g_list : M.mg "list" = none
  g_max : M.mg "max" = none
  g_min : M.mg "min" = none
  g_range : M.mg "range" = none
  g_sorted : M.mg "sorted" = none
  g_str : M.mg "str" = none
  g_tuple : M.mg "tuple" = none
  g_zip : M.mg "zip" = none
  c_SIDES : ∃ t, M.mg "SIDES" = some (.int 4 t)
  m0 : M.mg "NoField" = some (.ref (G.cad 0))
  k0 : ExcK M.K (G.cad 0)
  i0_LookupError : PySem.W.kitOne M.K (.ref (G.cad 0)) (.type "LookupError") = some true
  x0 : ErrA M G 0 "NoField" "field"
  m1 : M.mg "Unfit" = some (.ref (G.cad 1))
  k1 : ExcK M.K (G.cad 1)
  i1_ValueError : PySem.W.kitOne M.K (.ref (G.cad 1)) (.type "ValueError") = some true
  x1 : Err0 M G 1 "Unfit"
  g_LookupError : M.mg "LookupError" = none
  g_ValueError : M.mg "ValueError" = none
  exm : ∀ i j, i < 2 → j < 2 → PySem.W.exmOne M.K (.ref (G.cad i)) (.ref (G.cad j)) = some (Nat.beq j i)
def rows : List (Option (Str × Stmt × List Str)) := [
  some (("is_number" : Str), top 4, (["thing"] : List Str)),
  some (("is_below" : Str), top 5, (["thing", "many"] : List Str)),
  some (("is_tuple_of" : Str), top 6, (["thing", "many"] : List Str)),
  some (("is_set_below" : Str), top 7, (["thing", "many"] : List Str)),
  some (("is_set_from_0" : Str), top 8, (["thing"] : List Str)),
  some (("is_ascending" : Str), top 9, (["parts"] : List Str)),
  some (("as_tuples" : Str), top 10, (["value", "depth"] : List Str)),
  none,
  none,
  some (("are_bits" : Str), top 14, (["thing", "many"] : List Str)),
  some (("is_skin" : Str), top 17, (["thing"] : List Str)),
  some (("fit_skin" : Str), top 18, (["skin"] : List Str)),
  some (("has_skin_form" : Str), top 19, (["thing"] : List Str)),
  some (("is_field_row" : Str), top 20, (["thing", "many"] : List Str)),
  some (("is_crossing_below" : Str), top 21, (["thing", "many"] : List Str)),
  some (("is_sewn_back" : Str), top 22, (["rows"] : List Str)),
  some (("hangs_together" : Str), top 23, (["rows"] : List Str)),
  some (("lesser_crossings" : Str), top 24, (["skin"] : List Str)),
  some (("joined_fields" : Str), top 25, (["skin"] : List Str)),
  some (("is_lot_of_edges" : Str), top 27, (["skin", "thing"] : List Str)),
  some (("fit_arrows" : Str), top 29, (["skin", "arrows"] : List Str)),
  some (("are_arrows_of" : Str), top 30, (["skin", "thing"] : List Str)),
  some (("fit_pairing" : Str), top 32, (["skin", "pairing"] : List Str)),
  some (("is_pairing_of" : Str), top 33, (["skin", "thing"] : List Str)),
  some (("worth_of" : Str), top 35, (["skin", "worths", "pairing"] : List Str)),
  some (("sign_of" : Str), top 36, (["skin", "arrows", "pairing"] : List Str)),
  some (("signed_table" : Str), top 37, (["skin", "arrows", "worths"] : List Str)),
  some (("is_signed_table" : Str), top 38, (["thing"] : List Str)),
  some (("paired_sum" : Str), top 39, (["table"] : List Str)),
  some (("struck" : Str), top 40, (["table", "fields"] : List Str)),
  some (("turned_table" : Str), top 41, (["table", "fields"] : List Str)),
  some (("row_added" : Str), top 42, (["table", "field", "other", "number"] : List Str)),
  some (("sum_by_pairs" : Str), top 43, (["table", "field"] : List Str)),
  some (("fit_worths" : Str), top 44, (["skin", "worths"] : List Str)),
  some (("fit_signed_table" : Str), top 45, (["table"] : List Str)),
  some (("fit_row_numbers" : Str), top 46, (["fields"] : List Str)),
  some (("check_rows" : Str), top 47, (["table", "fields"] : List Str)),
  some (("is_row_of_numbers" : Str), top 48, (["thing", "many"] : List Str)),
  some (("are_worths_of" : Str), top 49, (["skin", "thing"] : List Str)),
  some (("pairing_sign" : Str), top 50, (["skin", "arrows", "pairing"] : List Str)),
  some (("table_by_arrows" : Str), top 51, (["skin", "arrows", "worths"] : List Str)),
  some (("without_rows" : Str), top 52, (["table", "fields"] : List Str)),
  some (("sum_over_pairs" : Str), top 53, (["table"] : List Str)),
  some (("with_exchanged" : Str), top 54, (["table", "one", "other"] : List Str)),
  some (("two_rows_less" : Str), top 55, (["table", "divisor"] : List Str)),
  some (("sum_with_pair" : Str), top 56, (["table", "one", "other"] : List Str)),
  some (("_law_box" : Str), top 58, (["script", "k"] : List Str)),
  some (("_law_take" : Str), top 59, (["tin", "below_so"] : List Str)),
  some (("_law_cells" : Str), top 60, (["script", "most_so"] : List Str)),
  some (("_law_lists" : Str), top 61, (["matter"] : List Str)),
  some (("_law_same" : Str), top 62, (["got", "due"] : List Str)),
  some (("_law_square" : Str), top 63, (["wide_so", "high_so"] : List Str)),
  some (("_law_told_skins" : Str), top 64, ([] : List Str)),
  some (("_law_heard" : Str), top 65, (["door_so", "parts_so"] : List Str)),
  some (("_law_always_right" : Str), top 66, ([] : List Str)),
  some (("_law_refused_right" : Str), top 67, ([] : List Str)),
  some (("_law_names_right" : Str), top 68, ([] : List Str)),
  some (("law" : Str), top 69, (["script"] : List Str))]
def Tab (M : Amb) (G : G0) (c : CT) : Prop := ∀ (i : Nat) (x : Str) (st : Stmt) (ps : List Str), rows[i]? = some (some (x, st, ps)) → Callee M G c i x st ps
def TabV (M : Amb) (G : G0) (c : CT) : Prop := ∀ i : Nat, (∀ ws h, c i ws h = .bad) ∨ ∃ x st ps, Callee M G c i x st ps ∧ BindP x st ps
def TabS (M : Amb) (G : G0) (c : CT) : Prop := CalleeS M G c 7 "check_numbers" ∧ CalleeS M G c 8 "check_from_0"
theorem bp_0 : BindP "is_number" (top 4) ["thing"] := fun _ _ _ _ _ _ us hl => match us, hl with | [_], _ => rfl
theorem bp_1 : BindP "is_below" (top 5) ["thing", "many"] := fun _ _ _ _ _ _ us hl => match us, hl with | [_, _], _ => rfl
theorem bp_2 : BindP "is_tuple_of" (top 6) ["thing", "many"] := fun _ _ _ _ _ _ us hl => match us, hl with | [_, _], _ => rfl
theorem bp_3 : BindP "is_set_below" (top 7) ["thing", "many"] := fun _ _ _ _ _ _ us hl => match us, hl with | [_, _], _ => rfl
theorem bp_4 : BindP "is_set_from_0" (top 8) ["thing"] := fun _ _ _ _ _ _ us hl => match us, hl with | [_], _ => rfl
theorem bp_5 : BindP "is_ascending" (top 9) ["parts"] := fun _ _ _ _ _ _ us hl => match us, hl with | [_], _ => rfl
theorem bp_6 : BindP "as_tuples" (top 10) ["value", "depth"] := fun _ _ _ _ _ _ us hl => match us, hl with | [_, _], _ => rfl
theorem bp_9 : BindP "are_bits" (top 14) ["thing", "many"] := fun _ _ _ _ _ _ us hl => match us, hl with | [_, _], _ => rfl
theorem bp_10 : BindP "is_skin" (top 17) ["thing"] := fun _ _ _ _ _ _ us hl => match us, hl with | [_], _ => rfl
theorem bp_11 : BindP "fit_skin" (top 18) ["skin"] := fun _ _ _ _ _ _ us hl => match us, hl with | [_], _ => rfl
theorem bp_12 : BindP "has_skin_form" (top 19) ["thing"] := fun _ _ _ _ _ _ us hl => match us, hl with | [_], _ => rfl
theorem bp_13 : BindP "is_field_row" (top 20) ["thing", "many"] := fun _ _ _ _ _ _ us hl => match us, hl with | [_, _], _ => rfl
theorem bp_14 : BindP "is_crossing_below" (top 21) ["thing", "many"] := fun _ _ _ _ _ _ us hl => match us, hl with | [_, _], _ => rfl
theorem bp_15 : BindP "is_sewn_back" (top 22) ["rows"] := fun _ _ _ _ _ _ us hl => match us, hl with | [_], _ => rfl
theorem bp_16 : BindP "hangs_together" (top 23) ["rows"] := fun _ _ _ _ _ _ us hl => match us, hl with | [_], _ => rfl
theorem bp_17 : BindP "lesser_crossings" (top 24) ["skin"] := fun _ _ _ _ _ _ us hl => match us, hl with | [_], _ => rfl
theorem bp_18 : BindP "joined_fields" (top 25) ["skin"] := fun _ _ _ _ _ _ us hl => match us, hl with | [_], _ => rfl
theorem bp_19 : BindP "is_lot_of_edges" (top 27) ["skin", "thing"] := fun _ _ _ _ _ _ us hl => match us, hl with | [_, _], _ => rfl
theorem bp_20 : BindP "fit_arrows" (top 29) ["skin", "arrows"] := fun _ _ _ _ _ _ us hl => match us, hl with | [_, _], _ => rfl
theorem bp_21 : BindP "are_arrows_of" (top 30) ["skin", "thing"] := fun _ _ _ _ _ _ us hl => match us, hl with | [_, _], _ => rfl
theorem bp_22 : BindP "fit_pairing" (top 32) ["skin", "pairing"] := fun _ _ _ _ _ _ us hl => match us, hl with | [_, _], _ => rfl
theorem bp_23 : BindP "is_pairing_of" (top 33) ["skin", "thing"] := fun _ _ _ _ _ _ us hl => match us, hl with | [_, _], _ => rfl
theorem bp_24 : BindP "worth_of" (top 35) ["skin", "worths", "pairing"] := fun _ _ _ _ _ _ us hl => match us, hl with | [_, _, _], _ => rfl
theorem bp_25 : BindP "sign_of" (top 36) ["skin", "arrows", "pairing"] := fun _ _ _ _ _ _ us hl => match us, hl with | [_, _, _], _ => rfl
theorem bp_26 : BindP "signed_table" (top 37) ["skin", "arrows", "worths"] := fun _ _ _ _ _ _ us hl => match us, hl with | [_, _, _], _ => rfl
theorem bp_27 : BindP "is_signed_table" (top 38) ["thing"] := fun _ _ _ _ _ _ us hl => match us, hl with | [_], _ => rfl
theorem bp_28 : BindP "paired_sum" (top 39) ["table"] := fun _ _ _ _ _ _ us hl => match us, hl with | [_], _ => rfl
theorem bp_29 : BindP "struck" (top 40) ["table", "fields"] := fun _ _ _ _ _ _ us hl => match us, hl with | [_, _], _ => rfl
theorem bp_30 : BindP "turned_table" (top 41) ["table", "fields"] := fun _ _ _ _ _ _ us hl => match us, hl with | [_, _], _ => rfl
theorem bp_31 : BindP "row_added" (top 42) ["table", "field", "other", "number"] := fun _ _ _ _ _ _ us hl => match us, hl with | [_, _, _, _], _ => rfl
theorem bp_32 : BindP "sum_by_pairs" (top 43) ["table", "field"] := fun _ _ _ _ _ _ us hl => match us, hl with | [_, _], _ => rfl
theorem bp_33 : BindP "fit_worths" (top 44) ["skin", "worths"] := fun _ _ _ _ _ _ us hl => match us, hl with | [_, _], _ => rfl
theorem bp_34 : BindP "fit_signed_table" (top 45) ["table"] := fun _ _ _ _ _ _ us hl => match us, hl with | [_], _ => rfl
theorem bp_35 : BindP "fit_row_numbers" (top 46) ["fields"] := fun _ _ _ _ _ _ us hl => match us, hl with | [_], _ => rfl
theorem bp_36 : BindP "check_rows" (top 47) ["table", "fields"] := fun _ _ _ _ _ _ us hl => match us, hl with | [_, _], _ => rfl
theorem bp_37 : BindP "is_row_of_numbers" (top 48) ["thing", "many"] := fun _ _ _ _ _ _ us hl => match us, hl with | [_, _], _ => rfl
theorem bp_38 : BindP "are_worths_of" (top 49) ["skin", "thing"] := fun _ _ _ _ _ _ us hl => match us, hl with | [_, _], _ => rfl
theorem bp_39 : BindP "pairing_sign" (top 50) ["skin", "arrows", "pairing"] := fun _ _ _ _ _ _ us hl => match us, hl with | [_, _, _], _ => rfl
theorem bp_40 : BindP "table_by_arrows" (top 51) ["skin", "arrows", "worths"] := fun _ _ _ _ _ _ us hl => match us, hl with | [_, _, _], _ => rfl
theorem bp_41 : BindP "without_rows" (top 52) ["table", "fields"] := fun _ _ _ _ _ _ us hl => match us, hl with | [_, _], _ => rfl
theorem bp_42 : BindP "sum_over_pairs" (top 53) ["table"] := fun _ _ _ _ _ _ us hl => match us, hl with | [_], _ => rfl
theorem bp_43 : BindP "with_exchanged" (top 54) ["table", "one", "other"] := fun _ _ _ _ _ _ us hl => match us, hl with | [_, _, _], _ => rfl
theorem bp_44 : BindP "two_rows_less" (top 55) ["table", "divisor"] := fun _ _ _ _ _ _ us hl => match us, hl with | [_, _], _ => rfl
theorem bp_45 : BindP "sum_with_pair" (top 56) ["table", "one", "other"] := fun _ _ _ _ _ _ us hl => match us, hl with | [_, _, _], _ => rfl
theorem bp_46 : BindP "_law_box" (top 58) ["script", "k"] := fun _ _ _ _ _ _ us hl => match us, hl with | [_, _], _ => rfl
theorem bp_47 : BindP "_law_take" (top 59) ["tin", "below_so"] := fun _ _ _ _ _ _ us hl => match us, hl with | [_, _], _ => rfl
theorem bp_48 : BindP "_law_cells" (top 60) ["script", "most_so"] := fun _ _ _ _ _ _ us hl => match us, hl with | [_, _], _ => rfl
theorem bp_49 : BindP "_law_lists" (top 61) ["matter"] := fun _ _ _ _ _ _ us hl => match us, hl with | [_], _ => rfl
theorem bp_50 : BindP "_law_same" (top 62) ["got", "due"] := fun _ _ _ _ _ _ us hl => match us, hl with | [_, _], _ => rfl
theorem bp_51 : BindP "_law_square" (top 63) ["wide_so", "high_so"] := fun _ _ _ _ _ _ us hl => match us, hl with | [_, _], _ => rfl
theorem bp_52 : BindP "_law_told_skins" (top 64) [] := fun _ _ _ _ _ _ us hl => match us, hl with | [], _ => rfl
theorem bp_53 : BindP "_law_heard" (top 65) ["door_so", "parts_so"] := fun _ _ _ _ _ _ us hl => match us, hl with | [_, _], _ => rfl
theorem bp_54 : BindP "_law_always_right" (top 66) [] := fun _ _ _ _ _ _ us hl => match us, hl with | [], _ => rfl
theorem bp_55 : BindP "_law_refused_right" (top 67) [] := fun _ _ _ _ _ _ us hl => match us, hl with | [], _ => rfl
theorem bp_56 : BindP "_law_names_right" (top 68) [] := fun _ _ _ _ _ _ us hl => match us, hl with | [], _ => rfl
theorem bp_57 : BindP "law" (top 69) ["script"] := fun _ _ _ _ _ _ us hl => match us, hl with | [_], _ => rfl
theorem bk_0 : BindK "signed_table" (top 37) ["skin", "arrows", "worths"] 0 ["worths", "arrows", "skin"] [2, 1, 0] := fun _ _ _ _ _ _ us ws hu hw => match us, ws, hu, hw with | [], [_, _, _], _, _ => ⟨_, rfl, rfl⟩
theorem bk_1 : BindK "worth_of" (top 35) ["skin", "worths", "pairing"] 0 ["pairing", "worths", "skin"] [2, 1, 0] := fun _ _ _ _ _ _ us ws hu hw => match us, ws, hu, hw with | [], [_, _, _], _, _ => ⟨_, rfl, rfl⟩
theorem bk_2 : BindK "sign_of" (top 36) ["skin", "arrows", "pairing"] 0 ["pairing", "arrows", "skin"] [2, 1, 0] := fun _ _ _ _ _ _ us ws hu hw => match us, ws, hu, hw with | [], [_, _, _], _, _ => ⟨_, rfl, rfl⟩
theorem bk_3 : BindK "turned_table" (top 41) ["table", "fields"] 0 ["fields", "table"] [1, 0] := fun _ _ _ _ _ _ us ws hu hw => match us, ws, hu, hw with | [], [_, _], _, _ => ⟨_, rfl, rfl⟩
theorem bk_4 : BindK "struck" (top 40) ["table", "fields"] 0 ["fields", "table"] [1, 0] := fun _ _ _ _ _ _ us ws hu hw => match us, ws, hu, hw with | [], [_, _], _, _ => ⟨_, rfl, rfl⟩
theorem bk_5 : BindK "paired_sum" (top 39) ["table"] 0 ["table"] [0] := fun _ _ _ _ _ _ us ws hu hw => match us, ws, hu, hw with | [], [_], _, _ => ⟨_, rfl, rfl⟩
theorem bk_6 : BindK "is_signed_table" (top 38) ["thing"] 0 ["thing"] [0] := fun _ _ _ _ _ _ us ws hu hw => match us, ws, hu, hw with | [], [_], _, _ => ⟨_, rfl, rfl⟩
theorem bk_7 : BindK "sum_by_pairs" (top 43) ["table", "field"] 0 ["field", "table"] [1, 0] := fun _ _ _ _ _ _ us ws hu hw => match us, ws, hu, hw with | [], [_, _], _, _ => ⟨_, rfl, rfl⟩
theorem bk_8 : BindK "row_added" (top 42) ["table", "field", "other", "number"] 0 ["number", "other", "field", "table"] [3, 2, 1, 0] := fun _ _ _ _ _ _ us ws hu hw => match us, ws, hu, hw with | [], [_, _, _, _], _, _ => ⟨_, rfl, rfl⟩
section
variable {P : Program} {w : World} {K : PySem.W.Frag} {mg : Str → Option Value} {base : Heap} {G : G0} {c : CT} {cdv : Value} {A : Around} {outer : List Env} {s : Shared} {H : Hp} {E : XK} {f : Addr}
theorem b_0 (C : Cs (cxOf (L2.CX P w) P w K mg base ["thing"] "is_number" (defScope (top 4)) f cdv A outer s H E) (fun cls d _ H => E cls d H)) (F : Fx (amb (cxOf (L2.CX P w) P w K mg base ["thing"] "is_number" (defScope (top 4)) f cdv A outer s H E)) G) (T : Tab (amb (cxOf (L2.CX P w) P w K mg base ["thing"] "is_number" (defScope (top 4)) f cdv A outer s H E)) G c) (TV : TabV (amb (cxOf (L2.CX P w) P w K mg base ["thing"] "is_number" (defScope (top 4)) f cdv A outer s H E)) G (noStar [7, 8] c)) (TS : TabS (amb (cxOf (L2.CX P w) P w K mg base ["thing"] "is_number" (defScope (top 4)) f cdv A outer s H E)) G c) : SSs (cxOf (L2.CX P w) P w K mg base ["thing"] "is_number" (defScope (top 4)) f cdv A outer s H E) G [] (fun cls d _ H => E cls d H) (defBody (top 4)) (f_is_number c) :=
  (ss_one (ss_ret (se_And (se_bIs F.g_isinstance (sl_cons (se_var 0) (sl_cons (se_ty "int" F.g_int PyProof.Rows.boot_int) sl_nil))) (se_one (se_not (se_bIs F.g_isinstance (sl_cons (se_var 0) (sl_cons (se_ty "bool" F.g_bool PyProof.Rows.boot_bool) sl_nil))))))))
theorem b_1 (C : Cs (cxOf (L2.CX P w) P w K mg base ["thing", "many"] "is_below" (defScope (top 5)) f cdv A outer s H E) (fun cls d _ H => E cls d H)) (F : Fx (amb (cxOf (L2.CX P w) P w K mg base ["thing", "many"] "is_below" (defScope (top 5)) f cdv A outer s H E)) G) (T : Tab (amb (cxOf (L2.CX P w) P w K mg base ["thing", "many"] "is_below" (defScope (top 5)) f cdv A outer s H E)) G c) (TV : TabV (amb (cxOf (L2.CX P w) P w K mg base ["thing", "many"] "is_below" (defScope (top 5)) f cdv A outer s H E)) G (noStar [7, 8] c)) (TS : TabS (amb (cxOf (L2.CX P w) P w K mg base ["thing", "many"] "is_below" (defScope (top 5)) f cdv A outer s H E)) G c) : SSs (cxOf (L2.CX P w) P w K mg base ["thing", "many"] "is_below" (defScope (top 5)) f cdv A outer s H E) G [] (fun cls d _ H => E cls d H) (defBody (top 5)) (f_is_below c) :=
  (ss_one (ss_ret (se_And (se_call C (T 0 _ _ _ rfl) bp_0 (sl_cons (se_var 0) sl_nil)) (se_one (se_chain osLe (osLt C) se_int (se_var 0) (se_var 1))))))
theorem b_2 (C : Cs (cxOf (L2.CX P w) P w K mg base ["thing", "many"] "is_tuple_of" (defScope (top 6)) f cdv A outer s H E) (fun cls d _ H => E cls d H)) (F : Fx (amb (cxOf (L2.CX P w) P w K mg base ["thing", "many"] "is_tuple_of" (defScope (top 6)) f cdv A outer s H E)) G) (T : Tab (amb (cxOf (L2.CX P w) P w K mg base ["thing", "many"] "is_tuple_of" (defScope (top 6)) f cdv A outer s H E)) G c) (TV : TabV (amb (cxOf (L2.CX P w) P w K mg base ["thing", "many"] "is_tuple_of" (defScope (top 6)) f cdv A outer s H E)) G (noStar [7, 8] c)) (TS : TabS (amb (cxOf (L2.CX P w) P w K mg base ["thing", "many"] "is_tuple_of" (defScope (top 6)) f cdv A outer s H E)) G c) : SSs (cxOf (L2.CX P w) P w K mg base ["thing", "many"] "is_tuple_of" (defScope (top 6)) f cdv A outer s H E) G [] (fun cls d _ H => E cls d H) (defBody (top 6)) (f_is_tuple_of c) :=
  (ss_one (ss_ret (se_And (se_bIs F.g_isinstance (sl_cons (se_var 0) (sl_cons (se_ty "tuple" F.g_tuple PyProof.Rows.boot_tuple) sl_nil))) (se_one (se_cmp (osEq C) (se_bLen F.g_len (sl_cons (se_var 0) sl_nil)) (se_var 1))))))
theorem b_3 (C : Cs (cxOf (L2.CX P w) P w K mg base ["thing", "many", "part"] "is_set_below" (defScope (top 7)) f cdv A outer s H E) (fun cls d _ H => E cls d H)) (F : Fx (amb (cxOf (L2.CX P w) P w K mg base ["thing", "many", "part"] "is_set_below" (defScope (top 7)) f cdv A outer s H E)) G) (T : Tab (amb (cxOf (L2.CX P w) P w K mg base ["thing", "many", "part"] "is_set_below" (defScope (top 7)) f cdv A outer s H E)) G c) (TV : TabV (amb (cxOf (L2.CX P w) P w K mg base ["thing", "many", "part"] "is_set_below" (defScope (top 7)) f cdv A outer s H E)) G (noStar [7, 8] c)) (TS : TabS (amb (cxOf (L2.CX P w) P w K mg base ["thing", "many", "part"] "is_set_below" (defScope (top 7)) f cdv A outer s H E)) G c) : SSs (cxOf (L2.CX P w) P w K mg base ["thing", "many", "part"] "is_set_below" (defScope (top 7)) f cdv A outer s H E) G [] (fun cls d _ H => E cls d H) (defBody (top 7)) (f_is_set_below c) :=
  (ss_one (ss_ret (se_And (se_call C (T 4 _ _ _ rfl) bp_4 (sl_cons (se_var 0) sl_nil)) (se_one (se_call_all C F.g_all (sc_lc C (own := [("part", 2)]) (si_val (se_var 0)) (fun _ _ _ _ _ => (sg_n 2 (C.blk _ _ _ _ _))) (fun _ _ _ _ _ => sts_nil) (fun _ _ _ _ _ => (se_cmp (osLt (C.blk _ _ _ _ _)) (se_var 2) (se_var 1)))))))))
theorem b_4 (C : Cs (cxOf (L2.CX P w) P w K mg base ["thing", "part"] "is_set_from_0" (defScope (top 8)) f cdv A outer s H E) (fun cls d _ H => E cls d H)) (F : Fx (amb (cxOf (L2.CX P w) P w K mg base ["thing", "part"] "is_set_from_0" (defScope (top 8)) f cdv A outer s H E)) G) (T : Tab (amb (cxOf (L2.CX P w) P w K mg base ["thing", "part"] "is_set_from_0" (defScope (top 8)) f cdv A outer s H E)) G c) (TV : TabV (amb (cxOf (L2.CX P w) P w K mg base ["thing", "part"] "is_set_from_0" (defScope (top 8)) f cdv A outer s H E)) G (noStar [7, 8] c)) (TS : TabS (amb (cxOf (L2.CX P w) P w K mg base ["thing", "part"] "is_set_from_0" (defScope (top 8)) f cdv A outer s H E)) G c) : SSs (cxOf (L2.CX P w) P w K mg base ["thing", "part"] "is_set_from_0" (defScope (top 8)) f cdv A outer s H E) G [] (fun cls d _ H => E cls d H) (defBody (top 8)) (f_is_set_from_0 c) :=
  (ss_cons (ss_if (st_w (sw_Or (st_not (st_val (se_bIs F.g_isinstance (sl_cons (se_var 0) (sl_cons (se_ty "tuple" F.g_tuple PyProof.Rows.boot_tuple) sl_nil))))) (sw_Or1 (st_not (st_val (se_call_all C F.g_all (sc_lc C (own := [("part", 1)]) (si_val (se_var 0)) (fun _ _ _ _ _ => (sg_n 1 (C.blk _ _ _ _ _))) (fun _ _ _ _ _ => sts_nil) (fun _ _ _ _ _ => (se_And (se_call (C.blk _ _ _ _ _) (T 0 _ _ _ rfl) bp_0 (sl_cons (se_var 1) sl_nil)) (se_one (se_cmp osGe (se_var 1) se_int))))))))))) (ss_one (ss_ret se_bl)) ss_nil)
  (ss_one (ss_ret (se_call C (T 5 _ _ _ rfl) bp_5 (sl_cons (se_var 0) sl_nil)))))
theorem b_5 (C : Cs (cxOf (L2.CX P w) P w K mg base ["parts", "one", "other"] "is_ascending" (defScope (top 9)) f cdv A outer s H E) (fun cls d _ H => E cls d H)) (F : Fx (amb (cxOf (L2.CX P w) P w K mg base ["parts", "one", "other"] "is_ascending" (defScope (top 9)) f cdv A outer s H E)) G) (T : Tab (amb (cxOf (L2.CX P w) P w K mg base ["parts", "one", "other"] "is_ascending" (defScope (top 9)) f cdv A outer s H E)) G c) (TV : TabV (amb (cxOf (L2.CX P w) P w K mg base ["parts", "one", "other"] "is_ascending" (defScope (top 9)) f cdv A outer s H E)) G (noStar [7, 8] c)) (TS : TabS (amb (cxOf (L2.CX P w) P w K mg base ["parts", "one", "other"] "is_ascending" (defScope (top 9)) f cdv A outer s H E)) G c) : SSs (cxOf (L2.CX P w) P w K mg base ["parts", "one", "other"] "is_ascending" (defScope (top 9)) f cdv A outer s H E) G [] (fun cls d _ H => E cls d H) (defBody (top 9)) (f_is_ascending c) :=
  (ss_one (ss_ret (se_call_all C F.g_all (sc_lc C (own := [("one", 1), ("other", 2)]) (si_zipB F.g_zip (se_var 0) (se_sl (se_var 0) (so_some se_int) so_none)) (fun _ _ _ _ _ => (sg_t (C.blk _ _ _ _ _) (sgl_cons (sg_n 1 (C.blk _ _ _ _ _)) (sgl_cons (sg_n 2 (C.blk _ _ _ _ _)) sgl_nil)))) (fun _ _ _ _ _ => sts_nil) (fun _ _ _ _ _ => (se_cmp (osLt (C.blk _ _ _ _ _)) (se_var 1) (se_var 2)))))))
theorem b_6 (C : Cs (cxOf (L2.CX P w) P w K mg base ["value", "depth", "part"] "as_tuples" (defScope (top 10)) f cdv A outer s H E) (fun cls d _ H => E cls d H)) (F : Fx (amb (cxOf (L2.CX P w) P w K mg base ["value", "depth", "part"] "as_tuples" (defScope (top 10)) f cdv A outer s H E)) G) (T : Tab (amb (cxOf (L2.CX P w) P w K mg base ["value", "depth", "part"] "as_tuples" (defScope (top 10)) f cdv A outer s H E)) G c) (TV : TabV (amb (cxOf (L2.CX P w) P w K mg base ["value", "depth", "part"] "as_tuples" (defScope (top 10)) f cdv A outer s H E)) G (noStar [7, 8] c)) (TS : TabS (amb (cxOf (L2.CX P w) P w K mg base ["value", "depth", "part"] "as_tuples" (defScope (top 10)) f cdv A outer s H E)) G c) : SSs (cxOf (L2.CX P w) P w K mg base ["value", "depth", "part"] "as_tuples" (defScope (top 10)) f cdv A outer s H E) G [] (fun cls d _ H => E cls d H) (defBody (top 10)) (f_as_tuples c) :=
  (ss_cons (ss_if (st_w (sw_Or (st_cmp (osEq C) (se_var 1) se_int) (sw_Or1 (st_not (st_val (se_bIs F.g_isinstance (sl_cons (se_var 0) (sl_cons (se_tup (sl_cons (se_ty "list" F.g_list PyProof.Rows.boot_list) (sl_cons (se_ty "tuple" F.g_tuple PyProof.Rows.boot_tuple) sl_nil))) sl_nil)))))))) (ss_one (ss_ret (se_var 0))) ss_nil)
  (ss_one (ss_ret (se_ctup F.g_tuple (sc_lc C (own := [("part", 2)]) (si_val (se_var 0)) (fun _ _ _ _ _ => (sg_n 2 (C.blk _ _ _ _ _))) (fun _ _ _ _ _ => sts_nil) (fun _ _ _ _ _ => (se_call (C.blk _ _ _ _ _) (T 6 _ _ _ rfl) bp_6 (sl_cons (se_var 2) (sl_cons (se_op osSub (se_var 1) se_int) sl_nil)))))))))
theorem b_7 (C : Cs (cxOf (L2.CX P w) P w K mg base ["things", "thing"] "check_numbers" (defScope (top 11)) f cdv A outer s H E) (fun cls d _ H => E cls d H)) (F : Fx (amb (cxOf (L2.CX P w) P w K mg base ["things", "thing"] "check_numbers" (defScope (top 11)) f cdv A outer s H E)) G) (T : Tab (amb (cxOf (L2.CX P w) P w K mg base ["things", "thing"] "check_numbers" (defScope (top 11)) f cdv A outer s H E)) G c) (TV : TabV (amb (cxOf (L2.CX P w) P w K mg base ["things", "thing"] "check_numbers" (defScope (top 11)) f cdv A outer s H E)) G (noStar [7, 8] c)) (TS : TabS (amb (cxOf (L2.CX P w) P w K mg base ["things", "thing"] "check_numbers" (defScope (top 11)) f cdv A outer s H E)) G c) : SSs (cxOf (L2.CX P w) P w K mg base ["things", "thing"] "check_numbers" (defScope (top 11)) f cdv A outer s H E) G [] (fun cls d _ H => E cls d H) (defBody (top 11)) (f_check_numbers c) :=
  (ss_one (ss_if (st_not (st_val (se_call_all C F.g_all (sc_lc C (own := [("thing", 1)]) (si_val (se_var 0)) (fun _ _ _ _ _ => (sg_n 1 (C.blk _ _ _ _ _))) (fun _ _ _ _ _ => sts_nil) (fun _ _ _ _ _ => (se_call (C.blk _ _ _ _ _) (T 0 _ _ _ rfl) bp_0 (sl_cons (se_var 1) sl_nil))))))) (ss_one (ss_rs0 C F.x1)) ss_nil))
theorem b_8 (C : Cs (cxOf (L2.CX P w) P w K mg base ["things", "thing"] "check_from_0" (defScope (top 12)) f cdv A outer s H E) (fun cls d _ H => E cls d H)) (F : Fx (amb (cxOf (L2.CX P w) P w K mg base ["things", "thing"] "check_from_0" (defScope (top 12)) f cdv A outer s H E)) G) (T : Tab (amb (cxOf (L2.CX P w) P w K mg base ["things", "thing"] "check_from_0" (defScope (top 12)) f cdv A outer s H E)) G c) (TV : TabV (amb (cxOf (L2.CX P w) P w K mg base ["things", "thing"] "check_from_0" (defScope (top 12)) f cdv A outer s H E)) G (noStar [7, 8] c)) (TS : TabS (amb (cxOf (L2.CX P w) P w K mg base ["things", "thing"] "check_from_0" (defScope (top 12)) f cdv A outer s H E)) G c) : SSs (cxOf (L2.CX P w) P w K mg base ["things", "thing"] "check_from_0" (defScope (top 12)) f cdv A outer s H E) G [] (fun cls d _ H => E cls d H) (defBody (top 12)) (f_check_from_0 c) :=
  (ss_one (ss_if (st_not (st_val (se_call_all C F.g_all (sc_lc C (own := [("thing", 1)]) (si_val (se_var 0)) (fun _ _ _ _ _ => (sg_n 1 (C.blk _ _ _ _ _))) (fun _ _ _ _ _ => sts_nil) (fun _ _ _ _ _ => (se_And (se_call (C.blk _ _ _ _ _) (T 0 _ _ _ rfl) bp_0 (sl_cons (se_var 1) sl_nil)) (se_one (se_cmp osGe (se_var 1) se_int)))))))) (ss_one (ss_rs0 C F.x1)) ss_nil))
theorem b_9 (C : Cs (cxOf (L2.CX P w) P w K mg base ["thing", "many", "bit"] "are_bits" (defScope (top 14)) f cdv A outer s H E) (fun cls d _ H => E cls d H)) (F : Fx (amb (cxOf (L2.CX P w) P w K mg base ["thing", "many", "bit"] "are_bits" (defScope (top 14)) f cdv A outer s H E)) G) (T : Tab (amb (cxOf (L2.CX P w) P w K mg base ["thing", "many", "bit"] "are_bits" (defScope (top 14)) f cdv A outer s H E)) G c) (TV : TabV (amb (cxOf (L2.CX P w) P w K mg base ["thing", "many", "bit"] "are_bits" (defScope (top 14)) f cdv A outer s H E)) G (noStar [7, 8] c)) (TS : TabS (amb (cxOf (L2.CX P w) P w K mg base ["thing", "many", "bit"] "are_bits" (defScope (top 14)) f cdv A outer s H E)) G c) : SSs (cxOf (L2.CX P w) P w K mg base ["thing", "many", "bit"] "are_bits" (defScope (top 14)) f cdv A outer s H E) G [] (fun cls d _ H => E cls d H) (defBody (top 14)) (f_are_bits c) :=
  (ss_one (ss_ret (se_And (se_call C (T 2 _ _ _ rfl) bp_2 (sl_cons (se_var 0) (sl_cons (se_var 1) sl_nil))) (se_one (se_call_all C F.g_all (sc_lc C (own := [("bit", 2)]) (si_val (se_var 0)) (fun _ _ _ _ _ => (sg_n 2 (C.blk _ _ _ _ _))) (fun _ _ _ _ _ => sts_nil) (fun _ _ _ _ _ => (se_call (C.blk _ _ _ _ _) (T 1 _ _ _ rfl) bp_1 (sl_cons (se_var 2) (sl_cons se_int sl_nil))))))))))
theorem b_10 (C : Cs (cxOf (L2.CX P w) P w K mg base ["thing"] "is_skin" (defScope (top 17)) f cdv A outer s H E) (fun cls d _ H => E cls d H)) (F : Fx (amb (cxOf (L2.CX P w) P w K mg base ["thing"] "is_skin" (defScope (top 17)) f cdv A outer s H E)) G) (T : Tab (amb (cxOf (L2.CX P w) P w K mg base ["thing"] "is_skin" (defScope (top 17)) f cdv A outer s H E)) G c) (TV : TabV (amb (cxOf (L2.CX P w) P w K mg base ["thing"] "is_skin" (defScope (top 17)) f cdv A outer s H E)) G (noStar [7, 8] c)) (TS : TabS (amb (cxOf (L2.CX P w) P w K mg base ["thing"] "is_skin" (defScope (top 17)) f cdv A outer s H E)) G c) : SSs (cxOf (L2.CX P w) P w K mg base ["thing"] "is_skin" (defScope (top 17)) f cdv A outer s H E) G [] (fun cls d _ H => E cls d H) (defBody (top 17)) (f_is_skin c) :=
  (ss_one (ss_ret (se_And (se_call C (T 12 _ _ _ rfl) bp_12 (sl_cons (se_var 0) sl_nil)) (se_And (se_call C (T 15 _ _ _ rfl) bp_15 (sl_cons (se_var 0) sl_nil)) (se_one (se_call C (T 16 _ _ _ rfl) bp_16 (sl_cons (se_var 0) sl_nil)))))))
theorem b_11 (C : Cs (cxOf (L2.CX P w) P w K mg base ["skin", "told"] "fit_skin" (defScope (top 18)) f cdv A outer s H E) (fun cls d _ H => E cls d H)) (F : Fx (amb (cxOf (L2.CX P w) P w K mg base ["skin", "told"] "fit_skin" (defScope (top 18)) f cdv A outer s H E)) G) (T : Tab (amb (cxOf (L2.CX P w) P w K mg base ["skin", "told"] "fit_skin" (defScope (top 18)) f cdv A outer s H E)) G c) (TV : TabV (amb (cxOf (L2.CX P w) P w K mg base ["skin", "told"] "fit_skin" (defScope (top 18)) f cdv A outer s H E)) G (noStar [7, 8] c)) (TS : TabS (amb (cxOf (L2.CX P w) P w K mg base ["skin", "told"] "fit_skin" (defScope (top 18)) f cdv A outer s H E)) G c) : SSs (cxOf (L2.CX P w) P w K mg base ["skin", "told"] "fit_skin" (defScope (top 18)) f cdv A outer s H E) G [] (fun cls d _ H => E cls d H) (defBody (top 18)) (f_fit_skin c) :=
  (ss_cons (ss_set 1 C (se_call C (T 6 _ _ _ rfl) bp_6 (sl_cons (se_var 0) (sl_cons se_int sl_nil))))
  (ss_cons (ss_if (st_not (st_val (se_call C (T 10 _ _ _ rfl) bp_10 (sl_cons (se_var 1) sl_nil)))) (ss_one (ss_rs0 C F.x1)) ss_nil)
  (ss_one (ss_ret (se_var 1)))))
theorem b_12 (C : Cs (cxOf (L2.CX P w) P w K mg base ["thing", "row"] "has_skin_form" (defScope (top 19)) f cdv A outer s H E) (fun cls d _ H => E cls d H)) (F : Fx (amb (cxOf (L2.CX P w) P w K mg base ["thing", "row"] "has_skin_form" (defScope (top 19)) f cdv A outer s H E)) G) (T : Tab (amb (cxOf (L2.CX P w) P w K mg base ["thing", "row"] "has_skin_form" (defScope (top 19)) f cdv A outer s H E)) G c) (TV : TabV (amb (cxOf (L2.CX P w) P w K mg base ["thing", "row"] "has_skin_form" (defScope (top 19)) f cdv A outer s H E)) G (noStar [7, 8] c)) (TS : TabS (amb (cxOf (L2.CX P w) P w K mg base ["thing", "row"] "has_skin_form" (defScope (top 19)) f cdv A outer s H E)) G c) : SSs (cxOf (L2.CX P w) P w K mg base ["thing", "row"] "has_skin_form" (defScope (top 19)) f cdv A outer s H E) G [] (fun cls d _ H => E cls d H) (defBody (top 19)) (f_has_skin_form c) :=
  (ss_cons (ss_if (st_w (sw_Or (st_not (st_val (se_bIs F.g_isinstance (sl_cons (se_var 0) (sl_cons (se_ty "tuple" F.g_tuple PyProof.Rows.boot_tuple) sl_nil))))) (sw_Or1 (st_cmp (osEq C) (se_bLen F.g_len (sl_cons (se_var 0) sl_nil)) se_int)))) (ss_one (ss_ret se_bl)) ss_nil)
  (ss_one (ss_ret (se_call_all C F.g_all (sc_lc C (own := [("row", 1)]) (si_val (se_var 0)) (fun _ _ _ _ _ => (sg_n 1 (C.blk _ _ _ _ _))) (fun _ _ _ _ _ => sts_nil) (fun _ _ _ _ _ => (se_call (C.blk _ _ _ _ _) (T 13 _ _ _ rfl) bp_13 (sl_cons (se_var 1) (sl_cons (se_bLen F.g_len (sl_cons (se_var 0) sl_nil)) sl_nil)))))))))
theorem b_13 (C : Cs (cxOf (L2.CX P w) P w K mg base ["thing", "many", "crossing"] "is_field_row" (defScope (top 20)) f cdv A outer s H E) (fun cls d _ H => E cls d H)) (F : Fx (amb (cxOf (L2.CX P w) P w K mg base ["thing", "many", "crossing"] "is_field_row" (defScope (top 20)) f cdv A outer s H E)) G) (T : Tab (amb (cxOf (L2.CX P w) P w K mg base ["thing", "many", "crossing"] "is_field_row" (defScope (top 20)) f cdv A outer s H E)) G c) (TV : TabV (amb (cxOf (L2.CX P w) P w K mg base ["thing", "many", "crossing"] "is_field_row" (defScope (top 20)) f cdv A outer s H E)) G (noStar [7, 8] c)) (TS : TabS (amb (cxOf (L2.CX P w) P w K mg base ["thing", "many", "crossing"] "is_field_row" (defScope (top 20)) f cdv A outer s H E)) G c) : SSs (cxOf (L2.CX P w) P w K mg base ["thing", "many", "crossing"] "is_field_row" (defScope (top 20)) f cdv A outer s H E) G [] (fun cls d _ H => E cls d H) (defBody (top 20)) (f_is_field_row c) :=
  (ss_one (ss_ret (se_And (se_call C (T 2 _ _ _ rfl) bp_2 (sl_cons (se_var 0) (sl_cons (se_gint F.c_SIDES) sl_nil))) (se_one (se_call_all C F.g_all (sc_lc C (own := [("crossing", 2)]) (si_val (se_var 0)) (fun _ _ _ _ _ => (sg_n 2 (C.blk _ _ _ _ _))) (fun _ _ _ _ _ => sts_nil) (fun _ _ _ _ _ => (se_call (C.blk _ _ _ _ _) (T 14 _ _ _ rfl) bp_14 (sl_cons (se_var 2) (sl_cons (se_var 1) sl_nil))))))))))
theorem b_14 (C : Cs (cxOf (L2.CX P w) P w K mg base ["thing", "many"] "is_crossing_below" (defScope (top 21)) f cdv A outer s H E) (fun cls d _ H => E cls d H)) (F : Fx (amb (cxOf (L2.CX P w) P w K mg base ["thing", "many"] "is_crossing_below" (defScope (top 21)) f cdv A outer s H E)) G) (T : Tab (amb (cxOf (L2.CX P w) P w K mg base ["thing", "many"] "is_crossing_below" (defScope (top 21)) f cdv A outer s H E)) G c) (TV : TabV (amb (cxOf (L2.CX P w) P w K mg base ["thing", "many"] "is_crossing_below" (defScope (top 21)) f cdv A outer s H E)) G (noStar [7, 8] c)) (TS : TabS (amb (cxOf (L2.CX P w) P w K mg base ["thing", "many"] "is_crossing_below" (defScope (top 21)) f cdv A outer s H E)) G c) : SSs (cxOf (L2.CX P w) P w K mg base ["thing", "many"] "is_crossing_below" (defScope (top 21)) f cdv A outer s H E) G [] (fun cls d _ H => E cls d H) (defBody (top 21)) (f_is_crossing_below c) :=
  (ss_one (ss_ret (se_And (se_call C (T 2 _ _ _ rfl) bp_2 (sl_cons (se_var 0) (sl_cons se_int sl_nil))) (se_And (se_call C (T 1 _ _ _ rfl) bp_1 (sl_cons (se_ix C (se_var 0) se_int) (sl_cons (se_var 1) sl_nil))) (se_one (se_call C (T 1 _ _ _ rfl) bp_1 (sl_cons (se_ix C (se_var 0) se_int) (sl_cons (se_gint F.c_SIDES) sl_nil))))))))
theorem b_15 (C : Cs (cxOf (L2.CX P w) P w K mg base ["rows", "field", "row", "side", "there", "at"] "is_sewn_back" (defScope (top 22)) f cdv A outer s H E) (fun cls d _ H => E cls d H)) (F : Fx (amb (cxOf (L2.CX P w) P w K mg base ["rows", "field", "row", "side", "there", "at"] "is_sewn_back" (defScope (top 22)) f cdv A outer s H E)) G) (T : Tab (amb (cxOf (L2.CX P w) P w K mg base ["rows", "field", "row", "side", "there", "at"] "is_sewn_back" (defScope (top 22)) f cdv A outer s H E)) G c) (TV : TabV (amb (cxOf (L2.CX P w) P w K mg base ["rows", "field", "row", "side", "there", "at"] "is_sewn_back" (defScope (top 22)) f cdv A outer s H E)) G (noStar [7, 8] c)) (TS : TabS (amb (cxOf (L2.CX P w) P w K mg base ["rows", "field", "row", "side", "there", "at"] "is_sewn_back" (defScope (top 22)) f cdv A outer s H E)) G c) : SSs (cxOf (L2.CX P w) P w K mg base ["rows", "field", "row", "side", "there", "at"] "is_sewn_back" (defScope (top 22)) f cdv A outer s H E) G [] (fun cls d _ H => E cls d H) (defBody (top 22)) (f_is_sewn_back c) :=
  (ss_cons (ss_for C (si_enm F.g_enumerate (se_var 0)) (sg_t C (sgl_cons (sg_n 1 C) (sgl_cons (sg_n 2 C) sgl_nil))) (ss_one (ss_for C (si_enm F.g_enumerate (se_var 2)) (sg_t C (sgl_cons (sg_n 3 C) (sgl_cons (sg_t C (sgl_cons (sg_n 4 C) (sgl_cons (sg_n 5 C) sgl_nil))) sgl_nil))) (ss_one (ss_if (st_w (sw_Or (st_cmp (osEq C) (se_tup (sl_cons (se_var 4) (sl_cons (se_var 5) sl_nil))) (se_tup (sl_cons (se_var 1) (sl_cons (se_var 3) sl_nil)))) (sw_Or1 (st_cmp (osNe C) (se_ix C (se_ix C (se_var 0) (se_var 4)) (se_var 5)) (se_tup (sl_cons (se_var 1) (sl_cons (se_var 3) sl_nil))))))) (ss_one (ss_ret se_bl)) ss_nil)))))
  (ss_one (ss_ret se_bl)))
theorem b_16 (C : Cs (cxOf (L2.CX P w) P w K mg base ["rows", "met", "waiting", "field", "there", "_"] "hangs_together" (defScope (top 23)) f cdv A outer s H E) (fun cls d _ H => E cls d H)) (F : Fx (amb (cxOf (L2.CX P w) P w K mg base ["rows", "met", "waiting", "field", "there", "_"] "hangs_together" (defScope (top 23)) f cdv A outer s H E)) G) (T : Tab (amb (cxOf (L2.CX P w) P w K mg base ["rows", "met", "waiting", "field", "there", "_"] "hangs_together" (defScope (top 23)) f cdv A outer s H E)) G c) (TV : TabV (amb (cxOf (L2.CX P w) P w K mg base ["rows", "met", "waiting", "field", "there", "_"] "hangs_together" (defScope (top 23)) f cdv A outer s H E)) G (noStar [7, 8] c)) (TS : TabS (amb (cxOf (L2.CX P w) P w K mg base ["rows", "met", "waiting", "field", "there", "_"] "hangs_together" (defScope (top 23)) f cdv A outer s H E)) G c) : SSs (cxOf (L2.CX P w) P w K mg base ["rows", "met", "waiting", "field", "there", "_"] "hangs_together" (defScope (top 23)) f cdv A outer s H E) G [] (fun cls d _ H => E cls d H) (defBody (top 23)) (f_hangs_together c) :=
  (ss_cons (ss_set 1 C (se_op osAdd (se_lst (sl_cons se_bl sl_nil)) (se_op osMul (se_lst (sl_cons se_bl sl_nil)) (se_op osSub (se_bLen F.g_len (sl_cons (se_var 0) sl_nil)) se_int))))
  (ss_cons (ss_set 2 C (se_lst (sl_cons se_int sl_nil)))
  (ss_cons (ss_wh C (st_tru (se_var 2)) (ss_cons (ss_set 3 C (se_pop (se_var 2)))
  (ss_one (ss_for C (si_val (se_ix C (se_var 0) (se_var 3))) (sg_t C (sgl_cons (sg_n 4 C) (sgl_cons (sg_n 5 C) sgl_nil))) (ss_one (ss_if (st_not (st_tru (se_ix C (se_var 1) (se_var 4)))) (ss_cons (ss_asg se_bl (sg_s C (se_var 1) (se_var 4)))
  (ss_one (ss_expr (se_app (se_var 2) (se_var 4))))) ss_nil))))))
  (ss_one (ss_ret (se_bAll C F.g_all (sl_cons (se_var 1) sl_nil)))))))
theorem b_17 (C : Cs (cxOf (L2.CX P w) P w K mg base ["skin", "field", "row", "side", "crossing"] "lesser_crossings" (defScope (top 24)) f cdv A outer s H E) (fun cls d _ H => E cls d H)) (F : Fx (amb (cxOf (L2.CX P w) P w K mg base ["skin", "field", "row", "side", "crossing"] "lesser_crossings" (defScope (top 24)) f cdv A outer s H E)) G) (T : Tab (amb (cxOf (L2.CX P w) P w K mg base ["skin", "field", "row", "side", "crossing"] "lesser_crossings" (defScope (top 24)) f cdv A outer s H E)) G c) (TV : TabV (amb (cxOf (L2.CX P w) P w K mg base ["skin", "field", "row", "side", "crossing"] "lesser_crossings" (defScope (top 24)) f cdv A outer s H E)) G (noStar [7, 8] c)) (TS : TabS (amb (cxOf (L2.CX P w) P w K mg base ["skin", "field", "row", "side", "crossing"] "lesser_crossings" (defScope (top 24)) f cdv A outer s H E)) G c) : SSs (cxOf (L2.CX P w) P w K mg base ["skin", "field", "row", "side", "crossing"] "lesser_crossings" (defScope (top 24)) f cdv A outer s H E) G [] (fun cls d _ H => E cls d H) (defBody (top 24)) (f_lesser_crossings c) :=
  (ss_one (ss_ret (se_cnew (sc_lc2 C (own := [("field", 1), ("row", 2), ("side", 3), ("crossing", 4)]) (vs1 := [3, 4]) (si_enm F.g_enumerate (se_var 0)) (fun _ _ _ _ _ => (sg_t (C.blk _ _ _ _ _) (sgl_cons (sg_n 1 (C.blk _ _ _ _ _)) (sgl_cons (sg_n 2 (C.blk _ _ _ _ _)) sgl_nil)))) (fun _ _ _ _ _ => (si_enm F.g_enumerate (se_var 2))) (fun _ _ _ _ _ => (sg_t (C.blk _ _ _ _ _) (sgl_cons (sg_n 3 (C.blk _ _ _ _ _)) (sgl_cons (sg_n 4 (C.blk _ _ _ _ _)) sgl_nil)))) (fun _ _ _ _ _ => (sts_one (st_cmp (osLt (C.blk _ _ _ _ _)) (se_tup (sl_cons (se_var 1) (sl_cons (se_var 3) sl_nil))) (se_var 4)))) (fun _ _ _ _ _ => (se_tup (sl_cons (se_var 1) (sl_cons (se_var 3) sl_nil))))))))
theorem b_18 (C : Cs (cxOf (L2.CX P w) P w K mg base ["skin", "field", "side"] "joined_fields" (defScope (top 25)) f cdv A outer s H E) (fun cls d _ H => E cls d H)) (F : Fx (amb (cxOf (L2.CX P w) P w K mg base ["skin", "field", "side"] "joined_fields" (defScope (top 25)) f cdv A outer s H E)) G) (T : Tab (amb (cxOf (L2.CX P w) P w K mg base ["skin", "field", "side"] "joined_fields" (defScope (top 25)) f cdv A outer s H E)) G c) (TV : TabV (amb (cxOf (L2.CX P w) P w K mg base ["skin", "field", "side"] "joined_fields" (defScope (top 25)) f cdv A outer s H E)) G (noStar [7, 8] c)) (TS : TabS (amb (cxOf (L2.CX P w) P w K mg base ["skin", "field", "side"] "joined_fields" (defScope (top 25)) f cdv A outer s H E)) G c) : SSs (cxOf (L2.CX P w) P w K mg base ["skin", "field", "side"] "joined_fields" (defScope (top 25)) f cdv A outer s H E) G [] (fun cls d _ H => E cls d H) (defBody (top 25)) (f_joined_fields c) :=
  (ss_one (ss_ret (se_ctup F.g_tuple (sc_lc C (own := [("field", 1), ("side", 2)]) (si_val (se_call C (T 17 _ _ _ rfl) bp_17 (sl_cons (se_var 0) sl_nil))) (fun _ _ _ _ _ => (sg_t (C.blk _ _ _ _ _) (sgl_cons (sg_n 1 (C.blk _ _ _ _ _)) (sgl_cons (sg_n 2 (C.blk _ _ _ _ _)) sgl_nil)))) (fun _ _ _ _ _ => sts_nil) (fun _ _ _ _ _ => (se_tup (sl_cons (se_var 1) (sl_cons (se_ix (C.blk _ _ _ _ _) (se_ix (C.blk _ _ _ _ _) (se_ix (C.blk _ _ _ _ _) (se_var 0) (se_var 1)) (se_var 2)) se_int) sl_nil))))))))
theorem b_19 (C : Cs (cxOf (L2.CX P w) P w K mg base ["skin", "thing"] "is_lot_of_edges" (defScope (top 27)) f cdv A outer s H E) (fun cls d _ H => E cls d H)) (F : Fx (amb (cxOf (L2.CX P w) P w K mg base ["skin", "thing"] "is_lot_of_edges" (defScope (top 27)) f cdv A outer s H E)) G) (T : Tab (amb (cxOf (L2.CX P w) P w K mg base ["skin", "thing"] "is_lot_of_edges" (defScope (top 27)) f cdv A outer s H E)) G c) (TV : TabV (amb (cxOf (L2.CX P w) P w K mg base ["skin", "thing"] "is_lot_of_edges" (defScope (top 27)) f cdv A outer s H E)) G (noStar [7, 8] c)) (TS : TabS (amb (cxOf (L2.CX P w) P w K mg base ["skin", "thing"] "is_lot_of_edges" (defScope (top 27)) f cdv A outer s H E)) G c) : SSs (cxOf (L2.CX P w) P w K mg base ["skin", "thing"] "is_lot_of_edges" (defScope (top 27)) f cdv A outer s H E) G [] (fun cls d _ H => E cls d H) (defBody (top 27)) (f_is_lot_of_edges c) :=
  (ss_one (ss_ret (se_call C (T 3 _ _ _ rfl) bp_3 (sl_cons (se_var 1) (sl_cons (se_op osMul se_int (se_bLen F.g_len (sl_cons (se_var 0) sl_nil))) sl_nil)))))
theorem b_20 (C : Cs (cxOf (L2.CX P w) P w K mg base ["skin", "arrows", "told"] "fit_arrows" (defScope (top 29)) f cdv A outer s H E) (fun cls d _ H => E cls d H)) (F : Fx (amb (cxOf (L2.CX P w) P w K mg base ["skin", "arrows", "told"] "fit_arrows" (defScope (top 29)) f cdv A outer s H E)) G) (T : Tab (amb (cxOf (L2.CX P w) P w K mg base ["skin", "arrows", "told"] "fit_arrows" (defScope (top 29)) f cdv A outer s H E)) G c) (TV : TabV (amb (cxOf (L2.CX P w) P w K mg base ["skin", "arrows", "told"] "fit_arrows" (defScope (top 29)) f cdv A outer s H E)) G (noStar [7, 8] c)) (TS : TabS (amb (cxOf (L2.CX P w) P w K mg base ["skin", "arrows", "told"] "fit_arrows" (defScope (top 29)) f cdv A outer s H E)) G c) : SSs (cxOf (L2.CX P w) P w K mg base ["skin", "arrows", "told"] "fit_arrows" (defScope (top 29)) f cdv A outer s H E) G [] (fun cls d _ H => E cls d H) (defBody (top 29)) (f_fit_arrows c) :=
  (ss_cons (ss_set 2 C (se_call C (T 6 _ _ _ rfl) bp_6 (sl_cons (se_var 1) (sl_cons se_int sl_nil))))
  (ss_cons (ss_if (st_not (st_val (se_call C (T 21 _ _ _ rfl) bp_21 (sl_cons (se_var 0) (sl_cons (se_var 2) sl_nil))))) (ss_one (ss_rs0 C F.x1)) ss_nil)
  (ss_one (ss_ret (se_var 2)))))
theorem b_21 (C : Cs (cxOf (L2.CX P w) P w K mg base ["skin", "thing"] "are_arrows_of" (defScope (top 30)) f cdv A outer s H E) (fun cls d _ H => E cls d H)) (F : Fx (amb (cxOf (L2.CX P w) P w K mg base ["skin", "thing"] "are_arrows_of" (defScope (top 30)) f cdv A outer s H E)) G) (T : Tab (amb (cxOf (L2.CX P w) P w K mg base ["skin", "thing"] "are_arrows_of" (defScope (top 30)) f cdv A outer s H E)) G c) (TV : TabV (amb (cxOf (L2.CX P w) P w K mg base ["skin", "thing"] "are_arrows_of" (defScope (top 30)) f cdv A outer s H E)) G (noStar [7, 8] c)) (TS : TabS (amb (cxOf (L2.CX P w) P w K mg base ["skin", "thing"] "are_arrows_of" (defScope (top 30)) f cdv A outer s H E)) G c) : SSs (cxOf (L2.CX P w) P w K mg base ["skin", "thing"] "are_arrows_of" (defScope (top 30)) f cdv A outer s H E) G [] (fun cls d _ H => E cls d H) (defBody (top 30)) (f_are_arrows_of c) :=
  (ss_one (ss_ret (se_call C (T 9 _ _ _ rfl) bp_9 (sl_cons (se_var 1) (sl_cons (se_op osMul se_int (se_bLen F.g_len (sl_cons (se_var 0) sl_nil))) sl_nil)))))
theorem b_22 (C : Cs (cxOf (L2.CX P w) P w K mg base ["skin", "pairing", "told"] "fit_pairing" (defScope (top 32)) f cdv A outer s H E) (fun cls d _ H => E cls d H)) (F : Fx (amb (cxOf (L2.CX P w) P w K mg base ["skin", "pairing", "told"] "fit_pairing" (defScope (top 32)) f cdv A outer s H E)) G) (T : Tab (amb (cxOf (L2.CX P w) P w K mg base ["skin", "pairing", "told"] "fit_pairing" (defScope (top 32)) f cdv A outer s H E)) G c) (TV : TabV (amb (cxOf (L2.CX P w) P w K mg base ["skin", "pairing", "told"] "fit_pairing" (defScope (top 32)) f cdv A outer s H E)) G (noStar [7, 8] c)) (TS : TabS (amb (cxOf (L2.CX P w) P w K mg base ["skin", "pairing", "told"] "fit_pairing" (defScope (top 32)) f cdv A outer s H E)) G c) : SSs (cxOf (L2.CX P w) P w K mg base ["skin", "pairing", "told"] "fit_pairing" (defScope (top 32)) f cdv A outer s H E) G [] (fun cls d _ H => E cls d H) (defBody (top 32)) (f_fit_pairing c) :=
  (ss_cons (ss_set 2 C (se_call C (T 6 _ _ _ rfl) bp_6 (sl_cons (se_var 1) (sl_cons se_int sl_nil))))
  (ss_cons (ss_if (st_not (st_val (se_call C (T 23 _ _ _ rfl) bp_23 (sl_cons (se_var 0) (sl_cons (se_var 2) sl_nil))))) (ss_one (ss_rs0 C F.x1)) ss_nil)
  (ss_one (ss_ret (se_var 2)))))
theorem b_23 (C : Cs (cxOf (L2.CX P w) P w K mg base ["skin", "thing", "fields", "edge", "field"] "is_pairing_of" (defScope (top 33)) f cdv A outer s H E) (fun cls d _ H => E cls d H)) (F : Fx (amb (cxOf (L2.CX P w) P w K mg base ["skin", "thing", "fields", "edge", "field"] "is_pairing_of" (defScope (top 33)) f cdv A outer s H E)) G) (T : Tab (amb (cxOf (L2.CX P w) P w K mg base ["skin", "thing", "fields", "edge", "field"] "is_pairing_of" (defScope (top 33)) f cdv A outer s H E)) G c) (TV : TabV (amb (cxOf (L2.CX P w) P w K mg base ["skin", "thing", "fields", "edge", "field"] "is_pairing_of" (defScope (top 33)) f cdv A outer s H E)) G (noStar [7, 8] c)) (TS : TabS (amb (cxOf (L2.CX P w) P w K mg base ["skin", "thing", "fields", "edge", "field"] "is_pairing_of" (defScope (top 33)) f cdv A outer s H E)) G c) : SSs (cxOf (L2.CX P w) P w K mg base ["skin", "thing", "fields", "edge", "field"] "is_pairing_of" (defScope (top 33)) f cdv A outer s H E) G [] (fun cls d _ H => E cls d H) (defBody (top 33)) (f_is_pairing_of c) :=
  (ss_cons (ss_if (st_not (st_val (se_call C (T 19 _ _ _ rfl) bp_19 (sl_cons (se_var 0) (sl_cons (se_var 1) sl_nil))))) (ss_one (ss_ret se_bl)) ss_nil)
  (ss_cons (ss_set 2 C (se_call C (T 18 _ _ _ rfl) bp_18 (sl_cons (se_var 0) sl_nil)))
  (ss_one (ss_ret (se_cmp (osEq C) (se_bSrt F.g_sorted (sl_cons (se_cnew (sc_lc2 C (own := [("edge", 3), ("field", 4)]) (vs1 := [4]) (si_val (se_var 1)) (fun _ _ _ _ _ => (sg_n 3 (C.blk _ _ _ _ _))) (fun _ _ _ _ _ => (si_val (se_ix (C.blk _ _ _ _ _) (se_var 2) (se_var 3)))) (fun _ _ _ _ _ => (sg_n 4 (C.blk _ _ _ _ _))) (fun _ _ _ _ _ => sts_nil) (fun _ _ _ _ _ => (se_var 4)))) sl_nil)) (se_lrng C F.g_list F.g_range (se_bLen F.g_len (sl_cons (se_var 0) sl_nil))))))))
theorem b_24 (C : Cs (cxOf (L2.CX P w) P w K mg base ["skin", "worths", "pairing", "told", "own", "worth", "edge"] "worth_of" (defScope (top 35)) f cdv A outer s H E) (fun cls d _ H => E cls d H)) (F : Fx (amb (cxOf (L2.CX P w) P w K mg base ["skin", "worths", "pairing", "told", "own", "worth", "edge"] "worth_of" (defScope (top 35)) f cdv A outer s H E)) G) (T : Tab (amb (cxOf (L2.CX P w) P w K mg base ["skin", "worths", "pairing", "told", "own", "worth", "edge"] "worth_of" (defScope (top 35)) f cdv A outer s H E)) G c) (TV : TabV (amb (cxOf (L2.CX P w) P w K mg base ["skin", "worths", "pairing", "told", "own", "worth", "edge"] "worth_of" (defScope (top 35)) f cdv A outer s H E)) G (noStar [7, 8] c)) (TS : TabS (amb (cxOf (L2.CX P w) P w K mg base ["skin", "worths", "pairing", "told", "own", "worth", "edge"] "worth_of" (defScope (top 35)) f cdv A outer s H E)) G c) : SSs (cxOf (L2.CX P w) P w K mg base ["skin", "worths", "pairing", "told", "own", "worth", "edge"] "worth_of" (defScope (top 35)) f cdv A outer s H E) G [] (fun cls d _ H => E cls d H) (defBody (top 35)) (f_worth_of c) :=
  (ss_cons (ss_set 3 C (se_call C (T 11 _ _ _ rfl) bp_11 (sl_cons (se_var 0) sl_nil)))
  (ss_cons (ss_set 4 C (se_call C (T 33 _ _ _ rfl) bp_33 (sl_cons (se_var 3) (sl_cons (se_var 1) sl_nil))))
  (ss_cons (ss_set 5 C se_int)
  (ss_cons (ss_for C (si_val (se_call C (T 22 _ _ _ rfl) bp_22 (sl_cons (se_var 3) (sl_cons (se_var 2) sl_nil)))) (sg_n 6 C) (ss_one (ss_set 5 C (se_op osMul (se_var 5) (se_ix C (se_var 4) (se_var 6))))))
  (ss_one (ss_ret (se_var 5)))))))
theorem b_25 (C : Cs (cxOf (L2.CX P w) P w K mg base ["skin", "arrows", "pairing", "told", "own"] "sign_of" (defScope (top 36)) f cdv A outer s H E) (fun cls d _ H => E cls d H)) (F : Fx (amb (cxOf (L2.CX P w) P w K mg base ["skin", "arrows", "pairing", "told", "own"] "sign_of" (defScope (top 36)) f cdv A outer s H E)) G) (T : Tab (amb (cxOf (L2.CX P w) P w K mg base ["skin", "arrows", "pairing", "told", "own"] "sign_of" (defScope (top 36)) f cdv A outer s H E)) G c) (TV : TabV (amb (cxOf (L2.CX P w) P w K mg base ["skin", "arrows", "pairing", "told", "own"] "sign_of" (defScope (top 36)) f cdv A outer s H E)) G (noStar [7, 8] c)) (TS : TabS (amb (cxOf (L2.CX P w) P w K mg base ["skin", "arrows", "pairing", "told", "own"] "sign_of" (defScope (top 36)) f cdv A outer s H E)) G c) : SSs (cxOf (L2.CX P w) P w K mg base ["skin", "arrows", "pairing", "told", "own"] "sign_of" (defScope (top 36)) f cdv A outer s H E) G [] (fun cls d _ H => E cls d H) (defBody (top 36)) (f_sign_of c) :=
  (ss_cons (ss_set 3 C (se_call C (T 11 _ _ _ rfl) bp_11 (sl_cons (se_var 0) sl_nil)))
  (ss_cons (ss_set 4 C (se_call C (T 20 _ _ _ rfl) bp_20 (sl_cons (se_var 3) (sl_cons (se_var 1) sl_nil))))
  (ss_one (ss_ret (se_call C (T 39 _ _ _ rfl) bp_39 (sl_cons (se_var 3) (sl_cons (se_var 4) (sl_cons (se_call C (T 22 _ _ _ rfl) bp_22 (sl_cons (se_var 3) (sl_cons (se_var 2) sl_nil))) sl_nil))))))))
theorem b_26 (C : Cs (cxOf (L2.CX P w) P w K mg base ["skin", "arrows", "worths", "told", "own"] "signed_table" (defScope (top 37)) f cdv A outer s H E) (fun cls d _ H => E cls d H)) (F : Fx (amb (cxOf (L2.CX P w) P w K mg base ["skin", "arrows", "worths", "told", "own"] "signed_table" (defScope (top 37)) f cdv A outer s H E)) G) (T : Tab (amb (cxOf (L2.CX P w) P w K mg base ["skin", "arrows", "worths", "told", "own"] "signed_table" (defScope (top 37)) f cdv A outer s H E)) G c) (TV : TabV (amb (cxOf (L2.CX P w) P w K mg base ["skin", "arrows", "worths", "told", "own"] "signed_table" (defScope (top 37)) f cdv A outer s H E)) G (noStar [7, 8] c)) (TS : TabS (amb (cxOf (L2.CX P w) P w K mg base ["skin", "arrows", "worths", "told", "own"] "signed_table" (defScope (top 37)) f cdv A outer s H E)) G c) : SSs (cxOf (L2.CX P w) P w K mg base ["skin", "arrows", "worths", "told", "own"] "signed_table" (defScope (top 37)) f cdv A outer s H E) G [] (fun cls d _ H => E cls d H) (defBody (top 37)) (f_signed_table c) :=
  (ss_cons (ss_set 3 C (se_call C (T 11 _ _ _ rfl) bp_11 (sl_cons (se_var 0) sl_nil)))
  (ss_cons (ss_set 4 C (se_call C (T 20 _ _ _ rfl) bp_20 (sl_cons (se_var 3) (sl_cons (se_var 1) sl_nil))))
  (ss_one (ss_ret (se_call C (T 40 _ _ _ rfl) bp_40 (sl_cons (se_var 3) (sl_cons (se_var 4) (sl_cons (se_call C (T 33 _ _ _ rfl) bp_33 (sl_cons (se_var 3) (sl_cons (se_var 2) sl_nil))) sl_nil))))))))
theorem b_27 (C : Cs (cxOf (L2.CX P w) P w K mg base ["thing", "row", "at", "far", "number"] "is_signed_table" (defScope (top 38)) f cdv A outer s H E) (fun cls d _ H => E cls d H)) (F : Fx (amb (cxOf (L2.CX P w) P w K mg base ["thing", "row", "at", "far", "number"] "is_signed_table" (defScope (top 38)) f cdv A outer s H E)) G) (T : Tab (amb (cxOf (L2.CX P w) P w K mg base ["thing", "row", "at", "far", "number"] "is_signed_table" (defScope (top 38)) f cdv A outer s H E)) G c) (TV : TabV (amb (cxOf (L2.CX P w) P w K mg base ["thing", "row", "at", "far", "number"] "is_signed_table" (defScope (top 38)) f cdv A outer s H E)) G (noStar [7, 8] c)) (TS : TabS (amb (cxOf (L2.CX P w) P w K mg base ["thing", "row", "at", "far", "number"] "is_signed_table" (defScope (top 38)) f cdv A outer s H E)) G c) : SSs (cxOf (L2.CX P w) P w K mg base ["thing", "row", "at", "far", "number"] "is_signed_table" (defScope (top 38)) f cdv A outer s H E) G [] (fun cls d _ H => E cls d H) (defBody (top 38)) (f_is_signed_table c) :=
  (ss_cons (ss_if (st_w (sw_Or (st_not (st_val (se_bIs F.g_isinstance (sl_cons (se_var 0) (sl_cons (se_ty "tuple" F.g_tuple PyProof.Rows.boot_tuple) sl_nil))))) (sw_Or1 (st_not (st_val (se_call_all C F.g_all (sc_lc C (own := [("row", 1)]) (si_val (se_var 0)) (fun _ _ _ _ _ => (sg_n 1 (C.blk _ _ _ _ _))) (fun _ _ _ _ _ => sts_nil) (fun _ _ _ _ _ => (se_call (C.blk _ _ _ _ _) (T 37 _ _ _ rfl) bp_37 (sl_cons (se_var 1) (sl_cons (se_bLen F.g_len (sl_cons (se_var 0) sl_nil)) sl_nil))))))))))) (ss_one (ss_ret se_bl)) ss_nil)
  (ss_one (ss_ret (se_call_all C F.g_all (sc_lc2 C (own := [("at", 2), ("row", 1), ("far", 3), ("number", 4)]) (vs1 := [3, 4]) (si_enm F.g_enumerate (se_var 0)) (fun _ _ _ _ _ => (sg_t (C.blk _ _ _ _ _) (sgl_cons (sg_n 2 (C.blk _ _ _ _ _)) (sgl_cons (sg_n 1 (C.blk _ _ _ _ _)) sgl_nil)))) (fun _ _ _ _ _ => (si_enm F.g_enumerate (se_sl (se_var 1) so_none (so_some (se_op osAdd (se_var 2) se_int))))) (fun _ _ _ _ _ => (sg_t (C.blk _ _ _ _ _) (sgl_cons (sg_n 3 (C.blk _ _ _ _ _)) (sgl_cons (sg_n 4 (C.blk _ _ _ _ _)) sgl_nil)))) (fun _ _ _ _ _ => sts_nil) (fun _ _ _ _ _ => (se_cmp (osEq (C.blk _ _ _ _ _)) (se_var 4) (se_neg (se_ix (C.blk _ _ _ _ _) (se_ix (C.blk _ _ _ _ _) (se_var 0) (se_var 3)) (se_var 2))))))))))
theorem b_28 (C : Cs (cxOf (L2.CX P w) P w K mg base ["table"] "paired_sum" (defScope (top 39)) f cdv A outer s H E) (fun cls d _ H => E cls d H)) (F : Fx (amb (cxOf (L2.CX P w) P w K mg base ["table"] "paired_sum" (defScope (top 39)) f cdv A outer s H E)) G) (T : Tab (amb (cxOf (L2.CX P w) P w K mg base ["table"] "paired_sum" (defScope (top 39)) f cdv A outer s H E)) G c) (TV : TabV (amb (cxOf (L2.CX P w) P w K mg base ["table"] "paired_sum" (defScope (top 39)) f cdv A outer s H E)) G (noStar [7, 8] c)) (TS : TabS (amb (cxOf (L2.CX P w) P w K mg base ["table"] "paired_sum" (defScope (top 39)) f cdv A outer s H E)) G c) : SSs (cxOf (L2.CX P w) P w K mg base ["table"] "paired_sum" (defScope (top 39)) f cdv A outer s H E) G [] (fun cls d _ H => E cls d H) (defBody (top 39)) (f_paired_sum c) :=
  (ss_one (ss_ret (se_call C (T 42 _ _ _ rfl) bp_42 (sl_cons (se_call C (T 34 _ _ _ rfl) bp_34 (sl_cons (se_var 0) sl_nil)) sl_nil))))
theorem b_29 (C : Cs (cxOf (L2.CX P w) P w K mg base ["table", "fields", "told", "own"] "struck" (defScope (top 40)) f cdv A outer s H E) (fun cls d _ H => E cls d H)) (F : Fx (amb (cxOf (L2.CX P w) P w K mg base ["table", "fields", "told", "own"] "struck" (defScope (top 40)) f cdv A outer s H E)) G) (T : Tab (amb (cxOf (L2.CX P w) P w K mg base ["table", "fields", "told", "own"] "struck" (defScope (top 40)) f cdv A outer s H E)) G c) (TV : TabV (amb (cxOf (L2.CX P w) P w K mg base ["table", "fields", "told", "own"] "struck" (defScope (top 40)) f cdv A outer s H E)) G (noStar [7, 8] c)) (TS : TabS (amb (cxOf (L2.CX P w) P w K mg base ["table", "fields", "told", "own"] "struck" (defScope (top 40)) f cdv A outer s H E)) G c) : SSs (cxOf (L2.CX P w) P w K mg base ["table", "fields", "told", "own"] "struck" (defScope (top 40)) f cdv A outer s H E) G [] (fun cls d _ H => E cls d H) (defBody (top 40)) (f_struck c) :=
  (ss_cons (ss_set 2 C (se_call C (T 34 _ _ _ rfl) bp_34 (sl_cons (se_var 0) sl_nil)))
  (ss_cons (ss_set 3 C (se_call C (T 35 _ _ _ rfl) bp_35 (sl_cons (se_var 1) sl_nil)))
  (ss_cons (ss_expr (se_call C (T 36 _ _ _ rfl) bp_36 (sl_cons (se_var 2) (sl_cons (se_var 3) sl_nil))))
  (ss_one (ss_ret (se_call C (T 41 _ _ _ rfl) bp_41 (sl_cons (se_var 2) (sl_cons (se_var 3) sl_nil))))))))
theorem b_30 (C : Cs (cxOf (L2.CX P w) P w K mg base ["table", "fields", "told", "own", "signs", "row", "sign", "far", "number"] "turned_table" (defScope (top 41)) f cdv A outer s H E) (fun cls d _ H => E cls d H)) (F : Fx (amb (cxOf (L2.CX P w) P w K mg base ["table", "fields", "told", "own", "signs", "row", "sign", "far", "number"] "turned_table" (defScope (top 41)) f cdv A outer s H E)) G) (T : Tab (amb (cxOf (L2.CX P w) P w K mg base ["table", "fields", "told", "own", "signs", "row", "sign", "far", "number"] "turned_table" (defScope (top 41)) f cdv A outer s H E)) G c) (TV : TabV (amb (cxOf (L2.CX P w) P w K mg base ["table", "fields", "told", "own", "signs", "row", "sign", "far", "number"] "turned_table" (defScope (top 41)) f cdv A outer s H E)) G (noStar [7, 8] c)) (TS : TabS (amb (cxOf (L2.CX P w) P w K mg base ["table", "fields", "told", "own", "signs", "row", "sign", "far", "number"] "turned_table" (defScope (top 41)) f cdv A outer s H E)) G c) : SSs (cxOf (L2.CX P w) P w K mg base ["table", "fields", "told", "own", "signs", "row", "sign", "far", "number"] "turned_table" (defScope (top 41)) f cdv A outer s H E) G [] (fun cls d _ H => E cls d H) (defBody (top 41)) (f_turned_table c) :=
  (ss_cons (ss_set 2 C (se_call C (T 34 _ _ _ rfl) bp_34 (sl_cons (se_var 0) sl_nil)))
  (ss_cons (ss_set 3 C (se_call C (T 35 _ _ _ rfl) bp_35 (sl_cons (se_var 1) sl_nil)))
  (ss_cons (ss_expr (se_call C (T 36 _ _ _ rfl) bp_36 (sl_cons (se_var 2) (sl_cons (se_var 3) sl_nil))))
  (ss_cons (ss_set 4 C (se_cnew (sc_lc C (own := [("row", 5)]) (si_rng1 F.g_range (se_bLen F.g_len (sl_cons (se_var 2) sl_nil))) (fun _ _ _ _ _ => (sg_n 5 (C.blk _ _ _ _ _))) (fun _ _ _ _ _ => sts_nil) (fun _ _ _ _ _ => (se_if (st_cmpI (osIn (C.blk _ _ _ _ _)) (se_var 5) (se_var 3)) (se_neg se_int) se_int)))))
  (ss_one (ss_ret (se_ctup F.g_tuple (sc_lc C (own := [("sign", 6), ("row", 5)]) (si_zipB F.g_zip (se_var 4) (se_var 2)) (fun _ _ _ _ _ => (sg_t (C.blk _ _ _ _ _) (sgl_cons (sg_n 6 (C.blk _ _ _ _ _)) (sgl_cons (sg_n 5 (C.blk _ _ _ _ _)) sgl_nil)))) (fun _ _ _ _ _ => sts_nil) (fun _ _ _ _ _ => (se_ctup F.g_tuple (sc_lc (C.blk _ _ _ _ _) (own := [("far", 7), ("number", 8)]) (si_zipB F.g_zip (se_var 4) (se_var 5)) (fun _ _ _ _ _ => (sg_t ((C.blk _ _ _ _ _).blk _ _ _ _ _) (sgl_cons (sg_n 7 ((C.blk _ _ _ _ _).blk _ _ _ _ _)) (sgl_cons (sg_n 8 ((C.blk _ _ _ _ _).blk _ _ _ _ _)) sgl_nil)))) (fun _ _ _ _ _ => sts_nil) (fun _ _ _ _ _ => (se_op osMul (se_op osMul (se_var 6) (se_var 7)) (se_var 8))))))))))))))
theorem b_31 (C : Cs (cxOf (L2.CX P w) P w K mg base ["table", "field", "other", "number", "told", "rows", "far", "own", "row"] "row_added" (defScope (top 42)) f cdv A outer s H E) (fun cls d _ H => E cls d H)) (F : Fx (amb (cxOf (L2.CX P w) P w K mg base ["table", "field", "other", "number", "told", "rows", "far", "own", "row"] "row_added" (defScope (top 42)) f cdv A outer s H E)) G) (T : Tab (amb (cxOf (L2.CX P w) P w K mg base ["table", "field", "other", "number", "told", "rows", "far", "own", "row"] "row_added" (defScope (top 42)) f cdv A outer s H E)) G c) (TV : TabV (amb (cxOf (L2.CX P w) P w K mg base ["table", "field", "other", "number", "told", "rows", "far", "own", "row"] "row_added" (defScope (top 42)) f cdv A outer s H E)) G (noStar [7, 8] c)) (TS : TabS (amb (cxOf (L2.CX P w) P w K mg base ["table", "field", "other", "number", "told", "rows", "far", "own", "row"] "row_added" (defScope (top 42)) f cdv A outer s H E)) G c) : SSs (cxOf (L2.CX P w) P w K mg base ["table", "field", "other", "number", "told", "rows", "far", "own", "row"] "row_added" (defScope (top 42)) f cdv A outer s H E) G [] (fun cls d _ H => E cls d H) (defBody (top 42)) (f_row_added c) :=
  (ss_cons (ss_set 4 C (se_call C (T 34 _ _ _ rfl) bp_34 (sl_cons (se_var 0) sl_nil)))
  (ss_cons (ss_expr (se_callv C TS.2 (sl_cons (se_var 1) (sl_cons (se_var 2) sl_nil))))
  (ss_cons (ss_expr (se_callv C TS.1 (sl_cons (se_var 3) sl_nil)))
  (ss_cons (ss_expr (se_call C (T 36 _ _ _ rfl) bp_36 (sl_cons (se_var 4) (sl_cons (se_tup (sl_cons (se_var 1) (sl_cons (se_var 2) sl_nil))) sl_nil))))
  (ss_cons (ss_if (st_cmp (osEq C) (se_var 1) (se_var 2)) (ss_one (ss_rs0 C F.x1)) ss_nil)
  (ss_cons (ss_setlc 5 C (own := [("row", 8)]) (si_val (se_var 4)) (fun _ _ _ _ _ => (sg_n 8 (C.blk _ _ _ _ _))) (fun _ _ _ _ _ => sts_nil) (fun _ _ _ _ _ => (se_bList F.g_list (sl_cons (se_var 8) sl_nil))))
  (ss_cons (ss_for C (si_enm F.g_enumerate (se_ix C (se_var 4) (se_var 1))) (sg_t C (sgl_cons (sg_n 6 C) (sgl_cons (sg_n 7 C) sgl_nil))) (ss_one (ss_if (st_cmp (osNe C) (se_var 6) (se_var 2)) (ss_cons (ss_augx_add C (se_ix C (se_var 5) (se_var 2)) (se_var 6) (se_op osMul (se_var 3) (se_var 7)))
  (ss_one (ss_augx_sub C (se_ix C (se_var 5) (se_var 6)) (se_var 2) (se_op osMul (se_var 3) (se_var 7))))) ss_nil)))
  (ss_one (ss_ret (se_ctup F.g_tuple (sc_lc C (own := [("row", 8)]) (si_val (se_var 5)) (fun _ _ _ _ _ => (sg_n 8 (C.blk _ _ _ _ _))) (fun _ _ _ _ _ => sts_nil) (fun _ _ _ _ _ => (se_bTup F.g_tuple (sl_cons (se_var 8) sl_nil))))))))))))))
theorem b_32 (C : Cs (cxOf (L2.CX P w) P w K mg base ["table", "field", "told", "far"] "sum_by_pairs" (defScope (top 43)) f cdv A outer s H E) (fun cls d _ H => E cls d H)) (F : Fx (amb (cxOf (L2.CX P w) P w K mg base ["table", "field", "told", "far"] "sum_by_pairs" (defScope (top 43)) f cdv A outer s H E)) G) (T : Tab (amb (cxOf (L2.CX P w) P w K mg base ["table", "field", "told", "far"] "sum_by_pairs" (defScope (top 43)) f cdv A outer s H E)) G c) (TV : TabV (amb (cxOf (L2.CX P w) P w K mg base ["table", "field", "told", "far"] "sum_by_pairs" (defScope (top 43)) f cdv A outer s H E)) G (noStar [7, 8] c)) (TS : TabS (amb (cxOf (L2.CX P w) P w K mg base ["table", "field", "told", "far"] "sum_by_pairs" (defScope (top 43)) f cdv A outer s H E)) G c) : SSs (cxOf (L2.CX P w) P w K mg base ["table", "field", "told", "far"] "sum_by_pairs" (defScope (top 43)) f cdv A outer s H E) G [] (fun cls d _ H => E cls d H) (defBody (top 43)) (f_sum_by_pairs c) :=
  (ss_cons (ss_set 2 C (se_call C (T 34 _ _ _ rfl) bp_34 (sl_cons (se_var 0) sl_nil)))
  (ss_cons (ss_expr (se_callv C TS.2 (sl_cons (se_var 1) sl_nil)))
  (ss_cons (ss_expr (se_call C (T 36 _ _ _ rfl) bp_36 (sl_cons (se_var 2) (sl_cons (se_tup (sl_cons (se_var 1) sl_nil)) sl_nil))))
  (ss_one (ss_ret (se_ctup F.g_tuple (sc_lc C (own := [("far", 3)]) (si_rng1 F.g_range (se_bLen F.g_len (sl_cons (se_var 2) sl_nil))) (fun _ _ _ _ _ => (sg_n 3 (C.blk _ _ _ _ _))) (fun _ _ _ _ _ => sts_nil) (fun _ _ _ _ _ => (se_call (C.blk _ _ _ _ _) (T 45 _ _ _ rfl) bp_45 (sl_cons (se_var 2) (sl_cons (se_var 1) (sl_cons (se_var 3) sl_nil))))))))))))
theorem b_33 (C : Cs (cxOf (L2.CX P w) P w K mg base ["skin", "worths", "told"] "fit_worths" (defScope (top 44)) f cdv A outer s H E) (fun cls d _ H => E cls d H)) (F : Fx (amb (cxOf (L2.CX P w) P w K mg base ["skin", "worths", "told"] "fit_worths" (defScope (top 44)) f cdv A outer s H E)) G) (T : Tab (amb (cxOf (L2.CX P w) P w K mg base ["skin", "worths", "told"] "fit_worths" (defScope (top 44)) f cdv A outer s H E)) G c) (TV : TabV (amb (cxOf (L2.CX P w) P w K mg base ["skin", "worths", "told"] "fit_worths" (defScope (top 44)) f cdv A outer s H E)) G (noStar [7, 8] c)) (TS : TabS (amb (cxOf (L2.CX P w) P w K mg base ["skin", "worths", "told"] "fit_worths" (defScope (top 44)) f cdv A outer s H E)) G c) : SSs (cxOf (L2.CX P w) P w K mg base ["skin", "worths", "told"] "fit_worths" (defScope (top 44)) f cdv A outer s H E) G [] (fun cls d _ H => E cls d H) (defBody (top 44)) (f_fit_worths c) :=
  (ss_cons (ss_set 2 C (se_call C (T 6 _ _ _ rfl) bp_6 (sl_cons (se_var 1) (sl_cons se_int sl_nil))))
  (ss_cons (ss_if (st_not (st_val (se_call C (T 38 _ _ _ rfl) bp_38 (sl_cons (se_var 0) (sl_cons (se_var 2) sl_nil))))) (ss_one (ss_rs0 C F.x1)) ss_nil)
  (ss_one (ss_ret (se_var 2)))))
theorem b_34 (C : Cs (cxOf (L2.CX P w) P w K mg base ["table", "told"] "fit_signed_table" (defScope (top 45)) f cdv A outer s H E) (fun cls d _ H => E cls d H)) (F : Fx (amb (cxOf (L2.CX P w) P w K mg base ["table", "told"] "fit_signed_table" (defScope (top 45)) f cdv A outer s H E)) G) (T : Tab (amb (cxOf (L2.CX P w) P w K mg base ["table", "told"] "fit_signed_table" (defScope (top 45)) f cdv A outer s H E)) G c) (TV : TabV (amb (cxOf (L2.CX P w) P w K mg base ["table", "told"] "fit_signed_table" (defScope (top 45)) f cdv A outer s H E)) G (noStar [7, 8] c)) (TS : TabS (amb (cxOf (L2.CX P w) P w K mg base ["table", "told"] "fit_signed_table" (defScope (top 45)) f cdv A outer s H E)) G c) : SSs (cxOf (L2.CX P w) P w K mg base ["table", "told"] "fit_signed_table" (defScope (top 45)) f cdv A outer s H E) G [] (fun cls d _ H => E cls d H) (defBody (top 45)) (f_fit_signed_table c) :=
  (ss_cons (ss_set 1 C (se_call C (T 6 _ _ _ rfl) bp_6 (sl_cons (se_var 0) (sl_cons se_int sl_nil))))
  (ss_cons (ss_if (st_not (st_val (se_call C (T 27 _ _ _ rfl) bp_27 (sl_cons (se_var 1) sl_nil)))) (ss_one (ss_rs0 C F.x1)) ss_nil)
  (ss_one (ss_ret (se_var 1)))))
theorem b_35 (C : Cs (cxOf (L2.CX P w) P w K mg base ["fields", "told"] "fit_row_numbers" (defScope (top 46)) f cdv A outer s H E) (fun cls d _ H => E cls d H)) (F : Fx (amb (cxOf (L2.CX P w) P w K mg base ["fields", "told"] "fit_row_numbers" (defScope (top 46)) f cdv A outer s H E)) G) (T : Tab (amb (cxOf (L2.CX P w) P w K mg base ["fields", "told"] "fit_row_numbers" (defScope (top 46)) f cdv A outer s H E)) G c) (TV : TabV (amb (cxOf (L2.CX P w) P w K mg base ["fields", "told"] "fit_row_numbers" (defScope (top 46)) f cdv A outer s H E)) G (noStar [7, 8] c)) (TS : TabS (amb (cxOf (L2.CX P w) P w K mg base ["fields", "told"] "fit_row_numbers" (defScope (top 46)) f cdv A outer s H E)) G c) : SSs (cxOf (L2.CX P w) P w K mg base ["fields", "told"] "fit_row_numbers" (defScope (top 46)) f cdv A outer s H E) G [] (fun cls d _ H => E cls d H) (defBody (top 46)) (f_fit_row_numbers c) :=
  (ss_cons (ss_set 1 C (se_call C (T 6 _ _ _ rfl) bp_6 (sl_cons (se_var 0) (sl_cons se_int sl_nil))))
  (ss_cons (ss_if (st_not (st_val (se_call C (T 4 _ _ _ rfl) bp_4 (sl_cons (se_var 1) sl_nil)))) (ss_one (ss_rs0 C F.x1)) ss_nil)
  (ss_one (ss_ret (se_var 1)))))
theorem b_36 (C : Cs (cxOf (L2.CX P w) P w K mg base ["table", "fields", "field"] "check_rows" (defScope (top 47)) f cdv A outer s H E) (fun cls d _ H => E cls d H)) (F : Fx (amb (cxOf (L2.CX P w) P w K mg base ["table", "fields", "field"] "check_rows" (defScope (top 47)) f cdv A outer s H E)) G) (T : Tab (amb (cxOf (L2.CX P w) P w K mg base ["table", "fields", "field"] "check_rows" (defScope (top 47)) f cdv A outer s H E)) G c) (TV : TabV (amb (cxOf (L2.CX P w) P w K mg base ["table", "fields", "field"] "check_rows" (defScope (top 47)) f cdv A outer s H E)) G (noStar [7, 8] c)) (TS : TabS (amb (cxOf (L2.CX P w) P w K mg base ["table", "fields", "field"] "check_rows" (defScope (top 47)) f cdv A outer s H E)) G c) : SSs (cxOf (L2.CX P w) P w K mg base ["table", "fields", "field"] "check_rows" (defScope (top 47)) f cdv A outer s H E) G [] (fun cls d _ H => E cls d H) (defBody (top 47)) (f_check_rows c) :=
  (ss_one (ss_for C (si_val (se_var 1)) (sg_n 2 C) (ss_one (ss_if (st_cmp osGe (se_var 2) (se_bLen F.g_len (sl_cons (se_var 0) sl_nil))) (ss_one (ss_rs1 C F.x0 (se_var 2))) ss_nil))))
theorem b_37 (C : Cs (cxOf (L2.CX P w) P w K mg base ["thing", "many", "part"] "is_row_of_numbers" (defScope (top 48)) f cdv A outer s H E) (fun cls d _ H => E cls d H)) (F : Fx (amb (cxOf (L2.CX P w) P w K mg base ["thing", "many", "part"] "is_row_of_numbers" (defScope (top 48)) f cdv A outer s H E)) G) (T : Tab (amb (cxOf (L2.CX P w) P w K mg base ["thing", "many", "part"] "is_row_of_numbers" (defScope (top 48)) f cdv A outer s H E)) G c) (TV : TabV (amb (cxOf (L2.CX P w) P w K mg base ["thing", "many", "part"] "is_row_of_numbers" (defScope (top 48)) f cdv A outer s H E)) G (noStar [7, 8] c)) (TS : TabS (amb (cxOf (L2.CX P w) P w K mg base ["thing", "many", "part"] "is_row_of_numbers" (defScope (top 48)) f cdv A outer s H E)) G c) : SSs (cxOf (L2.CX P w) P w K mg base ["thing", "many", "part"] "is_row_of_numbers" (defScope (top 48)) f cdv A outer s H E) G [] (fun cls d _ H => E cls d H) (defBody (top 48)) (f_is_row_of_numbers c) :=
  (ss_one (ss_ret (se_And (se_call C (T 2 _ _ _ rfl) bp_2 (sl_cons (se_var 0) (sl_cons (se_var 1) sl_nil))) (se_one (se_call_all C F.g_all (sc_lc C (own := [("part", 2)]) (si_val (se_var 0)) (fun _ _ _ _ _ => (sg_n 2 (C.blk _ _ _ _ _))) (fun _ _ _ _ _ => sts_nil) (fun _ _ _ _ _ => (se_call (C.blk _ _ _ _ _) (T 0 _ _ _ rfl) bp_0 (sl_cons (se_var 2) sl_nil)))))))))
theorem b_38 (C : Cs (cxOf (L2.CX P w) P w K mg base ["skin", "thing"] "are_worths_of" (defScope (top 49)) f cdv A outer s H E) (fun cls d _ H => E cls d H)) (F : Fx (amb (cxOf (L2.CX P w) P w K mg base ["skin", "thing"] "are_worths_of" (defScope (top 49)) f cdv A outer s H E)) G) (T : Tab (amb (cxOf (L2.CX P w) P w K mg base ["skin", "thing"] "are_worths_of" (defScope (top 49)) f cdv A outer s H E)) G c) (TV : TabV (amb (cxOf (L2.CX P w) P w K mg base ["skin", "thing"] "are_worths_of" (defScope (top 49)) f cdv A outer s H E)) G (noStar [7, 8] c)) (TS : TabS (amb (cxOf (L2.CX P w) P w K mg base ["skin", "thing"] "are_worths_of" (defScope (top 49)) f cdv A outer s H E)) G c) : SSs (cxOf (L2.CX P w) P w K mg base ["skin", "thing"] "are_worths_of" (defScope (top 49)) f cdv A outer s H E) G [] (fun cls d _ H => E cls d H) (defBody (top 49)) (f_are_worths_of c) :=
  (ss_one (ss_ret (se_call C (T 37 _ _ _ rfl) bp_37 (sl_cons (se_var 1) (sl_cons (se_op osMul se_int (se_bLen F.g_len (sl_cons (se_var 0) sl_nil))) sl_nil)))))
theorem b_39 (C : Cs (cxOf (L2.CX P w) P w K mg base ["skin", "arrows", "pairing", "fields", "row", "edge", "one", "other", "turned", "at"] "pairing_sign" (defScope (top 50)) f cdv A outer s H E) (fun cls d _ H => E cls d H)) (F : Fx (amb (cxOf (L2.CX P w) P w K mg base ["skin", "arrows", "pairing", "fields", "row", "edge", "one", "other", "turned", "at"] "pairing_sign" (defScope (top 50)) f cdv A outer s H E)) G) (T : Tab (amb (cxOf (L2.CX P w) P w K mg base ["skin", "arrows", "pairing", "fields", "row", "edge", "one", "other", "turned", "at"] "pairing_sign" (defScope (top 50)) f cdv A outer s H E)) G c) (TV : TabV (amb (cxOf (L2.CX P w) P w K mg base ["skin", "arrows", "pairing", "fields", "row", "edge", "one", "other", "turned", "at"] "pairing_sign" (defScope (top 50)) f cdv A outer s H E)) G (noStar [7, 8] c)) (TS : TabS (amb (cxOf (L2.CX P w) P w K mg base ["skin", "arrows", "pairing", "fields", "row", "edge", "one", "other", "turned", "at"] "pairing_sign" (defScope (top 50)) f cdv A outer s H E)) G c) : SSs (cxOf (L2.CX P w) P w K mg base ["skin", "arrows", "pairing", "fields", "row", "edge", "one", "other", "turned", "at"] "pairing_sign" (defScope (top 50)) f cdv A outer s H E) G [] (fun cls d _ H => E cls d H) (defBody (top 50)) (f_pairing_sign c) :=
  (ss_cons (ss_set 3 C (se_call C (T 18 _ _ _ rfl) bp_18 (sl_cons (se_var 0) sl_nil)))
  (ss_cons (ss_set 4 C (se_lst sl_nil))
  (ss_cons (ss_for C (si_val (se_var 2)) (sg_n 5 C) (ss_cons (ss_asg (se_ix C (se_var 3) (se_var 5)) (sg_t C (sgl_cons (sg_n 6 C) (sgl_cons (sg_n 7 C) sgl_nil))))
  (ss_one (ss_expr (se_ext (se_var 4) (se_if (st_cmp (osEq C) (se_ix C (se_var 1) (se_var 5)) se_int) (se_tup (sl_cons (se_var 7) (sl_cons (se_var 6) sl_nil))) (se_tup (sl_cons (se_var 6) (sl_cons (se_var 7) sl_nil)))))))))
  (ss_cons (ss_set 8 C (se_bLen F.g_len (sl_cons (se_cnew (sc_lc2 C (own := [("at", 9), ("one", 6), ("other", 7)]) (vs1 := [7]) (si_enm F.g_enumerate (se_var 4)) (fun _ _ _ _ _ => (sg_t (C.blk _ _ _ _ _) (sgl_cons (sg_n 9 (C.blk _ _ _ _ _)) (sgl_cons (sg_n 6 (C.blk _ _ _ _ _)) sgl_nil)))) (fun _ _ _ _ _ => (si_val (se_sl (se_var 4) (so_some (se_var 9)) so_none))) (fun _ _ _ _ _ => (sg_n 7 (C.blk _ _ _ _ _))) (fun _ _ _ _ _ => (sts_one (st_cmp osGt (se_var 6) (se_var 7)))) (fun _ _ _ _ _ => (se_var 6)))) sl_nil)))
  (ss_one (ss_ret (se_if (st_cmp (osEq C) (se_op osMod (se_var 8) se_int) se_int) se_int (se_neg se_int))))))))
theorem b_40 (C : Cs (cxOf (L2.CX P w) P w K mg base ["skin", "arrows", "worths", "rows", "one", "other", "bit", "worth", "number", "_", "row"] "table_by_arrows" (defScope (top 51)) f cdv A outer s H E) (fun cls d _ H => E cls d H)) (F : Fx (amb (cxOf (L2.CX P w) P w K mg base ["skin", "arrows", "worths", "rows", "one", "other", "bit", "worth", "number", "_", "row"] "table_by_arrows" (defScope (top 51)) f cdv A outer s H E)) G) (T : Tab (amb (cxOf (L2.CX P w) P w K mg base ["skin", "arrows", "worths", "rows", "one", "other", "bit", "worth", "number", "_", "row"] "table_by_arrows" (defScope (top 51)) f cdv A outer s H E)) G c) (TV : TabV (amb (cxOf (L2.CX P w) P w K mg base ["skin", "arrows", "worths", "rows", "one", "other", "bit", "worth", "number", "_", "row"] "table_by_arrows" (defScope (top 51)) f cdv A outer s H E)) G (noStar [7, 8] c)) (TS : TabS (amb (cxOf (L2.CX P w) P w K mg base ["skin", "arrows", "worths", "rows", "one", "other", "bit", "worth", "number", "_", "row"] "table_by_arrows" (defScope (top 51)) f cdv A outer s H E)) G c) : SSs (cxOf (L2.CX P w) P w K mg base ["skin", "arrows", "worths", "rows", "one", "other", "bit", "worth", "number", "_", "row"] "table_by_arrows" (defScope (top 51)) f cdv A outer s H E) G [] (fun cls d _ H => E cls d H) (defBody (top 51)) (f_table_by_arrows c) :=
  (ss_cons (ss_setlc 3 C (own := [("_", 9)]) (si_val (se_var 0)) (fun _ _ _ _ _ => (sg_n 9 (C.blk _ _ _ _ _))) (fun _ _ _ _ _ => sts_nil) (fun _ _ _ _ _ => (se_op osMul (se_lst (sl_cons se_int sl_nil)) (se_bLen F.g_len (sl_cons (se_var 0) sl_nil)))))
  (ss_cons (ss_for C (si_zip3 F.g_zip (se_call C (T 18 _ _ _ rfl) bp_18 (sl_cons (se_var 0) sl_nil)) (se_var 1) (se_var 2)) (sg_t C (sgl_cons (sg_t C (sgl_cons (sg_n 4 C) (sgl_cons (sg_n 5 C) sgl_nil))) (sgl_cons (sg_n 6 C) (sgl_cons (sg_n 7 C) sgl_nil)))) (ss_cons (ss_set 8 C (se_if (st_cmp (osEq C) (se_var 6) se_int) (se_neg (se_var 7)) (se_var 7)))
  (ss_cons (ss_augx_add C (se_ix C (se_var 3) (se_var 4)) (se_var 5) (se_var 8))
  (ss_one (ss_augx_sub C (se_ix C (se_var 3) (se_var 5)) (se_var 4) (se_var 8))))))
  (ss_one (ss_ret (se_ctup F.g_tuple (sc_lc C (own := [("row", 10)]) (si_val (se_var 3)) (fun _ _ _ _ _ => (sg_n 10 (C.blk _ _ _ _ _))) (fun _ _ _ _ _ => sts_nil) (fun _ _ _ _ _ => (se_bTup F.g_tuple (sl_cons (se_var 10) sl_nil)))))))))
theorem b_41 (C : Cs (cxOf (L2.CX P w) P w K mg base ["table", "fields", "kept", "row", "far"] "without_rows" (defScope (top 52)) f cdv A outer s H E) (fun cls d _ H => E cls d H)) (F : Fx (amb (cxOf (L2.CX P w) P w K mg base ["table", "fields", "kept", "row", "far"] "without_rows" (defScope (top 52)) f cdv A outer s H E)) G) (T : Tab (amb (cxOf (L2.CX P w) P w K mg base ["table", "fields", "kept", "row", "far"] "without_rows" (defScope (top 52)) f cdv A outer s H E)) G c) (TV : TabV (amb (cxOf (L2.CX P w) P w K mg base ["table", "fields", "kept", "row", "far"] "without_rows" (defScope (top 52)) f cdv A outer s H E)) G (noStar [7, 8] c)) (TS : TabS (amb (cxOf (L2.CX P w) P w K mg base ["table", "fields", "kept", "row", "far"] "without_rows" (defScope (top 52)) f cdv A outer s H E)) G c) : SSs (cxOf (L2.CX P w) P w K mg base ["table", "fields", "kept", "row", "far"] "without_rows" (defScope (top 52)) f cdv A outer s H E) G [] (fun cls d _ H => E cls d H) (defBody (top 52)) (f_without_rows c) :=
  (ss_cons (ss_set 2 C (se_cnew (sc_lc C (own := [("row", 3)]) (si_rng1 F.g_range (se_bLen F.g_len (sl_cons (se_var 0) sl_nil))) (fun _ _ _ _ _ => (sg_n 3 (C.blk _ _ _ _ _))) (fun _ _ _ _ _ => (sts_one (st_cmpI (osNotIn (C.blk _ _ _ _ _)) (se_var 3) (se_var 1)))) (fun _ _ _ _ _ => (se_var 3)))))
  (ss_one (ss_ret (se_ctup F.g_tuple (sc_lc C (own := [("row", 3)]) (si_val (se_var 2)) (fun _ _ _ _ _ => (sg_n 3 (C.blk _ _ _ _ _))) (fun _ _ _ _ _ => sts_nil) (fun _ _ _ _ _ => (se_ctup F.g_tuple (sc_lc (C.blk _ _ _ _ _) (own := [("far", 4)]) (si_val (se_var 2)) (fun _ _ _ _ _ => (sg_n 4 ((C.blk _ _ _ _ _).blk _ _ _ _ _))) (fun _ _ _ _ _ => sts_nil) (fun _ _ _ _ _ => (se_ix ((C.blk _ _ _ _ _).blk _ _ _ _ _) (se_ix ((C.blk _ _ _ _ _).blk _ _ _ _ _) (se_var 0) (se_var 3)) (se_var 4)))))))))))
theorem b_42 (C : Cs (cxOf (L2.CX P w) P w K mg base ["table", "left", "told", "sign", "joined_to", "divisor", "row", "number"] "sum_over_pairs" (defScope (top 53)) f cdv A outer s H E) (fun cls d _ H => E cls d H)) (F : Fx (amb (cxOf (L2.CX P w) P w K mg base ["table", "left", "told", "sign", "joined_to", "divisor", "row", "number"] "sum_over_pairs" (defScope (top 53)) f cdv A outer s H E)) G) (T : Tab (amb (cxOf (L2.CX P w) P w K mg base ["table", "left", "told", "sign", "joined_to", "divisor", "row", "number"] "sum_over_pairs" (defScope (top 53)) f cdv A outer s H E)) G c) (TV : TabV (amb (cxOf (L2.CX P w) P w K mg base ["table", "left", "told", "sign", "joined_to", "divisor", "row", "number"] "sum_over_pairs" (defScope (top 53)) f cdv A outer s H E)) G (noStar [7, 8] c)) (TS : TabS (amb (cxOf (L2.CX P w) P w K mg base ["table", "left", "told", "sign", "joined_to", "divisor", "row", "number"] "sum_over_pairs" (defScope (top 53)) f cdv A outer s H E)) G c) : SSs (cxOf (L2.CX P w) P w K mg base ["table", "left", "told", "sign", "joined_to", "divisor", "row", "number"] "sum_over_pairs" (defScope (top 53)) f cdv A outer s H E) G [] (fun cls d _ H => E cls d H) (defBody (top 53)) (f_sum_over_pairs c) :=
  (ss_cons (ss_if (st_cmp (osEq C) (se_op osMod (se_bLen F.g_len (sl_cons (se_var 0) sl_nil)) se_int) se_int) (ss_one (ss_ret se_int)) ss_nil)
  (ss_cons (ss_set 1 C (se_var 0))
  (ss_cons (ss_asg (se_tup (sl_cons se_int (sl_cons se_int sl_nil))) (sg_t C (sgl_cons (sg_n 2 C) (sgl_cons (sg_n 3 C) sgl_nil))))
  (ss_cons (ss_wh C (st_tru (se_var 1)) (ss_cons (ss_setlc 4 C (own := [("row", 6), ("number", 7)]) (si_enm F.g_enumerate (se_ix C (se_var 1) se_int)) (fun _ _ _ _ _ => (sg_t (C.blk _ _ _ _ _) (sgl_cons (sg_n 6 (C.blk _ _ _ _ _)) (sgl_cons (sg_n 7 (C.blk _ _ _ _ _)) sgl_nil)))) (fun _ _ _ _ _ => (sts_one (st_cmp (osNe (C.blk _ _ _ _ _)) (se_var 7) se_int))) (fun _ _ _ _ _ => (se_var 6)))
  (ss_cons (ss_if (st_not (st_tru (se_var 4))) (ss_one (ss_ret se_int)) ss_nil)
  (ss_cons (ss_if (st_cmp (osNe C) (se_ix C (se_var 4) se_int) se_int) (ss_cons (ss_set 1 C (se_call C (T 43 _ _ _ rfl) bp_43 (sl_cons (se_var 1) (sl_cons se_int (sl_cons (se_ix C (se_var 4) se_int) sl_nil)))))
  (ss_one (ss_set 3 C (se_neg (se_var 3))))) ss_nil)
  (ss_cons (ss_set 5 C (se_var 2))
  (ss_cons (ss_set 2 C (se_ix C (se_ix C (se_var 1) se_int) se_int))
  (ss_one (ss_set 1 C (se_call C (T 44 _ _ _ rfl) bp_44 (sl_cons (se_var 1) (sl_cons (se_var 5) sl_nil)))))))))))
  (ss_one (ss_ret (se_op osMul (se_var 3) (se_var 2))))))))
theorem b_43 (C : Cs (cxOf (L2.CX P w) P w K mg base ["table", "one", "other", "order", "row", "far"] "with_exchanged" (defScope (top 54)) f cdv A outer s H E) (fun cls d _ H => E cls d H)) (F : Fx (amb (cxOf (L2.CX P w) P w K mg base ["table", "one", "other", "order", "row", "far"] "with_exchanged" (defScope (top 54)) f cdv A outer s H E)) G) (T : Tab (amb (cxOf (L2.CX P w) P w K mg base ["table", "one", "other", "order", "row", "far"] "with_exchanged" (defScope (top 54)) f cdv A outer s H E)) G c) (TV : TabV (amb (cxOf (L2.CX P w) P w K mg base ["table", "one", "other", "order", "row", "far"] "with_exchanged" (defScope (top 54)) f cdv A outer s H E)) G (noStar [7, 8] c)) (TS : TabS (amb (cxOf (L2.CX P w) P w K mg base ["table", "one", "other", "order", "row", "far"] "with_exchanged" (defScope (top 54)) f cdv A outer s H E)) G c) : SSs (cxOf (L2.CX P w) P w K mg base ["table", "one", "other", "order", "row", "far"] "with_exchanged" (defScope (top 54)) f cdv A outer s H E) G [] (fun cls d _ H => E cls d H) (defBody (top 54)) (f_with_exchanged c) :=
  (ss_cons (ss_set 3 C (se_lrng C F.g_list F.g_range (se_bLen F.g_len (sl_cons (se_var 0) sl_nil))))
  (ss_cons (ss_asg (se_var 2) (sg_s C (se_var 3) (se_var 1)))
  (ss_cons (ss_asg (se_var 1) (sg_s C (se_var 3) (se_var 2)))
  (ss_one (ss_ret (se_cnew (sc_lc C (own := [("row", 4)]) (si_val (se_var 3)) (fun _ _ _ _ _ => (sg_n 4 (C.blk _ _ _ _ _))) (fun _ _ _ _ _ => sts_nil) (fun _ _ _ _ _ => (se_cnew (sc_lc (C.blk _ _ _ _ _) (own := [("far", 5)]) (si_val (se_var 3)) (fun _ _ _ _ _ => (sg_n 5 ((C.blk _ _ _ _ _).blk _ _ _ _ _))) (fun _ _ _ _ _ => sts_nil) (fun _ _ _ _ _ => (se_ix ((C.blk _ _ _ _ _).blk _ _ _ _ _) (se_ix ((C.blk _ _ _ _ _).blk _ _ _ _ _) (se_var 0) (se_var 4)) (se_var 5)))))))))))))
theorem b_44 (C : Cs (cxOf (L2.CX P w) P w K mg base ["table", "divisor", "first", "second", "lead", "kept", "row", "far"] "two_rows_less" (defScope (top 55)) f cdv A outer s H E) (fun cls d _ H => E cls d H)) (F : Fx (amb (cxOf (L2.CX P w) P w K mg base ["table", "divisor", "first", "second", "lead", "kept", "row", "far"] "two_rows_less" (defScope (top 55)) f cdv A outer s H E)) G) (T : Tab (amb (cxOf (L2.CX P w) P w K mg base ["table", "divisor", "first", "second", "lead", "kept", "row", "far"] "two_rows_less" (defScope (top 55)) f cdv A outer s H E)) G c) (TV : TabV (amb (cxOf (L2.CX P w) P w K mg base ["table", "divisor", "first", "second", "lead", "kept", "row", "far"] "two_rows_less" (defScope (top 55)) f cdv A outer s H E)) G (noStar [7, 8] c)) (TS : TabS (amb (cxOf (L2.CX P w) P w K mg base ["table", "divisor", "first", "second", "lead", "kept", "row", "far"] "two_rows_less" (defScope (top 55)) f cdv A outer s H E)) G c) : SSs (cxOf (L2.CX P w) P w K mg base ["table", "divisor", "first", "second", "lead", "kept", "row", "far"] "two_rows_less" (defScope (top 55)) f cdv A outer s H E) G [] (fun cls d _ H => E cls d H) (defBody (top 55)) (f_two_rows_less c) :=
  (ss_cons (ss_asg (se_tup (sl_cons (se_ix C (se_var 0) se_int) (sl_cons (se_ix C (se_var 0) se_int) sl_nil))) (sg_t C (sgl_cons (sg_n 2 C) (sgl_cons (sg_n 3 C) sgl_nil))))
  (ss_cons (ss_set 4 C (se_ix C (se_var 2) se_int))
  (ss_cons (ss_set 5 C (se_rngv F.g_range se_int (se_bLen F.g_len (sl_cons (se_var 0) sl_nil))))
  (ss_one (ss_ret (se_cnew (sc_lc C (own := [("row", 6)]) (si_val (se_var 5)) (fun _ _ _ _ _ => (sg_n 6 (C.blk _ _ _ _ _))) (fun _ _ _ _ _ => sts_nil) (fun _ _ _ _ _ => (se_cnew (sc_lc (C.blk _ _ _ _ _) (own := [("far", 7)]) (si_val (se_var 5)) (fun _ _ _ _ _ => (sg_n 7 ((C.blk _ _ _ _ _).blk _ _ _ _ _))) (fun _ _ _ _ _ => sts_nil) (fun _ _ _ _ _ => (se_op osDiv (se_op osAdd (se_op osSub (se_op osMul (se_var 4) (se_ix ((C.blk _ _ _ _ _).blk _ _ _ _ _) (se_ix ((C.blk _ _ _ _ _).blk _ _ _ _ _) (se_var 0) (se_var 6)) (se_var 7))) (se_op osMul (se_ix ((C.blk _ _ _ _ _).blk _ _ _ _ _) (se_var 2) (se_var 6)) (se_ix ((C.blk _ _ _ _ _).blk _ _ _ _ _) (se_var 3) (se_var 7)))) (se_op osMul (se_ix ((C.blk _ _ _ _ _).blk _ _ _ _ _) (se_var 2) (se_var 7)) (se_ix ((C.blk _ _ _ _ _).blk _ _ _ _ _) (se_var 3) (se_var 6)))) (se_var 1)))))))))))))
theorem b_45 (C : Cs (cxOf (L2.CX P w) P w K mg base ["table", "one", "other", "near", "far", "sign"] "sum_with_pair" (defScope (top 56)) f cdv A outer s H E) (fun cls d _ H => E cls d H)) (F : Fx (amb (cxOf (L2.CX P w) P w K mg base ["table", "one", "other", "near", "far", "sign"] "sum_with_pair" (defScope (top 56)) f cdv A outer s H E)) G) (T : Tab (amb (cxOf (L2.CX P w) P w K mg base ["table", "one", "other", "near", "far", "sign"] "sum_with_pair" (defScope (top 56)) f cdv A outer s H E)) G c) (TV : TabV (amb (cxOf (L2.CX P w) P w K mg base ["table", "one", "other", "near", "far", "sign"] "sum_with_pair" (defScope (top 56)) f cdv A outer s H E)) G (noStar [7, 8] c)) (TS : TabS (amb (cxOf (L2.CX P w) P w K mg base ["table", "one", "other", "near", "far", "sign"] "sum_with_pair" (defScope (top 56)) f cdv A outer s H E)) G c) : SSs (cxOf (L2.CX P w) P w K mg base ["table", "one", "other", "near", "far", "sign"] "sum_with_pair" (defScope (top 56)) f cdv A outer s H E) G [] (fun cls d _ H => E cls d H) (defBody (top 56)) (f_sum_with_pair c) :=
  (ss_cons (ss_if (st_cmp (osEq C) (se_var 1) (se_var 2)) (ss_one (ss_ret se_int)) ss_nil)
  (ss_cons (ss_par2 3 4 C (se_bMin C F.g_min (sl_cons (se_var 1) (sl_cons (se_var 2) sl_nil))) (se_bMax C F.g_max (sl_cons (se_var 1) (sl_cons (se_var 2) sl_nil))))
  (ss_cons (ss_set 5 C (se_if (st_cmp (osEq C) (se_op osMod (se_op osSub (se_var 4) (se_var 3)) se_int) se_int) se_int (se_neg se_int)))
  (ss_one (ss_ret (se_op osMul (se_op osMul (se_var 5) (se_ix C (se_ix C (se_var 0) (se_var 3)) (se_var 4))) (se_call C (T 42 _ _ _ rfl) bp_42 (sl_cons (se_call C (T 41 _ _ _ rfl) bp_41 (sl_cons (se_var 0) (sl_cons (se_tup (sl_cons (se_var 3) (sl_cons (se_var 4) sl_nil))) sl_nil))) sl_nil))))))))
theorem b_46 (C : Cs (cxOf (L2.CX P w) P w K mg base ["script", "k", "bit_so"] "_law_box" (defScope (top 58)) f cdv A outer s H E) (fun cls d _ H => E cls d H)) (F : Fx (amb (cxOf (L2.CX P w) P w K mg base ["script", "k", "bit_so"] "_law_box" (defScope (top 58)) f cdv A outer s H E)) G) (T : Tab (amb (cxOf (L2.CX P w) P w K mg base ["script", "k", "bit_so"] "_law_box" (defScope (top 58)) f cdv A outer s H E)) G c) (TV : TabV (amb (cxOf (L2.CX P w) P w K mg base ["script", "k", "bit_so"] "_law_box" (defScope (top 58)) f cdv A outer s H E)) G (noStar [7, 8] c)) (TS : TabS (amb (cxOf (L2.CX P w) P w K mg base ["script", "k", "bit_so"] "_law_box" (defScope (top 58)) f cdv A outer s H E)) G c) : SSs (cxOf (L2.CX P w) P w K mg base ["script", "k", "bit_so"] "_law_box" (defScope (top 58)) f cdv A outer s H E) G [] (fun cls d _ H => E cls d H) (defBody (top 58)) (f_law_box c) :=
  (ss_cons (ss_set 2 C (se_if (st_cmp (osLt C) (se_var 1) (se_bLen F.g_len (sl_cons (se_var 0) sl_nil))) (se_ix C (se_var 0) (se_var 1)) se_int))
  (ss_one (ss_ret (se_lst (sl_cons (se_op osMul (se_bAbs F.g_abs (sl_cons (se_var 2) sl_nil)) (se_bInt F.g_int (sl_cons (se_cmp osGe (se_bAbs F.g_abs (sl_cons (se_var 2) sl_nil)) (se_op osPow se_int se_int)) sl_nil))) (sl_cons (se_op osAdd (se_op osAdd (se_op osMod (se_bInt F.g_int (sl_cons (se_var 2) sl_nil)) se_int) (se_op osMul se_int (se_var 1))) se_int) (sl_cons se_int sl_nil)))))))
theorem b_47 (C : Cs (cxOf (L2.CX P w) P w K mg base ["tin", "below_so", "drawn", "once_so", "wide_so", "twice_so"] "_law_take" (defScope (top 59)) f cdv A outer s H E) (fun cls d _ H => E cls d H)) (F : Fx (amb (cxOf (L2.CX P w) P w K mg base ["tin", "below_so", "drawn", "once_so", "wide_so", "twice_so"] "_law_take" (defScope (top 59)) f cdv A outer s H E)) G) (T : Tab (amb (cxOf (L2.CX P w) P w K mg base ["tin", "below_so", "drawn", "once_so", "wide_so", "twice_so"] "_law_take" (defScope (top 59)) f cdv A outer s H E)) G c) (TV : TabV (amb (cxOf (L2.CX P w) P w K mg base ["tin", "below_so", "drawn", "once_so", "wide_so", "twice_so"] "_law_take" (defScope (top 59)) f cdv A outer s H E)) G (noStar [7, 8] c)) (TS : TabS (amb (cxOf (L2.CX P w) P w K mg base ["tin", "below_so", "drawn", "once_so", "wide_so", "twice_so"] "_law_take" (defScope (top 59)) f cdv A outer s H E)) G c) : SSs (cxOf (L2.CX P w) P w K mg base ["tin", "below_so", "drawn", "once_so", "wide_so", "twice_so"] "_law_take" (defScope (top 59)) f cdv A outer s H E) G [] (fun cls d _ H => E cls d H) (defBody (top 59)) (f_law_take c) :=
  (ss_cons (ss_if (st_cmp osGt (se_ix C (se_var 0) se_int) se_int) (ss_cons (ss_set 2 C (se_op osMod (se_bInt F.g_int (sl_cons (se_ix C (se_var 0) se_int) sl_nil)) (se_var 1)))
  (ss_cons (ss_asg (se_op osDiv (se_ix C (se_var 0) se_int) (se_var 1)) (sg_s C (se_var 0) se_int))
  (ss_one (ss_ret (se_var 2))))) ss_nil)
  (ss_cons (ss_asg (se_op osAdd (se_ix C (se_var 0) se_int) se_int) (sg_s C (se_var 0) se_int))
  (ss_cons (ss_set 3 C (se_op osMod (se_bInt F.g_int (sl_cons (se_op osMul (se_op osAdd (se_ix C (se_var 0) se_int) (se_op osMul se_int (se_ix C (se_var 0) se_int))) (se_op osAdd se_int (se_ix C (se_var 0) se_int))) sl_nil)) se_int))
  (ss_cons (ss_set 4 C (se_op osAdd (se_op osMod (se_bInt F.g_int (sl_cons (se_var 3) sl_nil)) se_int) se_int))
  (ss_cons (ss_set 5 C (se_op osMod (se_bInt F.g_int (sl_cons (se_op osMul (se_op osAdd (se_op osAdd (se_var 3) (se_ix C (se_var 0) se_int)) (se_op osDiv (se_ix C (se_var 0) se_int) se_int)) (se_var 4)) sl_nil)) se_int))
  (ss_one (ss_ret (se_op osMod (se_bInt F.g_int (sl_cons (se_op osDiv (se_op osMod (se_bInt F.g_int (sl_cons (se_op osAdd (se_op osMul (se_var 5) se_int) (se_var 3)) sl_nil)) se_int) se_int) sl_nil)) (se_var 1)))))))))
theorem b_48 (C : Cs (cxOf (L2.CX P w) P w K mg base ["script", "most_so", "cells_so", "k", "bit_so", "at_so"] "_law_cells" (defScope (top 60)) f cdv A outer s H E) (fun cls d _ H => E cls d H)) (F : Fx (amb (cxOf (L2.CX P w) P w K mg base ["script", "most_so", "cells_so", "k", "bit_so", "at_so"] "_law_cells" (defScope (top 60)) f cdv A outer s H E)) G) (T : Tab (amb (cxOf (L2.CX P w) P w K mg base ["script", "most_so", "cells_so", "k", "bit_so", "at_so"] "_law_cells" (defScope (top 60)) f cdv A outer s H E)) G c) (TV : TabV (amb (cxOf (L2.CX P w) P w K mg base ["script", "most_so", "cells_so", "k", "bit_so", "at_so"] "_law_cells" (defScope (top 60)) f cdv A outer s H E)) G (noStar [7, 8] c)) (TS : TabS (amb (cxOf (L2.CX P w) P w K mg base ["script", "most_so", "cells_so", "k", "bit_so", "at_so"] "_law_cells" (defScope (top 60)) f cdv A outer s H E)) G c) : SSs (cxOf (L2.CX P w) P w K mg base ["script", "most_so", "cells_so", "k", "bit_so", "at_so"] "_law_cells" (defScope (top 60)) f cdv A outer s H E) G [] (fun cls d _ H => E cls d H) (defBody (top 60)) (f_law_cells c) :=
  (ss_cons (ss_set 2 C (se_OrT (se_bList F.g_list (sl_cons (se_sl (se_var 0) so_none (so_some (se_var 1))) sl_nil)) (se_one (se_lst (sl_cons se_int sl_nil)))))
  (ss_cons (ss_for C (si_enm F.g_enumerate (se_sl (se_var 0) (so_some (se_var 1)) (so_some se_int))) (sg_t C (sgl_cons (sg_n 3 C) (sgl_cons (sg_n 4 C) sgl_nil))) (ss_cons (ss_set 5 C (se_op osMod (se_bInt F.g_int (sl_cons (se_var 3) sl_nil)) (se_var 1)))
  (ss_one (ss_asg (se_op osAdd (se_ix C (se_var 2) (se_var 5)) (se_op osMul (se_var 4) (se_op osAdd (se_var 3) se_int))) (sg_s C (se_var 2) (se_var 5))))))
  (ss_one (ss_ret (se_var 2)))))
theorem b_49 (C : Cs (cxOf (L2.CX P w) P w K mg base ["matter", "bit"] "_law_lists" (defScope (top 61)) f cdv A outer s H E) (fun cls d _ H => E cls d H)) (F : Fx (amb (cxOf (L2.CX P w) P w K mg base ["matter", "bit"] "_law_lists" (defScope (top 61)) f cdv A outer s H E)) G) (T : Tab (amb (cxOf (L2.CX P w) P w K mg base ["matter", "bit"] "_law_lists" (defScope (top 61)) f cdv A outer s H E)) G c) (TV : TabV (amb (cxOf (L2.CX P w) P w K mg base ["matter", "bit"] "_law_lists" (defScope (top 61)) f cdv A outer s H E)) G (noStar [7, 8] c)) (TS : TabS (amb (cxOf (L2.CX P w) P w K mg base ["matter", "bit"] "_law_lists" (defScope (top 61)) f cdv A outer s H E)) G c) : SSs (cxOf (L2.CX P w) P w K mg base ["matter", "bit"] "_law_lists" (defScope (top 61)) f cdv A outer s H E) G [] (fun cls d _ H => E cls d H) (defBody (top 61)) (f_law_lists c) :=
  (ss_one (ss_ret (se_if (st_val (se_bIs F.g_isinstance (sl_cons (se_var 0) (sl_cons (se_tup (sl_cons (se_ty "list" F.g_list PyProof.Rows.boot_list) (sl_cons (se_ty "tuple" F.g_tuple PyProof.Rows.boot_tuple) sl_nil))) sl_nil)))) (se_cnew (sc_lc C (own := [("bit", 1)]) (si_val (se_var 0)) (fun _ _ _ _ _ => (sg_n 1 (C.blk _ _ _ _ _))) (fun _ _ _ _ _ => sts_nil) (fun _ _ _ _ _ => (se_call (C.blk _ _ _ _ _) (T 49 _ _ _ rfl) bp_49 (sl_cons (se_var 1) sl_nil))))) (se_var 0))))
theorem b_50 (C : Cs (cxOf (L2.CX P w) P w K mg base ["got", "due", "mine", "its"] "_law_same" (defScope (top 62)) f cdv A outer s H E) (fun cls d _ H => E cls d H)) (F : Fx (amb (cxOf (L2.CX P w) P w K mg base ["got", "due", "mine", "its"] "_law_same" (defScope (top 62)) f cdv A outer s H E)) G) (T : Tab (amb (cxOf (L2.CX P w) P w K mg base ["got", "due", "mine", "its"] "_law_same" (defScope (top 62)) f cdv A outer s H E)) G c) (TV : TabV (amb (cxOf (L2.CX P w) P w K mg base ["got", "due", "mine", "its"] "_law_same" (defScope (top 62)) f cdv A outer s H E)) G (noStar [7, 8] c)) (TS : TabS (amb (cxOf (L2.CX P w) P w K mg base ["got", "due", "mine", "its"] "_law_same" (defScope (top 62)) f cdv A outer s H E)) G c) : SSs (cxOf (L2.CX P w) P w K mg base ["got", "due", "mine", "its"] "_law_same" (defScope (top 62)) f cdv A outer s H E) G [] (fun cls d _ H => E cls d H) (defBody (top 62)) (f_law_same c) :=
  (ss_cons (ss_if (st_val (se_bIs F.g_isinstance (sl_cons (se_var 1) (sl_cons (se_tup (sl_cons (se_ty "list" F.g_list PyProof.Rows.boot_list) (sl_cons (se_ty "tuple" F.g_tuple PyProof.Rows.boot_tuple) sl_nil))) sl_nil)))) (ss_cons (ss_if (st_w (sw_Or (st_cmp (osNe C) (se_bIs F.g_isinstance (sl_cons (se_var 0) (sl_cons (se_ty "list" F.g_list PyProof.Rows.boot_list) sl_nil))) (se_bIs F.g_isinstance (sl_cons (se_var 1) (sl_cons (se_ty "list" F.g_list PyProof.Rows.boot_list) sl_nil)))) (sw_Or1 (st_cmp (osNe C) (se_bIs F.g_isinstance (sl_cons (se_var 0) (sl_cons (se_ty "tuple" F.g_tuple PyProof.Rows.boot_tuple) sl_nil))) (se_bIs F.g_isinstance (sl_cons (se_var 1) (sl_cons (se_ty "tuple" F.g_tuple PyProof.Rows.boot_tuple) sl_nil))))))) (ss_one (ss_ret se_bl)) ss_nil)
  (ss_one (ss_ret (se_And (se_cmp (osEq C) (se_bLen F.g_len (sl_cons (se_var 0) sl_nil)) (se_bLen F.g_len (sl_cons (se_var 1) sl_nil))) (se_one (se_call_all C F.g_all (sc_lc C (own := [("mine", 2), ("its", 3)]) (si_zipB F.g_zip (se_var 0) (se_var 1)) (fun _ _ _ _ _ => (sg_t (C.blk _ _ _ _ _) (sgl_cons (sg_n 2 (C.blk _ _ _ _ _)) (sgl_cons (sg_n 3 (C.blk _ _ _ _ _)) sgl_nil)))) (fun _ _ _ _ _ => sts_nil) (fun _ _ _ _ _ => (se_call (C.blk _ _ _ _ _) (T 50 _ _ _ rfl) bp_50 (sl_cons (se_var 2) (sl_cons (se_var 3) sl_nil))))))))))) ss_nil)
  (ss_cons (ss_if (st_w (sw_Or (st_cmp osIsN (se_var 1) se_non) (sw_Or1 (st_val (se_bIs F.g_isinstance (sl_cons (se_var 1) (sl_cons (se_tup (sl_cons (se_ty "bool" F.g_bool PyProof.Rows.boot_bool) (sl_cons (se_ty "str" F.g_str PyProof.Rows.boot_str) sl_nil))) sl_nil))))))) (ss_one (ss_ret (se_And (se_cmp (osEq C) (se_var 0) (se_var 1)) (se_And (se_cmp (osEq C) (se_bIs F.g_isinstance (sl_cons (se_var 0) (sl_cons (se_ty "bool" F.g_bool PyProof.Rows.boot_bool) sl_nil))) (se_bIs F.g_isinstance (sl_cons (se_var 1) (sl_cons (se_ty "bool" F.g_bool PyProof.Rows.boot_bool) sl_nil)))) (se_one (se_cmp (osEq C) (se_cmp osIsN (se_var 0) se_non) (se_cmp osIsN (se_var 1) se_non))))))) ss_nil)
  (ss_one (ss_ret (se_And (se_bIs F.g_isinstance (sl_cons (se_var 0) (sl_cons (se_ty "int" F.g_int PyProof.Rows.boot_int) sl_nil))) (se_And (se_not (se_bIs F.g_isinstance (sl_cons (se_var 0) (sl_cons (se_ty "bool" F.g_bool PyProof.Rows.boot_bool) sl_nil)))) (se_one (se_cmp (osEq C) (se_var 0) (se_var 1)))))))))
theorem b_51 (C : Cs (cxOf (L2.CX P w) P w K mg base ["wide_so", "high_so", "found", "k", "x", "y", "right_so", "left_so", "up_so", "down_so"] "_law_square" (defScope (top 63)) f cdv A outer s H E) (fun cls d _ H => E cls d H)) (F : Fx (amb (cxOf (L2.CX P w) P w K mg base ["wide_so", "high_so", "found", "k", "x", "y", "right_so", "left_so", "up_so", "down_so"] "_law_square" (defScope (top 63)) f cdv A outer s H E)) G) (T : Tab (amb (cxOf (L2.CX P w) P w K mg base ["wide_so", "high_so", "found", "k", "x", "y", "right_so", "left_so", "up_so", "down_so"] "_law_square" (defScope (top 63)) f cdv A outer s H E)) G c) (TV : TabV (amb (cxOf (L2.CX P w) P w K mg base ["wide_so", "high_so", "found", "k", "x", "y", "right_so", "left_so", "up_so", "down_so"] "_law_square" (defScope (top 63)) f cdv A outer s H E)) G (noStar [7, 8] c)) (TS : TabS (amb (cxOf (L2.CX P w) P w K mg base ["wide_so", "high_so", "found", "k", "x", "y", "right_so", "left_so", "up_so", "down_so"] "_law_square" (defScope (top 63)) f cdv A outer s H E)) G c) : SSs (cxOf (L2.CX P w) P w K mg base ["wide_so", "high_so", "found", "k", "x", "y", "right_so", "left_so", "up_so", "down_so"] "_law_square" (defScope (top 63)) f cdv A outer s H E) G [] (fun cls d _ H => E cls d H) (defBody (top 63)) (f_law_square c) :=
  (ss_cons (ss_set 2 C (se_lst sl_nil))
  (ss_cons (ss_for C (si_rng1 F.g_range (se_op osMul (se_var 0) (se_var 1))) (sg_n 3 C) (ss_cons (ss_par2 4 5 C (se_op osMod (se_bInt F.g_int (sl_cons (se_var 3) sl_nil)) (se_var 0)) (se_op osDiv (se_var 3) (se_var 0)))
  (ss_cons (ss_par2 6 7 C (se_op osMod (se_bInt F.g_int (sl_cons (se_op osAdd (se_var 4) se_int) sl_nil)) (se_var 0)) (se_op osMod (se_bInt F.g_int (sl_cons (se_op osSub (se_op osAdd (se_var 4) (se_var 0)) se_int) sl_nil)) (se_var 0)))
  (ss_cons (ss_par2 8 9 C (se_op osMod (se_bInt F.g_int (sl_cons (se_op osAdd (se_var 5) se_int) sl_nil)) (se_var 1)) (se_op osMod (se_bInt F.g_int (sl_cons (se_op osSub (se_op osAdd (se_var 5) (se_var 1)) se_int) sl_nil)) (se_var 1)))
  (ss_one (ss_expr (se_app (se_var 2) (se_tup (sl_cons (se_tup (sl_cons (se_op osAdd (se_op osMul (se_var 5) (se_var 0)) (se_var 6)) (sl_cons se_int sl_nil))) (sl_cons (se_tup (sl_cons (se_op osAdd (se_op osMul (se_var 8) (se_var 0)) (se_var 4)) (sl_cons se_int sl_nil))) (sl_cons (se_tup (sl_cons (se_op osAdd (se_op osMul (se_var 5) (se_var 0)) (se_var 7)) (sl_cons se_int sl_nil))) (sl_cons (se_tup (sl_cons (se_op osAdd (se_op osMul (se_var 9) (se_var 0)) (se_var 4)) (sl_cons se_int sl_nil))) sl_nil))))))))))))
  (ss_one (ss_ret (se_bTup F.g_tuple (sl_cons (se_var 2) sl_nil))))))
theorem b_52 (C : Cs (cxOf (L2.CX P w) P w K mg base ["twin", "four"] "_law_told_skins" (defScope (top 64)) f cdv A outer s H E) (fun cls d _ H => E cls d H)) (F : Fx (amb (cxOf (L2.CX P w) P w K mg base ["twin", "four"] "_law_told_skins" (defScope (top 64)) f cdv A outer s H E)) G) (T : Tab (amb (cxOf (L2.CX P w) P w K mg base ["twin", "four"] "_law_told_skins" (defScope (top 64)) f cdv A outer s H E)) G c) (TV : TabV (amb (cxOf (L2.CX P w) P w K mg base ["twin", "four"] "_law_told_skins" (defScope (top 64)) f cdv A outer s H E)) G (noStar [7, 8] c)) (TS : TabS (amb (cxOf (L2.CX P w) P w K mg base ["twin", "four"] "_law_told_skins" (defScope (top 64)) f cdv A outer s H E)) G c) : SSs (cxOf (L2.CX P w) P w K mg base ["twin", "four"] "_law_told_skins" (defScope (top 64)) f cdv A outer s H E) G [] (fun cls d _ H => E cls d H) (defBody (top 64)) (f_law_told_skins c) :=
  (ss_cons (ss_set 0 C (se_tup (sl_cons (se_tup (sl_cons (se_tup (sl_cons se_int (sl_cons se_int sl_nil))) (sl_cons (se_tup (sl_cons se_int (sl_cons se_int sl_nil))) (sl_cons (se_tup (sl_cons se_int (sl_cons se_int sl_nil))) (sl_cons (se_tup (sl_cons se_int (sl_cons se_int sl_nil))) sl_nil))))) (sl_cons (se_tup (sl_cons (se_tup (sl_cons se_int (sl_cons se_int sl_nil))) (sl_cons (se_tup (sl_cons se_int (sl_cons se_int sl_nil))) (sl_cons (se_tup (sl_cons se_int (sl_cons se_int sl_nil))) (sl_cons (se_tup (sl_cons se_int (sl_cons se_int sl_nil))) sl_nil))))) sl_nil))))
  (ss_cons (ss_set 1 C (se_tup (sl_cons (se_tup (sl_cons se_int (sl_cons se_int (sl_cons se_int (sl_cons se_int sl_nil))))) (sl_cons (se_tup (sl_cons (se_neg se_int) (sl_cons se_int (sl_cons se_int (sl_cons se_int sl_nil))))) (sl_cons (se_tup (sl_cons (se_neg se_int) (sl_cons (se_neg se_int) (sl_cons se_int (sl_cons se_int sl_nil))))) (sl_cons (se_tup (sl_cons (se_neg se_int) (sl_cons (se_neg se_int) (sl_cons (se_neg se_int) (sl_cons se_int sl_nil))))) sl_nil))))))
  (ss_one (ss_ret (se_tup (sl_cons (se_var 0) (sl_cons (se_call C (T 51 _ _ _ rfl) bp_51 (sl_cons se_int (sl_cons se_int sl_nil))) (sl_cons (se_tup (sl_cons se_int (sl_cons se_int (sl_cons se_int (sl_cons se_int (sl_cons se_int (sl_cons se_int (sl_cons se_int (sl_cons se_int sl_nil))))))))) (sl_cons (se_tup (sl_cons se_int (sl_cons se_int (sl_cons se_int (sl_cons se_int (sl_cons se_int (sl_cons se_int (sl_cons se_int (sl_cons (se_neg se_int) sl_nil))))))))) (sl_cons (se_var 1) sl_nil))))))))))
theorem b_53 (C : Cs (cxOf (L2.CX P w) P w K mg base ["door_so", "parts_so", "slip_so"] "_law_heard" (defScope (top 65)) f cdv A outer s H E) (fun cls d _ H => E cls d H)) (F : Fx (amb (cxOf (L2.CX P w) P w K mg base ["door_so", "parts_so", "slip_so"] "_law_heard" (defScope (top 65)) f cdv A outer s H E)) G) (T : Tab (amb (cxOf (L2.CX P w) P w K mg base ["door_so", "parts_so", "slip_so"] "_law_heard" (defScope (top 65)) f cdv A outer s H E)) G c) (TV : TabV (amb (cxOf (L2.CX P w) P w K mg base ["door_so", "parts_so", "slip_so"] "_law_heard" (defScope (top 65)) f cdv A outer s H E)) G (noStar [7, 8] c)) (TS : TabS (amb (cxOf (L2.CX P w) P w K mg base ["door_so", "parts_so", "slip_so"] "_law_heard" (defScope (top 65)) f cdv A outer s H E)) G c) : SSs (cxOf (L2.CX P w) P w K mg base ["door_so", "parts_so", "slip_so"] "_law_heard" (defScope (top 65)) f cdv A outer s H E) G [] (fun cls d _ H => E cls d H) (defBody (top 65)) (f_law_heard c) :=
  (ss_one (ss_tryN C rfl rfl F.exm (fun _ _ _ C => (ss_cons (ss_if (st_cmp (osEq C) (se_var 0) se_int) (ss_one (ss_ret (se_call C (T 28 _ _ _ rfl) bp_28 (sl_cons (se_ix C (se_var 1) se_int) sl_nil)))) ss_nil)
  (ss_cons (ss_if (st_cmp (osLt C) (se_var 0) se_int) (ss_one (ss_ret (se_callV C TV (se_ix C (se_tup (sl_cons (se_fnv (T 29 _ _ _ rfl).mg) (sl_cons (se_fnv (T 30 _ _ _ rfl).mg) (sl_cons (se_fnv (T 32 _ _ _ rfl).mg) sl_nil)))) (se_op osSub (se_var 0) se_int)) (sl_cons (se_ix C (se_var 1) se_int) (sl_cons (se_ix C (se_var 1) se_int) sl_nil))))) ss_nil)
  (ss_cons (ss_if (st_cmp (osLt C) (se_var 0) se_int) (ss_one (ss_ret (se_callV C TV (se_ix C (se_tup (sl_cons (se_fnv (T 25 _ _ _ rfl).mg) (sl_cons (se_fnv (T 26 _ _ _ rfl).mg) (sl_cons (se_fnv (T 24 _ _ _ rfl).mg) sl_nil)))) (se_op osSub (se_var 0) se_int)) (sl_cons (se_ix C (se_var 1) se_int) (sl_cons (se_ix C (se_var 1) se_int) (sl_cons (se_ix C (se_var 1) se_int) sl_nil)))))) ss_nil)
  (ss_one (ss_ret (se_call C (T 31 _ _ _ rfl) bp_31 (sl_cons (se_ix C (se_var 1) se_int) (sl_cons (se_ix C (se_var 1) se_int) (sl_cons (se_ix C (se_var 1) se_int) (sl_cons (se_ix C (se_var 1) se_int) sl_nil))))))))))) (sh_cons F.m0 (fun a oe cls d pns x hz hf hx => (ss_one (ss_ret (se_lst (sl_cons (se_str rfl) (sl_cons (se_xf hz hf hx F.x0) (sl_cons (se_xis "LookupError" hz hf hx F.k0 F.i0_LookupError (by rw [hx]; rfl) F.g_isinstance F.g_LookupError (by decide +kernel)) sl_nil))))))) (sh_cons F.m1 (fun a oe cls d pns x hz hf hx => (ss_one (ss_ret (se_lst (sl_cons (se_str rfl) (sl_cons (se_xis "ValueError" hz hf hx F.k1 F.i1_ValueError (by rw [hx]; rfl) F.g_isinstance F.g_ValueError (by decide +kernel)) sl_nil)))))) sh_nil))))
theorem b_54 (C : Cs (cxOf (L2.CX P w) P w K mg base ["twin", "quad", "darts", "loads", "four", "got", "due", "things_so", "own"] "_law_always_right" (defScope (top 66)) f cdv A outer s H E) (fun cls d _ H => E cls d H)) (F : Fx (amb (cxOf (L2.CX P w) P w K mg base ["twin", "quad", "darts", "loads", "four", "got", "due", "things_so", "own"] "_law_always_right" (defScope (top 66)) f cdv A outer s H E)) G) (T : Tab (amb (cxOf (L2.CX P w) P w K mg base ["twin", "quad", "darts", "loads", "four", "got", "due", "things_so", "own"] "_law_always_right" (defScope (top 66)) f cdv A outer s H E)) G c) (TV : TabV (amb (cxOf (L2.CX P w) P w K mg base ["twin", "quad", "darts", "loads", "four", "got", "due", "things_so", "own"] "_law_always_right" (defScope (top 66)) f cdv A outer s H E)) G (noStar [7, 8] c)) (TS : TabS (amb (cxOf (L2.CX P w) P w K mg base ["twin", "quad", "darts", "loads", "four", "got", "due", "things_so", "own"] "_law_always_right" (defScope (top 66)) f cdv A outer s H E)) G c) : SSs (cxOf (L2.CX P w) P w K mg base ["twin", "quad", "darts", "loads", "four", "got", "due", "things_so", "own"] "_law_always_right" (defScope (top 66)) f cdv A outer s H E) G [] (fun cls d _ H => E cls d H) (defBody (top 66)) (f_law_always_right c) :=
  (ss_cons (ss_asg (se_call0 C (T 52 _ _ _ rfl) bp_52) (sg_t C (sgl_cons (sg_n 0 C) (sgl_cons (sg_n 1 C) (sgl_cons (sg_n 2 C) (sgl_cons (sg_n 3 C) (sgl_cons (sg_n 4 C) sgl_nil)))))))
  (ss_cons (ss_set 5 C (se_lst (sl_cons (se_call C (T 53 _ _ _ rfl) bp_53 (sl_cons se_int (sl_cons (se_tup (sl_cons (se_var 4) (sl_cons (se_tup (sl_cons se_int (sl_cons se_int sl_nil))) sl_nil))) sl_nil))) (sl_cons (se_call C (T 53 _ _ _ rfl) bp_53 (sl_cons se_int (sl_cons (se_tup (sl_cons (se_var 4) (sl_cons (se_tup (sl_cons se_int (sl_cons se_int (sl_cons se_int sl_nil)))) sl_nil))) sl_nil))) (sl_cons (se_call C (T 27 _ _ _ rfl) bp_27 (sl_cons (se_var 4) sl_nil)) (sl_cons (se_call C (T 27 _ _ _ rfl) bp_27 (sl_cons (se_tup sl_nil) sl_nil)) (sl_cons (se_call C (T 27 _ _ _ rfl) bp_27 (sl_cons (se_tup (sl_cons (se_tup (sl_cons se_int sl_nil)) sl_nil)) sl_nil)) (sl_cons (se_call C (T 27 _ _ _ rfl) bp_27 (sl_cons (se_tup (sl_cons (se_tup (sl_cons se_int (sl_cons se_int sl_nil))) (sl_cons (se_tup (sl_cons se_int (sl_cons se_int sl_nil))) sl_nil))) sl_nil)) sl_nil))))))))
  (ss_cons (ss_set 6 C (se_lst (sl_cons (se_lst (sl_cons (se_str rfl) (sl_cons se_int (sl_cons se_bl sl_nil)))) (sl_cons (se_lst (sl_cons (se_str rfl) (sl_cons se_int (sl_cons se_bl sl_nil)))) (sl_cons se_bl (sl_cons se_bl (sl_cons se_bl (sl_cons se_bl sl_nil))))))))
  (ss_cons (ss_set 7 C (se_lst (sl_cons (se_tup (sl_cons (se_tup (sl_cons se_int sl_nil)) sl_nil)) (sl_cons (se_tup (sl_cons (se_tup (sl_cons se_int (sl_cons se_int sl_nil))) sl_nil)) (sl_cons (se_tup (sl_cons (se_tup (sl_cons se_int (sl_cons se_int sl_nil))) (sl_cons (se_tup (sl_cons (se_neg se_int) sl_nil)) sl_nil))) (sl_cons (se_lst (sl_cons (se_tup (sl_cons se_int sl_nil)) sl_nil)) (sl_cons (se_tup (sl_cons (se_lst (sl_cons se_int sl_nil)) sl_nil)) (sl_cons se_non (sl_cons se_int (sl_cons (se_str rfl) (sl_cons (se_tup (sl_cons (se_tup (sl_cons se_int (sl_cons se_bl sl_nil))) (sl_cons (se_tup (sl_cons (se_neg se_int) (sl_cons se_int sl_nil))) sl_nil))) (sl_cons (se_tup (sl_cons (se_tup (sl_cons se_int (sl_cons se_int sl_nil))) (sl_cons (se_tup (sl_cons (se_neg se_int) (sl_cons se_bl sl_nil))) sl_nil))) (sl_cons (se_tup (sl_cons se_int sl_nil)) (sl_cons (se_tup (sl_cons (se_tup (sl_cons se_int (sl_cons se_int sl_nil))) (sl_cons (se_tup (sl_cons (se_neg se_int) (sl_cons se_int sl_nil))) (sl_cons (se_tup sl_nil) sl_nil)))) (sl_cons (se_tup (sl_cons (se_tup sl_nil) (sl_cons (se_tup sl_nil) sl_nil))) sl_nil)))))))))))))))
  (ss_one (ss_ret (se_call C (T 50 _ _ _ rfl) bp_50 (sl_cons (se_op osAdd (se_var 5) (se_lst (sl_cons (se_cnew (sc_lc C (own := [("own", 8)]) (si_val (se_var 7)) (fun _ _ _ _ _ => (sg_n 8 (C.blk _ _ _ _ _))) (fun _ _ _ _ _ => sts_nil) (fun _ _ _ _ _ => (se_call (C.blk _ _ _ _ _) (T 27 _ _ _ rfl) bp_27 (sl_cons (se_var 8) sl_nil))))) sl_nil))) (sl_cons (se_op osAdd (se_var 6) (se_lst (sl_cons (se_op osMul (se_lst (sl_cons se_bl sl_nil)) se_int) sl_nil))) sl_nil)))))))))
theorem b_55 (C : Cs (cxOf (L2.CX P w) P w K mg base ["twin", "quad", "darts", "loads", "four", "unfit_so", "got", "due", "grids_so", "own", "heaps_so", "skins_so", "k"] "_law_refused_right" (defScope (top 67)) f cdv A outer s H E) (fun cls d _ H => E cls d H)) (F : Fx (amb (cxOf (L2.CX P w) P w K mg base ["twin", "quad", "darts", "loads", "four", "unfit_so", "got", "due", "grids_so", "own", "heaps_so", "skins_so", "k"] "_law_refused_right" (defScope (top 67)) f cdv A outer s H E)) G) (T : Tab (amb (cxOf (L2.CX P w) P w K mg base ["twin", "quad", "darts", "loads", "four", "unfit_so", "got", "due", "grids_so", "own", "heaps_so", "skins_so", "k"] "_law_refused_right" (defScope (top 67)) f cdv A outer s H E)) G c) (TV : TabV (amb (cxOf (L2.CX P w) P w K mg base ["twin", "quad", "darts", "loads", "four", "unfit_so", "got", "due", "grids_so", "own", "heaps_so", "skins_so", "k"] "_law_refused_right" (defScope (top 67)) f cdv A outer s H E)) G (noStar [7, 8] c)) (TS : TabS (amb (cxOf (L2.CX P w) P w K mg base ["twin", "quad", "darts", "loads", "four", "unfit_so", "got", "due", "grids_so", "own", "heaps_so", "skins_so", "k"] "_law_refused_right" (defScope (top 67)) f cdv A outer s H E)) G c) : SSs (cxOf (L2.CX P w) P w K mg base ["twin", "quad", "darts", "loads", "four", "unfit_so", "got", "due", "grids_so", "own", "heaps_so", "skins_so", "k"] "_law_refused_right" (defScope (top 67)) f cdv A outer s H E) G [] (fun cls d _ H => E cls d H) (defBody (top 67)) (f_law_refused_right c) :=
  (ss_cons (ss_asg (se_call0 C (T 52 _ _ _ rfl) bp_52) (sg_t C (sgl_cons (sg_n 0 C) (sgl_cons (sg_n 1 C) (sgl_cons (sg_n 2 C) (sgl_cons (sg_n 3 C) (sgl_cons (sg_n 4 C) sgl_nil)))))))
  (ss_cons (ss_par3 5 6 7 C (se_lst (sl_cons (se_str rfl) (sl_cons se_bl sl_nil))) (se_lst sl_nil) (se_lst sl_nil))
  (ss_cons (ss_set 8 C (se_lst (sl_cons (se_tup (sl_cons (se_tup (sl_cons se_int (sl_cons se_int sl_nil))) (sl_cons (se_tup (sl_cons se_int (sl_cons se_int sl_nil))) sl_nil))) (sl_cons (se_tup (sl_cons (se_tup (sl_cons se_int (sl_cons se_int sl_nil))) sl_nil)) (sl_cons se_non (sl_cons se_int (sl_cons (se_tup (sl_cons (se_tup (sl_cons se_int (sl_cons se_int sl_nil))) (sl_cons (se_tup (sl_cons (se_neg se_int) (sl_cons se_bl sl_nil))) sl_nil))) (sl_cons (se_str rfl) (sl_cons (se_tup (sl_cons se_int sl_nil)) (sl_cons (se_tup (sl_cons (se_tup (sl_cons se_int (sl_cons se_int sl_nil))) (sl_cons (se_tup (sl_cons (se_neg se_int) (sl_cons se_int (sl_cons se_int sl_nil)))) sl_nil))) sl_nil))))))))))
  (ss_cons (ss_for C (si_val (se_var 8)) (sg_n 9 C) (ss_cons (ss_expr (se_app (se_var 6) (se_lst (sl_cons (se_call C (T 53 _ _ _ rfl) bp_53 (sl_cons se_int (sl_cons (se_tup (sl_cons (se_var 9) sl_nil)) sl_nil))) (sl_cons (se_call C (T 53 _ _ _ rfl) bp_53 (sl_cons se_int (sl_cons (se_tup (sl_cons (se_var 9) (sl_cons (se_tup (sl_cons se_int sl_nil)) sl_nil))) sl_nil))) (sl_cons (se_call C (T 53 _ _ _ rfl) bp_53 (sl_cons se_int (sl_cons (se_tup (sl_cons (se_var 9) (sl_cons (se_tup (sl_cons se_int sl_nil)) sl_nil))) sl_nil))) (sl_cons (se_call C (T 53 _ _ _ rfl) bp_53 (sl_cons se_int (sl_cons (se_tup (sl_cons (se_var 9) (sl_cons se_int sl_nil))) sl_nil))) (sl_cons (se_call C (T 53 _ _ _ rfl) bp_53 (sl_cons se_int (sl_cons (se_tup (sl_cons (se_var 9) (sl_cons se_int (sl_cons se_int (sl_cons se_int sl_nil))))) sl_nil))) sl_nil))))))))
  (ss_one (ss_expr (se_app (se_var 7) (se_op osMul (se_lst (sl_cons (se_var 5) sl_nil)) se_int))))))
  (ss_cons (ss_set 10 C (se_lst (sl_cons se_non (sl_cons (se_tup (sl_cons se_int (sl_cons se_int sl_nil))) (sl_cons (se_tup (sl_cons se_int (sl_cons se_int sl_nil))) (sl_cons (se_tup (sl_cons (se_neg se_int) sl_nil)) (sl_cons (se_tup (sl_cons se_bl sl_nil)) (sl_cons se_int (sl_cons (se_tup (sl_cons (se_str rfl) sl_nil)) (sl_cons (se_tup (sl_cons se_int (sl_cons se_int sl_nil))) sl_nil))))))))))
  (ss_cons (ss_expr (se_app (se_var 6) (se_cnew (sc_lc C (own := [("k", 12)]) (si_val (se_tup (sl_cons se_int (sl_cons se_int sl_nil)))) (fun _ _ _ _ _ => (sg_n 12 (C.blk _ _ _ _ _))) (fun _ _ _ _ _ => sts_nil) (fun _ _ _ _ _ => (se_call (C.blk _ _ _ _ _) (T 53 _ _ _ rfl) bp_53 (sl_cons (se_var 12) (sl_cons (se_tup (sl_cons (se_var 4) (sl_cons (se_tup (sl_cons (se_neg se_int) (sl_cons se_int sl_nil))) sl_nil))) sl_nil))))))))
  (ss_cons (ss_asg (se_op osAdd (se_op osAdd (se_ix C (se_var 6) (se_neg se_int)) (se_cnew (sc_lc C (own := [("own", 9)]) (si_val (se_var 10)) (fun _ _ _ _ _ => (sg_n 9 (C.blk _ _ _ _ _))) (fun _ _ _ _ _ => sts_nil) (fun _ _ _ _ _ => (se_call (C.blk _ _ _ _ _) (T 53 _ _ _ rfl) bp_53 (sl_cons se_int (sl_cons (se_tup (sl_cons (se_var 4) (sl_cons (se_var 9) sl_nil))) sl_nil))))))) (se_cnew (sc_lc C (own := [("own", 9)]) (si_val (se_var 10)) (fun _ _ _ _ _ => (sg_n 9 (C.blk _ _ _ _ _))) (fun _ _ _ _ _ => sts_nil) (fun _ _ _ _ _ => (se_call (C.blk _ _ _ _ _) (T 53 _ _ _ rfl) bp_53 (sl_cons se_int (sl_cons (se_tup (sl_cons (se_var 4) (sl_cons (se_var 9) sl_nil))) sl_nil))))))) (sg_s C (se_var 6) (se_neg se_int)))
  (ss_cons (ss_expr (se_app (se_var 7) (se_op osMul (se_lst (sl_cons (se_var 5) sl_nil)) se_int)))
  (ss_cons (ss_expr (se_app (se_var 6) (se_lst (sl_cons (se_call C (T 53 _ _ _ rfl) bp_53 (sl_cons se_int (sl_cons (se_tup (sl_cons (se_var 4) (sl_cons (se_tup (sl_cons se_int (sl_cons se_int sl_nil))) sl_nil))) sl_nil))) (sl_cons (se_call C (T 53 _ _ _ rfl) bp_53 (sl_cons se_int (sl_cons (se_tup (sl_cons (se_var 4) (sl_cons se_int sl_nil))) sl_nil))) (sl_cons (se_call C (T 53 _ _ _ rfl) bp_53 (sl_cons se_int (sl_cons (se_tup (sl_cons (se_tup sl_nil) (sl_cons se_int sl_nil))) sl_nil))) (sl_cons (se_call C (T 53 _ _ _ rfl) bp_53 (sl_cons se_int (sl_cons (se_tup (sl_cons (se_var 4) (sl_cons se_int (sl_cons se_int (sl_cons se_int sl_nil))))) sl_nil))) (sl_cons (se_call C (T 53 _ _ _ rfl) bp_53 (sl_cons se_int (sl_cons (se_tup (sl_cons (se_var 4) (sl_cons se_int (sl_cons se_int (sl_cons se_int sl_nil))))) sl_nil))) (sl_cons (se_call C (T 53 _ _ _ rfl) bp_53 (sl_cons se_int (sl_cons (se_tup (sl_cons (se_var 4) (sl_cons se_int (sl_cons se_int (sl_cons se_int sl_nil))))) sl_nil))) sl_nil)))))))))
  (ss_cons (ss_expr (se_app (se_var 7) (se_cnew (sc_lc C (own := [("own", 9)]) (si_val (se_tup (sl_cons se_int (sl_cons se_int (sl_cons se_int (sl_cons se_int (sl_cons se_int (sl_cons se_int sl_nil)))))))) (fun _ _ _ _ _ => (sg_n 9 (C.blk _ _ _ _ _))) (fun _ _ _ _ _ => sts_nil) (fun _ _ _ _ _ => (se_lst (sl_cons (se_str rfl) (sl_cons (se_var 9) (sl_cons se_bl sl_nil)))))))))
  (ss_cons (ss_expr (se_app (se_var 6) (se_cnew (sc_lc C (own := [("own", 9)]) (si_val (se_tup (sl_cons se_non (sl_cons (se_neg se_int) (sl_cons se_bl (sl_cons (se_tup (sl_cons se_int sl_nil)) (sl_cons (se_str rfl) sl_nil))))))) (fun _ _ _ _ _ => (sg_n 9 (C.blk _ _ _ _ _))) (fun _ _ _ _ _ => sts_nil) (fun _ _ _ _ _ => (se_call (C.blk _ _ _ _ _) (T 53 _ _ _ rfl) bp_53 (sl_cons se_int (sl_cons (se_tup (sl_cons (se_var 4) (sl_cons (se_var 9) sl_nil))) sl_nil))))))))
  (ss_cons (ss_asg (se_op osAdd (se_ix C (se_var 6) (se_neg se_int)) (se_cnew (sc_lc C (own := [("own", 9)]) (si_val (se_tup (sl_cons se_non (sl_cons (se_neg se_int) (sl_cons se_bl sl_nil))))) (fun _ _ _ _ _ => (sg_n 9 (C.blk _ _ _ _ _))) (fun _ _ _ _ _ => sts_nil) (fun _ _ _ _ _ => (se_call (C.blk _ _ _ _ _) (T 53 _ _ _ rfl) bp_53 (sl_cons se_int (sl_cons (se_tup (sl_cons (se_var 4) (sl_cons (se_var 9) (sl_cons se_int (sl_cons se_int sl_nil))))) sl_nil))))))) (sg_s C (se_var 6) (se_neg se_int)))
  (ss_cons (ss_asg (se_op osAdd (se_ix C (se_var 6) (se_neg se_int)) (se_cnew (sc_lc C (own := [("own", 9)]) (si_val (se_tup (sl_cons se_non (sl_cons (se_neg se_int) (sl_cons se_bl sl_nil))))) (fun _ _ _ _ _ => (sg_n 9 (C.blk _ _ _ _ _))) (fun _ _ _ _ _ => sts_nil) (fun _ _ _ _ _ => (se_call (C.blk _ _ _ _ _) (T 53 _ _ _ rfl) bp_53 (sl_cons se_int (sl_cons (se_tup (sl_cons (se_var 4) (sl_cons se_int (sl_cons (se_var 9) (sl_cons se_int sl_nil))))) sl_nil))))))) (sg_s C (se_var 6) (se_neg se_int)))
  (ss_cons (ss_expr (se_app (se_var 6) (se_op osAdd (se_cnew (sc_lc C (own := [("own", 9)]) (si_val (se_tup (sl_cons se_non (sl_cons se_bl (sl_cons (se_str rfl) (sl_cons (se_tup (sl_cons se_int sl_nil)) sl_nil)))))) (fun _ _ _ _ _ => (sg_n 9 (C.blk _ _ _ _ _))) (fun _ _ _ _ _ => sts_nil) (fun _ _ _ _ _ => (se_call (C.blk _ _ _ _ _) (T 53 _ _ _ rfl) bp_53 (sl_cons se_int (sl_cons (se_tup (sl_cons (se_var 4) (sl_cons se_int (sl_cons se_int (sl_cons (se_var 9) sl_nil))))) sl_nil)))))) (se_lst (sl_cons (se_call C (T 53 _ _ _ rfl) bp_53 (sl_cons se_int (sl_cons (se_tup (sl_cons (se_var 4) (sl_cons se_int (sl_cons se_int (sl_cons se_int sl_nil))))) sl_nil))) sl_nil)))))
  (ss_cons (ss_set 7 C (se_op osAdd (se_var 7) (se_lst (sl_cons (se_op osMul (se_lst (sl_cons (se_var 5) sl_nil)) se_int) (sl_cons (se_op osMul (se_lst (sl_cons (se_var 5) sl_nil)) se_int) sl_nil)))))
  (ss_cons (ss_set 11 C (se_lst (sl_cons se_non (sl_cons (se_tup sl_nil) (sl_cons se_int (sl_cons (se_tup (sl_cons (se_tup (sl_cons (se_tup (sl_cons se_int (sl_cons se_int sl_nil))) (sl_cons (se_tup (sl_cons se_int (sl_cons se_int sl_nil))) (sl_cons (se_tup (sl_cons se_int (sl_cons se_int sl_nil))) sl_nil)))) sl_nil)) (sl_cons (se_tup (sl_cons (se_tup (sl_cons (se_tup (sl_cons se_int (sl_cons se_int sl_nil))) (sl_cons (se_tup (sl_cons se_int (sl_cons se_int sl_nil))) (sl_cons (se_tup (sl_cons se_int (sl_cons se_int sl_nil))) (sl_cons (se_tup (sl_cons se_int (sl_cons se_int sl_nil))) sl_nil))))) sl_nil)) (sl_cons (se_sl (se_var 0) so_none (so_some se_int)) (sl_cons (se_op osAdd (se_var 0) (se_var 0)) (sl_cons (se_tup (sl_cons (se_ix C (se_var 0) se_int) (sl_cons (se_tup (sl_cons (se_ix C (se_ix C (se_var 0) se_int) se_int) (sl_cons (se_ix C (se_ix C (se_var 0) se_int) se_int) (sl_cons (se_ix C (se_ix C (se_var 0) se_int) se_int) (sl_cons (se_tup (sl_cons se_int (sl_cons se_int sl_nil))) sl_nil))))) sl_nil))) sl_nil))))))))))
  (ss_cons (ss_for C (si_val (se_var 11)) (sg_n 9 C) (ss_cons (ss_expr (se_app (se_var 6) (se_lst (sl_cons (se_call C (T 53 _ _ _ rfl) bp_53 (sl_cons se_int (sl_cons (se_tup (sl_cons (se_var 9) (sl_cons (se_op osMul (se_tup (sl_cons se_int sl_nil)) se_int) (sl_cons (se_tup (sl_cons se_int sl_nil)) sl_nil)))) sl_nil))) (sl_cons (se_call C (T 53 _ _ _ rfl) bp_53 (sl_cons se_int (sl_cons (se_tup (sl_cons (se_var 9) (sl_cons (se_op osMul (se_tup (sl_cons se_int sl_nil)) se_int) (sl_cons (se_op osMul (se_tup (sl_cons se_int sl_nil)) se_int) sl_nil)))) sl_nil))) (sl_cons (se_call C (T 53 _ _ _ rfl) bp_53 (sl_cons se_int (sl_cons (se_tup (sl_cons (se_var 9) (sl_cons (se_op osMul (se_tup (sl_cons se_int sl_nil)) se_int) (sl_cons (se_tup (sl_cons se_int sl_nil)) sl_nil)))) sl_nil))) sl_nil))))))
  (ss_one (ss_expr (se_app (se_var 7) (se_op osMul (se_lst (sl_cons (se_var 5) sl_nil)) se_int))))))
  (ss_cons (ss_for C (si_val (se_lst (sl_cons se_non (sl_cons (se_op osMul (se_tup (sl_cons se_int sl_nil)) se_int) (sl_cons (se_op osMul (se_tup (sl_cons se_int sl_nil)) se_int) (sl_cons (se_tup (sl_cons se_int (sl_cons se_int (sl_cons se_int (sl_cons se_int sl_nil))))) (sl_cons (se_tup (sl_cons se_int (sl_cons se_int (sl_cons se_bl (sl_cons se_int sl_nil))))) (sl_cons se_int (sl_cons (se_tup (sl_cons se_int (sl_cons (se_neg se_int) (sl_cons se_int (sl_cons se_int sl_nil))))) sl_nil))))))))) (sg_n 9 C) (ss_cons (ss_expr (se_app (se_var 6) (se_lst (sl_cons (se_call C (T 53 _ _ _ rfl) bp_53 (sl_cons se_int (sl_cons (se_tup (sl_cons (se_var 0) (sl_cons (se_var 9) (sl_cons (se_tup (sl_cons se_int sl_nil)) sl_nil)))) sl_nil))) (sl_cons (se_call C (T 53 _ _ _ rfl) bp_53 (sl_cons se_int (sl_cons (se_tup (sl_cons (se_var 0) (sl_cons (se_var 9) (sl_cons (se_op osMul (se_tup (sl_cons se_int sl_nil)) se_int) sl_nil)))) sl_nil))) sl_nil)))))
  (ss_one (ss_expr (se_app (se_var 7) (se_op osMul (se_lst (sl_cons (se_var 5) sl_nil)) se_int))))))
  (ss_cons (ss_for C (si_val (se_lst (sl_cons se_non (sl_cons (se_op osMul (se_tup (sl_cons se_int sl_nil)) se_int) (sl_cons (se_op osMul (se_tup (sl_cons se_int sl_nil)) se_int) (sl_cons (se_tup (sl_cons se_int (sl_cons se_int (sl_cons se_bl (sl_cons se_int sl_nil))))) (sl_cons se_int (sl_cons (se_tup (sl_cons se_int (sl_cons se_int (sl_cons (se_str rfl) (sl_cons se_int sl_nil))))) sl_nil)))))))) (sg_n 9 C) (ss_cons (ss_expr (se_app (se_var 6) (se_lst (sl_cons (se_call C (T 53 _ _ _ rfl) bp_53 (sl_cons se_int (sl_cons (se_tup (sl_cons (se_var 0) (sl_cons (se_op osMul (se_tup (sl_cons se_int sl_nil)) se_int) (sl_cons (se_var 9) sl_nil)))) sl_nil))) (sl_cons (se_call C (T 53 _ _ _ rfl) bp_53 (sl_cons se_int (sl_cons (se_tup (sl_cons (se_var 0) (sl_cons (se_var 9) (sl_cons (se_tup (sl_cons se_int sl_nil)) sl_nil)))) sl_nil))) sl_nil)))))
  (ss_one (ss_expr (se_app (se_var 7) (se_op osMul (se_lst (sl_cons (se_var 5) sl_nil)) se_int))))))
  (ss_cons (ss_for C (si_val (se_lst (sl_cons se_non (sl_cons (se_tup sl_nil) (sl_cons (se_tup (sl_cons se_int sl_nil)) (sl_cons (se_tup (sl_cons se_int (sl_cons se_int sl_nil))) (sl_cons (se_tup (sl_cons se_int sl_nil)) (sl_cons (se_tup (sl_cons (se_neg se_int) sl_nil)) (sl_cons (se_tup (sl_cons se_int (sl_cons se_int sl_nil))) (sl_cons (se_tup (sl_cons se_bl sl_nil)) (sl_cons se_int sl_nil))))))))))) (sg_n 9 C) (ss_cons (ss_expr (se_app (se_var 6) (se_lst (sl_cons (se_call C (T 53 _ _ _ rfl) bp_53 (sl_cons se_int (sl_cons (se_tup (sl_cons (se_var 0) (sl_cons (se_op osMul (se_tup (sl_cons se_int sl_nil)) se_int) (sl_cons (se_var 9) sl_nil)))) sl_nil))) (sl_cons (se_call C (T 53 _ _ _ rfl) bp_53 (sl_cons se_int (sl_cons (se_tup (sl_cons (se_var 0) (sl_cons (se_op osMul (se_tup (sl_cons se_int sl_nil)) se_int) (sl_cons (se_var 9) sl_nil)))) sl_nil))) sl_nil)))))
  (ss_one (ss_expr (se_app (se_var 7) (se_op osMul (se_lst (sl_cons (se_var 5) sl_nil)) se_int))))))
  (ss_one (ss_ret (se_call C (T 50 _ _ _ rfl) bp_50 (sl_cons (se_var 6) (sl_cons (se_var 7) sl_nil)))))))))))))))))))))))))
theorem b_56 (C : Cs (cxOf (L2.CX P w) P w K mg base ["twin", "quad", "darts", "loads", "four", "hide", "soft_so", "mild_so", "grid", "got", "due"] "_law_names_right" (defScope (top 68)) f cdv A outer s H E) (fun cls d _ H => E cls d H)) (F : Fx (amb (cxOf (L2.CX P w) P w K mg base ["twin", "quad", "darts", "loads", "four", "hide", "soft_so", "mild_so", "grid", "got", "due"] "_law_names_right" (defScope (top 68)) f cdv A outer s H E)) G) (T : Tab (amb (cxOf (L2.CX P w) P w K mg base ["twin", "quad", "darts", "loads", "four", "hide", "soft_so", "mild_so", "grid", "got", "due"] "_law_names_right" (defScope (top 68)) f cdv A outer s H E)) G c) (TV : TabV (amb (cxOf (L2.CX P w) P w K mg base ["twin", "quad", "darts", "loads", "four", "hide", "soft_so", "mild_so", "grid", "got", "due"] "_law_names_right" (defScope (top 68)) f cdv A outer s H E)) G (noStar [7, 8] c)) (TS : TabS (amb (cxOf (L2.CX P w) P w K mg base ["twin", "quad", "darts", "loads", "four", "hide", "soft_so", "mild_so", "grid", "got", "due"] "_law_names_right" (defScope (top 68)) f cdv A outer s H E)) G c) : SSs (cxOf (L2.CX P w) P w K mg base ["twin", "quad", "darts", "loads", "four", "hide", "soft_so", "mild_so", "grid", "got", "due"] "_law_names_right" (defScope (top 68)) f cdv A outer s H E) G [] (fun cls d _ H => E cls d H) (defBody (top 68)) (f_law_names_right c) :=
  (ss_cons (ss_asg (se_call0 C (T 52 _ _ _ rfl) bp_52) (sg_t C (sgl_cons (sg_n 0 C) (sgl_cons (sg_n 1 C) (sgl_cons (sg_n 2 C) (sgl_cons (sg_n 3 C) (sgl_cons (sg_n 4 C) sgl_nil)))))))
  (ss_cons (ss_asg (se_tup (sl_cons (se_call C (T 49 _ _ _ rfl) bp_49 (sl_cons (se_var 1) sl_nil)) (sl_cons (se_bList F.g_list (sl_cons (se_var 2) sl_nil)) (sl_cons (se_bList F.g_list (sl_cons (se_var 3) sl_nil)) (sl_cons (se_call C (T 49 _ _ _ rfl) bp_49 (sl_cons (se_var 4) sl_nil)) sl_nil))))) (sg_t C (sgl_cons (sg_n 5 C) (sgl_cons (sg_n 6 C) (sgl_cons (sg_n 7 C) (sgl_cons (sg_n 8 C) sgl_nil))))))
  (ss_cons (ss_set 9 C (se_lst (sl_cons (se_callk0 C (T 25 _ _ _ rfl) bk_2 (sk_cons (se_lst (sl_cons se_int (sl_cons se_int sl_nil))) (sk_cons (se_var 6) (sk_cons (se_var 5) sk_nil))) (len_cons (len_cons (len_cons len_nil)))) (sl_cons (se_callk0 C (T 24 _ _ _ rfl) bk_1 (sk_cons (se_lst (sl_cons se_int (sl_cons se_int sl_nil))) (sk_cons (se_var 7) (sk_cons (se_var 5) sk_nil))) (len_cons (len_cons (len_cons len_nil)))) (sl_cons (se_ix C (se_callk0 C (T 26 _ _ _ rfl) bk_0 (sk_cons (se_var 7) (sk_cons (se_var 6) (sk_cons (se_var 5) sk_nil))) (len_cons (len_cons (len_cons len_nil)))) se_int) sl_nil)))))
  (ss_cons (ss_set 10 C (se_lst (sl_cons (se_neg se_int) (sl_cons se_int (sl_cons (se_tup (sl_cons se_int (sl_cons se_int (sl_cons se_int (sl_cons se_int sl_nil))))) sl_nil)))))
  (ss_cons (ss_set 9 C (se_op osAdd (se_var 9) (se_lst (sl_cons (se_callk0 C (T 27 _ _ _ rfl) bk_6 (sk_cons (se_var 4) sk_nil) (len_cons len_nil)) (sl_cons (se_callk0 C (T 28 _ _ _ rfl) bk_5 (sk_cons (se_var 8) sk_nil) (len_cons len_nil)) (sl_cons (se_callk0 C (T 29 _ _ _ rfl) bk_4 (sk_cons (se_lst (sl_cons se_int (sl_cons se_int sl_nil))) (sk_cons (se_var 8) sk_nil)) (len_cons (len_cons len_nil))) (sl_cons (se_ix C (se_callk0 C (T 30 _ _ _ rfl) bk_3 (sk_cons (se_lst (sl_cons se_int sl_nil)) (sk_cons (se_var 8) sk_nil)) (len_cons (len_cons len_nil))) se_int) sl_nil)))))))
  (ss_cons (ss_set 10 C (se_op osAdd (se_var 10) (se_lst (sl_cons se_bl (sl_cons se_int (sl_cons (se_tup (sl_cons (se_tup (sl_cons se_int (sl_cons se_int sl_nil))) (sl_cons (se_tup (sl_cons (se_neg se_int) (sl_cons se_int sl_nil))) sl_nil))) (sl_cons (se_tup (sl_cons se_int (sl_cons se_int (sl_cons (se_neg se_int) (sl_cons (se_neg se_int) sl_nil))))) sl_nil)))))))
  (ss_cons (ss_set 9 C (se_op osAdd (se_var 9) (se_lst (sl_cons (se_ix C (se_callk0 C (T 31 _ _ _ rfl) bk_8 (sk_cons se_int (sk_cons se_int (sk_cons se_int (sk_cons (se_var 8) sk_nil)))) (len_cons (len_cons (len_cons (len_cons len_nil))))) se_int) (sl_cons (se_callk0 C (T 32 _ _ _ rfl) bk_7 (sk_cons se_int (sk_cons (se_var 8) sk_nil)) (len_cons (len_cons len_nil))) (sl_cons (se_var 5) (sl_cons (se_var 6) (sl_cons (se_var 7) (sl_cons (se_var 8) sl_nil)))))))))
  (ss_cons (ss_set 10 C (se_op osAdd (se_var 10) (se_lst (sl_cons (se_tup (sl_cons (se_neg se_int) (sl_cons se_int (sl_cons se_int (sl_cons se_int sl_nil))))) (sl_cons (se_tup (sl_cons (se_neg se_int) (sl_cons se_int (sl_cons se_int (sl_cons se_int sl_nil))))) (sl_cons (se_call C (T 49 _ _ _ rfl) bp_49 (sl_cons (se_var 1) sl_nil)) (sl_cons (se_bList F.g_list (sl_cons (se_var 2) sl_nil)) (sl_cons (se_bList F.g_list (sl_cons (se_var 3) sl_nil)) (sl_cons (se_call C (T 49 _ _ _ rfl) bp_49 (sl_cons (se_var 4) sl_nil)) sl_nil)))))))))
  (ss_one (ss_ret (se_call C (T 50 _ _ _ rfl) bp_50 (sl_cons (se_var 9) (sl_cons (se_var 10) sl_nil)))))))))))))
theorem b_57 (C : Cs (cxOf (L2.CX P w) P w K mg base ["script", "turn"] "law" (defScope (top 69)) f cdv A outer s H E) (fun cls d _ H => E cls d H)) (F : Fx (amb (cxOf (L2.CX P w) P w K mg base ["script", "turn"] "law" (defScope (top 69)) f cdv A outer s H E)) G) (T : Tab (amb (cxOf (L2.CX P w) P w K mg base ["script", "turn"] "law" (defScope (top 69)) f cdv A outer s H E)) G c) (TV : TabV (amb (cxOf (L2.CX P w) P w K mg base ["script", "turn"] "law" (defScope (top 69)) f cdv A outer s H E)) G (noStar [7, 8] c)) (TS : TabS (amb (cxOf (L2.CX P w) P w K mg base ["script", "turn"] "law" (defScope (top 69)) f cdv A outer s H E)) G c) : SSs (cxOf (L2.CX P w) P w K mg base ["script", "turn"] "law" (defScope (top 69)) f cdv A outer s H E) G [] (fun cls d _ H => E cls d H) (defBody (top 69)) (f_law c) :=
  (ss_cons (ss_if (st_not (st_val (se_call0 C (T 54 _ _ _ rfl) bp_54))) (ss_one (ss_ret se_bl)) ss_nil)
  (ss_cons (ss_set 1 C (se_call C (T 47 _ _ _ rfl) bp_47 (sl_cons (se_call C (T 46 _ _ _ rfl) bp_46 (sl_cons (se_call C (T 48 _ _ _ rfl) bp_48 (sl_cons (se_var 0) (sl_cons se_int sl_nil))) (sl_cons se_int sl_nil))) (sl_cons se_int sl_nil))))
  (ss_one (ss_ret (se_callV0 C TV (se_ix C (se_lst (sl_cons (se_fnv (T 55 _ _ _ rfl).mg) (sl_cons (se_fnv (T 56 _ _ _ rfl).mg) sl_nil))) (se_var 1)))))))
end
end Law

set_option Elab.async false
set_option linter.all false
set_option maxRecDepth 100000
set_option maxHeartbeats 0
namespace Law
open PySem PySem.Spec PyProof.Rows L2 PW
def clsInit (st : Stmt) : Stmt := match st with
  | .ClassDef (body := b) .. => b.getD 0 (.Pass ⟨0, 0, 0, 0⟩)
  | _ => .Pass ⟨0, 0, 0, 0⟩
def fd (x : Str) (i : Nat) : He.FnD := ⟨(x, none), x, x, defArgs (top i), defBody (top i), defScope (top i)⟩
def fi (x q : Str) (i : Nat) : He.FnD := ⟨(x, some "__init__"), "__init__", q, defArgs (clsInit (top i)), defBody (clsInit (top i)), defScope (clsInit (top i))⟩
def fn : List He.FnD := [
  fd "is_number" 4,
  fd "is_below" 5,
  fd "is_tuple_of" 6,
  fd "is_set_below" 7,
  fd "is_set_from_0" 8,
  fd "is_ascending" 9,
  fd "as_tuples" 10,
  fd "check_numbers" 11,
  fd "check_from_0" 12,
  fd "are_bits" 14,
  fd "is_skin" 17,
  fd "fit_skin" 18,
  fd "has_skin_form" 19,
  fd "is_field_row" 20,
  fd "is_crossing_below" 21,
  fd "is_sewn_back" 22,
  fd "hangs_together" 23,
  fd "lesser_crossings" 24,
  fd "joined_fields" 25,
  fd "is_lot_of_edges" 27,
  fd "fit_arrows" 29,
  fd "are_arrows_of" 30,
  fd "fit_pairing" 32,
  fd "is_pairing_of" 33,
  fd "worth_of" 35,
  fd "sign_of" 36,
  fd "signed_table" 37,
  fd "is_signed_table" 38,
  fd "paired_sum" 39,
  fd "struck" 40,
  fd "turned_table" 41,
  fd "row_added" 42,
  fd "sum_by_pairs" 43,
  fd "fit_worths" 44,
  fd "fit_signed_table" 45,
  fd "fit_row_numbers" 46,
  fd "check_rows" 47,
  fd "is_row_of_numbers" 48,
  fd "are_worths_of" 49,
  fd "pairing_sign" 50,
  fd "table_by_arrows" 51,
  fd "without_rows" 52,
  fd "sum_over_pairs" 53,
  fd "with_exchanged" 54,
  fd "two_rows_less" 55,
  fd "sum_with_pair" 56,
  fd "_law_box" 58,
  fd "_law_take" 59,
  fd "_law_cells" 60,
  fd "_law_lists" 61,
  fd "_law_same" 62,
  fd "_law_square" 63,
  fd "_law_told_skins" 64,
  fd "_law_heard" 65,
  fd "_law_always_right" 66,
  fd "_law_refused_right" 67,
  fd "_law_names_right" 68,
  fd "law" 69,
  fi "NoField" "NoField.__init__" 1]
def nmL : List Str := rowsN rows [("check_numbers" : Str), ("check_from_0" : Str)]
def cnL : List Str := [("NoField" : Str), ("Unfit" : Str)]
def flL : List Str := [("field" : Str), ("" : Str)]
abbrev gK (K : PySem.W.Frag) : G0 := gOf nmL cnL flL K
abbrev leB : List Value := [.type "LookupError", .type "Exception", .type "BaseException", .type "object"]
abbrev veB : List Value := [.type "ValueError", .type "Exception", .type "BaseException", .type "object"]
def fsA : List Fc := nmL.map fun x => (He.Fa.glo x).ok
def fsB : List Fc := nmL.map fun x => (He.Fa.keep x).ok
def fsC : List Fc := [(He.Fa.free "abs").ok, (He.Fa.free "all").ok, (He.Fa.free "bool").ok, (He.Fa.free "enumerate").ok, (He.Fa.free "int").ok, (He.Fa.free "isinstance").ok, (He.Fa.free "len").ok, (He.Fa.free "list").ok, (He.Fa.free "max").ok, (He.Fa.free "min").ok, (He.Fa.free "range").ok, (He.Fa.free "sorted").ok, (He.Fa.free "str").ok, (He.Fa.free "tuple").ok, (He.Fa.free "zip").ok, (He.Fa.free "LookupError").ok, (He.Fa.free "ValueError").ok]
def fsD : List Fc := [noList, (He.Fa.int "SIDES" 4).ok, fun K => PySem.W.excIn K (He.ga K "Unfit") veB "ValueError.__new__"]
def fsE0 : List Fc := excFs "NoField" "LookupError"
def fsF0 : List Fc := errFs "LookupError.__new__" leB "NoField" "field"
theorem fo0 : FldOk "field" := ⟨by decide, fun _ _ _ _ _ _ _ _ _ _ _ _ => rfl, fun _ _ => rfl, fun _ _ _ _ => rfl, fun _ _ _ _ => rfl, fun _ _ _ _ _ _ => rfl, fun _ _ _ _ _ _ => rfl⟩
def fsE1 : List Fc := excFs "Unfit" "ValueError"
def fsG : List Fc := [(He.Fa.exm "NoField" "NoField" true).ok, (He.Fa.exm "NoField" "Unfit" false).ok, (He.Fa.exm "Unfit" "NoField" false).ok, (He.Fa.exm "Unfit" "Unfit" true).ok]
def fs : List Fc := fsA ++ (fsB ++ (fsC ++ (fsD ++ (fsE0 ++ (fsF0 ++ (fsE1 ++ (fsG)))))))
section
variable {h : Heap}
theorem allok {K : PySem.W.Frag} (c : SaysX fs fn K) : AllOk fs K := fun i f h => c.fact i h
theorem fx {M : Amb} (X : M.K.In h) (Gn : h.Ns mainGlobals M.mg) (c : SaysX fs fn M.K) (hd : M.A.depth + 2 < recursionLimit) : Fx M (gK M.K) := {
  g_abs := He.free_ok X Gn (AllOk.at (fs := fsC) (allok c).r.r.l 0),
  g_all := He.free_ok X Gn (AllOk.at (fs := fsC) (allok c).r.r.l 1),
  g_bool := He.free_ok X Gn (AllOk.at (fs := fsC) (allok c).r.r.l 2),
  g_enumerate := He.free_ok X Gn (AllOk.at (fs := fsC) (allok c).r.r.l 3),
  g_int := He.free_ok X Gn (AllOk.at (fs := fsC) (allok c).r.r.l 4),
  g_isinstance := He.free_ok X Gn (AllOk.at (fs := fsC) (allok c).r.r.l 5),
  g_len := He.free_ok X Gn (AllOk.at (fs := fsC) (allok c).r.r.l 6),
  g_list := He.free_ok X Gn (AllOk.at (fs := fsC) (allok c).r.r.l 7),
  g_max := He.free_ok X Gn (AllOk.at (fs := fsC) (allok c).r.r.l 8),
  g_min := He.free_ok X Gn (AllOk.at (fs := fsC) (allok c).r.r.l 9),
  g_range := He.free_ok X Gn (AllOk.at (fs := fsC) (allok c).r.r.l 10),
  g_sorted := He.free_ok X Gn (AllOk.at (fs := fsC) (allok c).r.r.l 11),
  g_str := He.free_ok X Gn (AllOk.at (fs := fsC) (allok c).r.r.l 12),
  g_tuple := He.free_ok X Gn (AllOk.at (fs := fsC) (allok c).r.r.l 13),
  g_zip := He.free_ok X Gn (AllOk.at (fs := fsC) (allok c).r.r.l 14),
  g_LookupError := He.free_ok X Gn (AllOk.at (fs := fsC) (allok c).r.r.l 15),
  g_ValueError := He.free_ok X Gn (AllOk.at (fs := fsC) (allok c).r.r.l 16),
  c_SIDES := He.int_ok X Gn (AllOk.at (fs := fsD) (allok c).r.r.r.l 1),
  m0 := He.glo_ok X Gn (AllOk.at (fs := fsE0) (allok c).r.r.r.r.l 0),
  k0 := exc_k (x := "NoField") (b := "LookupError") (allok c).r.r.r.r.l,
  i0_LookupError := of_decide_eq_true (AllOk.at (fs := fsE0) (allok c).r.r.r.r.l 12),
  x0 := ⟨He.fAd M.K ("NoField", some "__init__"), "LookupError", "LookupError.__new__", "LookupError.__init__", leB, exc_own (x := "NoField") (f := "field") X Gn (allok c).r.r.r.r.l (allok c).r.r.r.r.r.l F.excBase_LookupError F.store_LookupError fo0 (by obtain ⟨oc, od, osl, kV, doc, pm, an, cdv, ct, lk, hcd⟩ := c.def_ 58 (d := fi "NoField" "NoField.__init__" 1) rfl; exact ⟨oc, od, _, kV, doc, pm, an, cdv, ct, osl, _, _, _, _, _, _, lk, hcd⟩), by decide +kernel, rfl, hd⟩,
  m1 := He.glo_ok X Gn (AllOk.at (fs := fsE1) (allok c).r.r.r.r.r.r.l 0),
  k1 := exc_k (x := "Unfit") (b := "ValueError") (allok c).r.r.r.r.r.r.l,
  i1_ValueError := of_decide_eq_true (AllOk.at (fs := fsE1) (allok c).r.r.r.r.r.r.l 12),
  x1 := ⟨"ValueError", "ValueError.__new__", "ValueError.__init__", veB, F.excBase_ValueError, AllOk.at (fs := fsD) (allok c).r.r.r.l 2, He.glo_ok X Gn (AllOk.at (fs := fsE1) (allok c).r.r.r.r.r.r.l 0), AllOk.at (fs := fsE1) (allok c).r.r.r.r.r.r.l 1, of_decide_eq_true (AllOk.at (fs := fsE1) (allok c).r.r.r.r.r.r.l 5), of_decide_eq_true (AllOk.at (fs := fsE1) (allok c).r.r.r.r.r.r.l 10)⟩,
  exm := fun i j hi hj => match i, j, hi, hj with
    | 0, 0, _, _ => He.exm_ok (AllOk.at (fs := fsG) (allok c).r.r.r.r.r.r.r 0)
    | 0, 1, _, _ => He.exm_ok (AllOk.at (fs := fsG) (allok c).r.r.r.r.r.r.r 1)
    | 1, 0, _, _ => He.exm_ok (AllOk.at (fs := fsG) (allok c).r.r.r.r.r.r.r 2)
    | 1, 1, _, _ => He.exm_ok (AllOk.at (fs := fsG) (allok c).r.r.r.r.r.r.r 3)
    | i + 2, _, hi, _ => absurd hi (by omega)
    | _, j + 2, _, hj => absurd hj (by omega) }
end
theorem arsOk : ∀ C, (tbl C).map Fn.ar = rows.map rowAr := fun _ => rfl
abbrev Pr : CT → Nat → Option Fn := fun C f => nth (tbl C) f
theorem bpA : ∀ (i : Nat) (x : Str) (st : Stmt) (ps : List Str), rows[i]? = some (some (x, st, ps)) → BindP x st ps := fun i x st ps h => match i, h with
  | 0, h => by cases (Option.some.inj (Option.some.inj h)); exact bp_0
  | 1, h => by cases (Option.some.inj (Option.some.inj h)); exact bp_1
  | 2, h => by cases (Option.some.inj (Option.some.inj h)); exact bp_2
  | 3, h => by cases (Option.some.inj (Option.some.inj h)); exact bp_3
  | 4, h => by cases (Option.some.inj (Option.some.inj h)); exact bp_4
  | 5, h => by cases (Option.some.inj (Option.some.inj h)); exact bp_5
  | 6, h => by cases (Option.some.inj (Option.some.inj h)); exact bp_6
  | 7, h => by cases (Option.some.inj h)
  | 8, h => by cases (Option.some.inj h)
  | 9, h => by cases (Option.some.inj (Option.some.inj h)); exact bp_9
  | 10, h => by cases (Option.some.inj (Option.some.inj h)); exact bp_10
  | 11, h => by cases (Option.some.inj (Option.some.inj h)); exact bp_11
  | 12, h => by cases (Option.some.inj (Option.some.inj h)); exact bp_12
  | 13, h => by cases (Option.some.inj (Option.some.inj h)); exact bp_13
  | 14, h => by cases (Option.some.inj (Option.some.inj h)); exact bp_14
  | 15, h => by cases (Option.some.inj (Option.some.inj h)); exact bp_15
  | 16, h => by cases (Option.some.inj (Option.some.inj h)); exact bp_16
  | 17, h => by cases (Option.some.inj (Option.some.inj h)); exact bp_17
  | 18, h => by cases (Option.some.inj (Option.some.inj h)); exact bp_18
  | 19, h => by cases (Option.some.inj (Option.some.inj h)); exact bp_19
  | 20, h => by cases (Option.some.inj (Option.some.inj h)); exact bp_20
  | 21, h => by cases (Option.some.inj (Option.some.inj h)); exact bp_21
  | 22, h => by cases (Option.some.inj (Option.some.inj h)); exact bp_22
  | 23, h => by cases (Option.some.inj (Option.some.inj h)); exact bp_23
  | 24, h => by cases (Option.some.inj (Option.some.inj h)); exact bp_24
  | 25, h => by cases (Option.some.inj (Option.some.inj h)); exact bp_25
  | 26, h => by cases (Option.some.inj (Option.some.inj h)); exact bp_26
  | 27, h => by cases (Option.some.inj (Option.some.inj h)); exact bp_27
  | 28, h => by cases (Option.some.inj (Option.some.inj h)); exact bp_28
  | 29, h => by cases (Option.some.inj (Option.some.inj h)); exact bp_29
  | 30, h => by cases (Option.some.inj (Option.some.inj h)); exact bp_30
  | 31, h => by cases (Option.some.inj (Option.some.inj h)); exact bp_31
  | 32, h => by cases (Option.some.inj (Option.some.inj h)); exact bp_32
  | 33, h => by cases (Option.some.inj (Option.some.inj h)); exact bp_33
  | 34, h => by cases (Option.some.inj (Option.some.inj h)); exact bp_34
  | 35, h => by cases (Option.some.inj (Option.some.inj h)); exact bp_35
  | 36, h => by cases (Option.some.inj (Option.some.inj h)); exact bp_36
  | 37, h => by cases (Option.some.inj (Option.some.inj h)); exact bp_37
  | 38, h => by cases (Option.some.inj (Option.some.inj h)); exact bp_38
  | 39, h => by cases (Option.some.inj (Option.some.inj h)); exact bp_39
  | 40, h => by cases (Option.some.inj (Option.some.inj h)); exact bp_40
  | 41, h => by cases (Option.some.inj (Option.some.inj h)); exact bp_41
  | 42, h => by cases (Option.some.inj (Option.some.inj h)); exact bp_42
  | 43, h => by cases (Option.some.inj (Option.some.inj h)); exact bp_43
  | 44, h => by cases (Option.some.inj (Option.some.inj h)); exact bp_44
  | 45, h => by cases (Option.some.inj (Option.some.inj h)); exact bp_45
  | 46, h => by cases (Option.some.inj (Option.some.inj h)); exact bp_46
  | 47, h => by cases (Option.some.inj (Option.some.inj h)); exact bp_47
  | 48, h => by cases (Option.some.inj (Option.some.inj h)); exact bp_48
  | 49, h => by cases (Option.some.inj (Option.some.inj h)); exact bp_49
  | 50, h => by cases (Option.some.inj (Option.some.inj h)); exact bp_50
  | 51, h => by cases (Option.some.inj (Option.some.inj h)); exact bp_51
  | 52, h => by cases (Option.some.inj (Option.some.inj h)); exact bp_52
  | 53, h => by cases (Option.some.inj (Option.some.inj h)); exact bp_53
  | 54, h => by cases (Option.some.inj (Option.some.inj h)); exact bp_54
  | 55, h => by cases (Option.some.inj (Option.some.inj h)); exact bp_55
  | 56, h => by cases (Option.some.inj (Option.some.inj h)); exact bp_56
  | 57, h => by cases (Option.some.inj (Option.some.inj h)); exact bp_57
  | i + 58, h => by rw [List.getElem?_eq_none (show rows.length ≤ i + 58 from Nat.le_add_left _ _)] at h; cases h
section
variable {P : Program} {w : World} {K : PySem.W.Frag} {mg : Str → Option Value} {base h : Heap} {k : Nat}
theorem hmA (X : K.In h) (Gn : h.Ns mainGlobals mg) (c : SaysX fs fn K) : ∀ (i : Nat) (x : Str) (st : Stmt) (ps : List Str), rows[i]? = some (some (x, st, ps)) → PySem.W.keepIn K (.ref ((gK K).fad i)) = true ∧ mg x = some (.ref ((gK K).fad i)) := hm_rows (rows := rows) (s := [("check_numbers" : Str), ("check_from_0" : Str)]) (nm := nmL) (cn := cnL) (fl := flL) rfl X Gn (allok c).l (allok c).r.l
abbrev LvK (P : Program) (w : World) (K : PySem.W.Frag) (mg : Str → Option Value) (base : Heap) (k : Nat) : Prop := Lv P w K mg base (gK K) Pr rows k
theorem tabK (X : K.In h) (Gn : h.Ns mainGlobals mg) (c : SaysX fs fn K) (ih : LvK P w K mg base k) {A : Around} (hr : Room k A) : Tab ⟨P, w, K, mg, base, A⟩ (gK K) (callN Pr k) := tab_of (arOk_of tbl arsOk) hr (hmA X Gn c) ih
theorem tabVK (X : K.In h) (Gn : h.Ns mainGlobals mg) (c : SaysX fs fn K) (ih : LvK P w K mg base k) {A : Around} (hr : Room k A) : TabV ⟨P, w, K, mg, base, A⟩ (gK K) (noStar [7, 8] (callN Pr k)) := tabV_of (tabK X Gn c ih hr) bpA (hs_of rfl) (ho_of tbl arsOk)
theorem tabSK (X : K.In h) (Gn : h.Ns mainGlobals mg) (c : SaysX fs fn K) (ih : LvK P w K mg base k) {A : Around} (hr : Room k A) : TabS ⟨P, w, K, mg, base, A⟩ (gK K) (callN Pr k) := ⟨⟨⟨k, ih.2 7 rfl, hr⟩, (hm_of (cn := cnL) (fl := flL) X Gn (allok c).l (allok c).r.l 7 "check_numbers" rfl).1, (hm_of (cn := cnL) (fl := flL) X Gn (allok c).l (allok c).r.l 7 "check_numbers" rfl).2⟩, ⟨⟨k, ih.2 8 rfl, hr⟩, (hm_of (cn := cnL) (fl := flL) X Gn (allok c).l (allok c).r.l 8 "check_from_0" rfl).1, (hm_of (cn := cnL) (fl := flL) X Gn (allok c).l (allok c).r.l 8 "check_from_0" rfl).2⟩⟩
theorem dp {k : Nat} {A : Around} (hr : Room k A) : A.depth + 2 < recursionLimit := by have := hr.dp; omega
theorem sc_0 : FnScope ["thing"] ["thing"] (defScope (top 4)) := ⟨rfl, rfl, rfl, by decide +kernel, rfl, by decide +kernel, by decide +kernel⟩
theorem l_0 {oc kV doc pm cdv ct : Value} {od an : Option Addr} {osl : Array (Option Value)} (X : K.In h) (Gn : h.Ns mainGlobals mg) (c : SaysX fs fn K) (ih : LvK P w K mg base k) (lk : K.lookup ((gK K).fad 0) = some ⟨oc, od, .func (PySem.W.fnOf "is_number" "is_number" (defArgs (top 4)) (defBody (top 4)) (defScope (top 4)) .none kV doc pm an cdv ct), osl⟩) (hcd : PySem.W.codeIn K cdv "is_number" = true) : FnOk P w K mg base (L2.CX P w) (k + 1) ((gK K).fad 0) (PySem.W.fnOf "is_number" "is_number" (defArgs (top 4)) (defBody (top 4)) (defScope (top 4)) .none kV doc pm an cdv ct) ["thing"] (spC ⟨gK K, K, w⟩ (callN Pr (k + 1)) 0 1) :=
  step (ps := ["thing"]) (N := ["thing"]) (d := ⟨1, 1, f_is_number (callN Pr k)⟩) lk hcd sc_0 rfl rfl rfl (fun A outer s H E hr => b_0 (cs_of sc_0.nd hr) (fx (M := amb (cxOf (L2.CX P w) P w K mg base ["thing"] "is_number" (defScope (top 4)) ((gK K).fad 0) cdv A outer s H E)) X Gn c (dp hr)) (tabK X Gn c ih hr) (tabVK X Gn c ih hr) (tabSK X Gn c ih hr))
theorem sc_1 : FnScope ["thing", "many"] ["thing", "many"] (defScope (top 5)) := ⟨rfl, rfl, rfl, by decide +kernel, rfl, by decide +kernel, by decide +kernel⟩
theorem l_1 {oc kV doc pm cdv ct : Value} {od an : Option Addr} {osl : Array (Option Value)} (X : K.In h) (Gn : h.Ns mainGlobals mg) (c : SaysX fs fn K) (ih : LvK P w K mg base k) (lk : K.lookup ((gK K).fad 1) = some ⟨oc, od, .func (PySem.W.fnOf "is_below" "is_below" (defArgs (top 5)) (defBody (top 5)) (defScope (top 5)) .none kV doc pm an cdv ct), osl⟩) (hcd : PySem.W.codeIn K cdv "is_below" = true) : FnOk P w K mg base (L2.CX P w) (k + 1) ((gK K).fad 1) (PySem.W.fnOf "is_below" "is_below" (defArgs (top 5)) (defBody (top 5)) (defScope (top 5)) .none kV doc pm an cdv ct) ["thing", "many"] (spC ⟨gK K, K, w⟩ (callN Pr (k + 1)) 1 2) :=
  step (ps := ["thing", "many"]) (N := ["thing", "many"]) (d := ⟨2, 2, f_is_below (callN Pr k)⟩) lk hcd sc_1 rfl rfl rfl (fun A outer s H E hr => b_1 (cs_of sc_1.nd hr) (fx (M := amb (cxOf (L2.CX P w) P w K mg base ["thing", "many"] "is_below" (defScope (top 5)) ((gK K).fad 1) cdv A outer s H E)) X Gn c (dp hr)) (tabK X Gn c ih hr) (tabVK X Gn c ih hr) (tabSK X Gn c ih hr))
theorem sc_2 : FnScope ["thing", "many"] ["thing", "many"] (defScope (top 6)) := ⟨rfl, rfl, rfl, by decide +kernel, rfl, by decide +kernel, by decide +kernel⟩
theorem l_2 {oc kV doc pm cdv ct : Value} {od an : Option Addr} {osl : Array (Option Value)} (X : K.In h) (Gn : h.Ns mainGlobals mg) (c : SaysX fs fn K) (ih : LvK P w K mg base k) (lk : K.lookup ((gK K).fad 2) = some ⟨oc, od, .func (PySem.W.fnOf "is_tuple_of" "is_tuple_of" (defArgs (top 6)) (defBody (top 6)) (defScope (top 6)) .none kV doc pm an cdv ct), osl⟩) (hcd : PySem.W.codeIn K cdv "is_tuple_of" = true) : FnOk P w K mg base (L2.CX P w) (k + 1) ((gK K).fad 2) (PySem.W.fnOf "is_tuple_of" "is_tuple_of" (defArgs (top 6)) (defBody (top 6)) (defScope (top 6)) .none kV doc pm an cdv ct) ["thing", "many"] (spC ⟨gK K, K, w⟩ (callN Pr (k + 1)) 2 2) :=
  step (ps := ["thing", "many"]) (N := ["thing", "many"]) (d := ⟨2, 2, f_is_tuple_of (callN Pr k)⟩) lk hcd sc_2 rfl rfl rfl (fun A outer s H E hr => b_2 (cs_of sc_2.nd hr) (fx (M := amb (cxOf (L2.CX P w) P w K mg base ["thing", "many"] "is_tuple_of" (defScope (top 6)) ((gK K).fad 2) cdv A outer s H E)) X Gn c (dp hr)) (tabK X Gn c ih hr) (tabVK X Gn c ih hr) (tabSK X Gn c ih hr))
theorem sc_3 : FnScope ["thing", "many", "part"] ["thing", "many"] (defScope (top 7)) := ⟨rfl, rfl, rfl, by decide +kernel, rfl, by decide +kernel, by decide +kernel⟩
theorem l_3 {oc kV doc pm cdv ct : Value} {od an : Option Addr} {osl : Array (Option Value)} (X : K.In h) (Gn : h.Ns mainGlobals mg) (c : SaysX fs fn K) (ih : LvK P w K mg base k) (lk : K.lookup ((gK K).fad 3) = some ⟨oc, od, .func (PySem.W.fnOf "is_set_below" "is_set_below" (defArgs (top 7)) (defBody (top 7)) (defScope (top 7)) .none kV doc pm an cdv ct), osl⟩) (hcd : PySem.W.codeIn K cdv "is_set_below" = true) : FnOk P w K mg base (L2.CX P w) (k + 1) ((gK K).fad 3) (PySem.W.fnOf "is_set_below" "is_set_below" (defArgs (top 7)) (defBody (top 7)) (defScope (top 7)) .none kV doc pm an cdv ct) ["thing", "many"] (spC ⟨gK K, K, w⟩ (callN Pr (k + 1)) 3 2) :=
  step (ps := ["thing", "many"]) (N := ["thing", "many", "part"]) (d := ⟨3, 2, f_is_set_below (callN Pr k)⟩) lk hcd sc_3 rfl rfl rfl (fun A outer s H E hr => b_3 (cs_of sc_3.nd hr) (fx (M := amb (cxOf (L2.CX P w) P w K mg base ["thing", "many", "part"] "is_set_below" (defScope (top 7)) ((gK K).fad 3) cdv A outer s H E)) X Gn c (dp hr)) (tabK X Gn c ih hr) (tabVK X Gn c ih hr) (tabSK X Gn c ih hr))
theorem sc_4 : FnScope ["thing", "part"] ["thing"] (defScope (top 8)) := ⟨rfl, rfl, rfl, by decide +kernel, rfl, by decide +kernel, by decide +kernel⟩
theorem l_4 {oc kV doc pm cdv ct : Value} {od an : Option Addr} {osl : Array (Option Value)} (X : K.In h) (Gn : h.Ns mainGlobals mg) (c : SaysX fs fn K) (ih : LvK P w K mg base k) (lk : K.lookup ((gK K).fad 4) = some ⟨oc, od, .func (PySem.W.fnOf "is_set_from_0" "is_set_from_0" (defArgs (top 8)) (defBody (top 8)) (defScope (top 8)) .none kV doc pm an cdv ct), osl⟩) (hcd : PySem.W.codeIn K cdv "is_set_from_0" = true) : FnOk P w K mg base (L2.CX P w) (k + 1) ((gK K).fad 4) (PySem.W.fnOf "is_set_from_0" "is_set_from_0" (defArgs (top 8)) (defBody (top 8)) (defScope (top 8)) .none kV doc pm an cdv ct) ["thing"] (spC ⟨gK K, K, w⟩ (callN Pr (k + 1)) 4 1) :=
  step (ps := ["thing"]) (N := ["thing", "part"]) (d := ⟨2, 1, f_is_set_from_0 (callN Pr k)⟩) lk hcd sc_4 rfl rfl rfl (fun A outer s H E hr => b_4 (cs_of sc_4.nd hr) (fx (M := amb (cxOf (L2.CX P w) P w K mg base ["thing", "part"] "is_set_from_0" (defScope (top 8)) ((gK K).fad 4) cdv A outer s H E)) X Gn c (dp hr)) (tabK X Gn c ih hr) (tabVK X Gn c ih hr) (tabSK X Gn c ih hr))
theorem sc_5 : FnScope ["parts", "one", "other"] ["parts"] (defScope (top 9)) := ⟨rfl, rfl, rfl, by decide +kernel, rfl, by decide +kernel, by decide +kernel⟩
theorem l_5 {oc kV doc pm cdv ct : Value} {od an : Option Addr} {osl : Array (Option Value)} (X : K.In h) (Gn : h.Ns mainGlobals mg) (c : SaysX fs fn K) (ih : LvK P w K mg base k) (lk : K.lookup ((gK K).fad 5) = some ⟨oc, od, .func (PySem.W.fnOf "is_ascending" "is_ascending" (defArgs (top 9)) (defBody (top 9)) (defScope (top 9)) .none kV doc pm an cdv ct), osl⟩) (hcd : PySem.W.codeIn K cdv "is_ascending" = true) : FnOk P w K mg base (L2.CX P w) (k + 1) ((gK K).fad 5) (PySem.W.fnOf "is_ascending" "is_ascending" (defArgs (top 9)) (defBody (top 9)) (defScope (top 9)) .none kV doc pm an cdv ct) ["parts"] (spC ⟨gK K, K, w⟩ (callN Pr (k + 1)) 5 1) :=
  step (ps := ["parts"]) (N := ["parts", "one", "other"]) (d := ⟨3, 1, f_is_ascending (callN Pr k)⟩) lk hcd sc_5 rfl rfl rfl (fun A outer s H E hr => b_5 (cs_of sc_5.nd hr) (fx (M := amb (cxOf (L2.CX P w) P w K mg base ["parts", "one", "other"] "is_ascending" (defScope (top 9)) ((gK K).fad 5) cdv A outer s H E)) X Gn c (dp hr)) (tabK X Gn c ih hr) (tabVK X Gn c ih hr) (tabSK X Gn c ih hr))
theorem sc_6 : FnScope ["value", "depth", "part"] ["value", "depth"] (defScope (top 10)) := ⟨rfl, rfl, rfl, by decide +kernel, rfl, by decide +kernel, by decide +kernel⟩
theorem l_6 {oc kV doc pm cdv ct : Value} {od an : Option Addr} {osl : Array (Option Value)} (X : K.In h) (Gn : h.Ns mainGlobals mg) (c : SaysX fs fn K) (ih : LvK P w K mg base k) (lk : K.lookup ((gK K).fad 6) = some ⟨oc, od, .func (PySem.W.fnOf "as_tuples" "as_tuples" (defArgs (top 10)) (defBody (top 10)) (defScope (top 10)) .none kV doc pm an cdv ct), osl⟩) (hcd : PySem.W.codeIn K cdv "as_tuples" = true) : FnOk P w K mg base (L2.CX P w) (k + 1) ((gK K).fad 6) (PySem.W.fnOf "as_tuples" "as_tuples" (defArgs (top 10)) (defBody (top 10)) (defScope (top 10)) .none kV doc pm an cdv ct) ["value", "depth"] (spC ⟨gK K, K, w⟩ (callN Pr (k + 1)) 6 2) :=
  step (ps := ["value", "depth"]) (N := ["value", "depth", "part"]) (d := ⟨3, 2, f_as_tuples (callN Pr k)⟩) lk hcd sc_6 rfl rfl rfl (fun A outer s H E hr => b_6 (cs_of sc_6.nd hr) (fx (M := amb (cxOf (L2.CX P w) P w K mg base ["value", "depth", "part"] "as_tuples" (defScope (top 10)) ((gK K).fad 6) cdv A outer s H E)) X Gn c (dp hr)) (tabK X Gn c ih hr) (tabVK X Gn c ih hr) (tabSK X Gn c ih hr))
theorem sc_7 : FnScope ["things", "thing"] ["things"] (defScope (top 11)) := ⟨rfl, rfl, rfl, by decide +kernel, rfl, by decide +kernel, by decide +kernel⟩
theorem l_7 {oc kV doc pm cdv ct : Value} {od an : Option Addr} {osl : Array (Option Value)} (X : K.In h) (Gn : h.Ns mainGlobals mg) (c : SaysX fs fn K) (ih : LvK P w K mg base k) (lk : K.lookup ((gK K).fad 7) = some ⟨oc, od, .func (PySem.W.fnOf "check_numbers" "check_numbers" (defArgs (top 11)) (defBody (top 11)) (defScope (top 11)) .none kV doc pm an cdv ct), osl⟩) (hcd : PySem.W.codeIn K cdv "check_numbers" = true) : FnR P w K mg base (L2.CX P w) (k + 1) ((gK K).fad 7) (spS ⟨gK K, K, w⟩ (callN Pr (k + 1)) 7) :=
  step_star (pv := "things") (N := ["things", "thing"]) (d := ⟨2, 1, f_check_numbers (callN Pr k)⟩) lk hcd sc_7 rfl rfl rfl (fun rest => by cases rest <;> rfl) (fun A outer s H E hr => b_7 (cs_of sc_7.nd hr) (fx (M := amb (cxOf (L2.CX P w) P w K mg base ["things", "thing"] "check_numbers" (defScope (top 11)) ((gK K).fad 7) cdv A outer s H E)) X Gn c (dp hr)) (tabK X Gn c ih hr) (tabVK X Gn c ih hr) (tabSK X Gn c ih hr))
theorem sc_8 : FnScope ["things", "thing"] ["things"] (defScope (top 12)) := ⟨rfl, rfl, rfl, by decide +kernel, rfl, by decide +kernel, by decide +kernel⟩
theorem l_8 {oc kV doc pm cdv ct : Value} {od an : Option Addr} {osl : Array (Option Value)} (X : K.In h) (Gn : h.Ns mainGlobals mg) (c : SaysX fs fn K) (ih : LvK P w K mg base k) (lk : K.lookup ((gK K).fad 8) = some ⟨oc, od, .func (PySem.W.fnOf "check_from_0" "check_from_0" (defArgs (top 12)) (defBody (top 12)) (defScope (top 12)) .none kV doc pm an cdv ct), osl⟩) (hcd : PySem.W.codeIn K cdv "check_from_0" = true) : FnR P w K mg base (L2.CX P w) (k + 1) ((gK K).fad 8) (spS ⟨gK K, K, w⟩ (callN Pr (k + 1)) 8) :=
  step_star (pv := "things") (N := ["things", "thing"]) (d := ⟨2, 1, f_check_from_0 (callN Pr k)⟩) lk hcd sc_8 rfl rfl rfl (fun rest => by cases rest <;> rfl) (fun A outer s H E hr => b_8 (cs_of sc_8.nd hr) (fx (M := amb (cxOf (L2.CX P w) P w K mg base ["things", "thing"] "check_from_0" (defScope (top 12)) ((gK K).fad 8) cdv A outer s H E)) X Gn c (dp hr)) (tabK X Gn c ih hr) (tabVK X Gn c ih hr) (tabSK X Gn c ih hr))
theorem sc_9 : FnScope ["thing", "many", "bit"] ["thing", "many"] (defScope (top 14)) := ⟨rfl, rfl, rfl, by decide +kernel, rfl, by decide +kernel, by decide +kernel⟩
theorem l_9 {oc kV doc pm cdv ct : Value} {od an : Option Addr} {osl : Array (Option Value)} (X : K.In h) (Gn : h.Ns mainGlobals mg) (c : SaysX fs fn K) (ih : LvK P w K mg base k) (lk : K.lookup ((gK K).fad 9) = some ⟨oc, od, .func (PySem.W.fnOf "are_bits" "are_bits" (defArgs (top 14)) (defBody (top 14)) (defScope (top 14)) .none kV doc pm an cdv ct), osl⟩) (hcd : PySem.W.codeIn K cdv "are_bits" = true) : FnOk P w K mg base (L2.CX P w) (k + 1) ((gK K).fad 9) (PySem.W.fnOf "are_bits" "are_bits" (defArgs (top 14)) (defBody (top 14)) (defScope (top 14)) .none kV doc pm an cdv ct) ["thing", "many"] (spC ⟨gK K, K, w⟩ (callN Pr (k + 1)) 9 2) :=
  step (ps := ["thing", "many"]) (N := ["thing", "many", "bit"]) (d := ⟨3, 2, f_are_bits (callN Pr k)⟩) lk hcd sc_9 rfl rfl rfl (fun A outer s H E hr => b_9 (cs_of sc_9.nd hr) (fx (M := amb (cxOf (L2.CX P w) P w K mg base ["thing", "many", "bit"] "are_bits" (defScope (top 14)) ((gK K).fad 9) cdv A outer s H E)) X Gn c (dp hr)) (tabK X Gn c ih hr) (tabVK X Gn c ih hr) (tabSK X Gn c ih hr))
theorem sc_10 : FnScope ["thing"] ["thing"] (defScope (top 17)) := ⟨rfl, rfl, rfl, by decide +kernel, rfl, by decide +kernel, by decide +kernel⟩
theorem l_10 {oc kV doc pm cdv ct : Value} {od an : Option Addr} {osl : Array (Option Value)} (X : K.In h) (Gn : h.Ns mainGlobals mg) (c : SaysX fs fn K) (ih : LvK P w K mg base k) (lk : K.lookup ((gK K).fad 10) = some ⟨oc, od, .func (PySem.W.fnOf "is_skin" "is_skin" (defArgs (top 17)) (defBody (top 17)) (defScope (top 17)) .none kV doc pm an cdv ct), osl⟩) (hcd : PySem.W.codeIn K cdv "is_skin" = true) : FnOk P w K mg base (L2.CX P w) (k + 1) ((gK K).fad 10) (PySem.W.fnOf "is_skin" "is_skin" (defArgs (top 17)) (defBody (top 17)) (defScope (top 17)) .none kV doc pm an cdv ct) ["thing"] (spC ⟨gK K, K, w⟩ (callN Pr (k + 1)) 10 1) :=
  step (ps := ["thing"]) (N := ["thing"]) (d := ⟨1, 1, f_is_skin (callN Pr k)⟩) lk hcd sc_10 rfl rfl rfl (fun A outer s H E hr => b_10 (cs_of sc_10.nd hr) (fx (M := amb (cxOf (L2.CX P w) P w K mg base ["thing"] "is_skin" (defScope (top 17)) ((gK K).fad 10) cdv A outer s H E)) X Gn c (dp hr)) (tabK X Gn c ih hr) (tabVK X Gn c ih hr) (tabSK X Gn c ih hr))
theorem sc_11 : FnScope ["skin", "told"] ["skin"] (defScope (top 18)) := ⟨rfl, rfl, rfl, by decide +kernel, rfl, by decide +kernel, by decide +kernel⟩
theorem l_11 {oc kV doc pm cdv ct : Value} {od an : Option Addr} {osl : Array (Option Value)} (X : K.In h) (Gn : h.Ns mainGlobals mg) (c : SaysX fs fn K) (ih : LvK P w K mg base k) (lk : K.lookup ((gK K).fad 11) = some ⟨oc, od, .func (PySem.W.fnOf "fit_skin" "fit_skin" (defArgs (top 18)) (defBody (top 18)) (defScope (top 18)) .none kV doc pm an cdv ct), osl⟩) (hcd : PySem.W.codeIn K cdv "fit_skin" = true) : FnOk P w K mg base (L2.CX P w) (k + 1) ((gK K).fad 11) (PySem.W.fnOf "fit_skin" "fit_skin" (defArgs (top 18)) (defBody (top 18)) (defScope (top 18)) .none kV doc pm an cdv ct) ["skin"] (spC ⟨gK K, K, w⟩ (callN Pr (k + 1)) 11 1) :=
  step (ps := ["skin"]) (N := ["skin", "told"]) (d := ⟨2, 1, f_fit_skin (callN Pr k)⟩) lk hcd sc_11 rfl rfl rfl (fun A outer s H E hr => b_11 (cs_of sc_11.nd hr) (fx (M := amb (cxOf (L2.CX P w) P w K mg base ["skin", "told"] "fit_skin" (defScope (top 18)) ((gK K).fad 11) cdv A outer s H E)) X Gn c (dp hr)) (tabK X Gn c ih hr) (tabVK X Gn c ih hr) (tabSK X Gn c ih hr))
theorem sc_12 : FnScope ["thing", "row"] ["thing"] (defScope (top 19)) := ⟨rfl, rfl, rfl, by decide +kernel, rfl, by decide +kernel, by decide +kernel⟩
theorem l_12 {oc kV doc pm cdv ct : Value} {od an : Option Addr} {osl : Array (Option Value)} (X : K.In h) (Gn : h.Ns mainGlobals mg) (c : SaysX fs fn K) (ih : LvK P w K mg base k) (lk : K.lookup ((gK K).fad 12) = some ⟨oc, od, .func (PySem.W.fnOf "has_skin_form" "has_skin_form" (defArgs (top 19)) (defBody (top 19)) (defScope (top 19)) .none kV doc pm an cdv ct), osl⟩) (hcd : PySem.W.codeIn K cdv "has_skin_form" = true) : FnOk P w K mg base (L2.CX P w) (k + 1) ((gK K).fad 12) (PySem.W.fnOf "has_skin_form" "has_skin_form" (defArgs (top 19)) (defBody (top 19)) (defScope (top 19)) .none kV doc pm an cdv ct) ["thing"] (spC ⟨gK K, K, w⟩ (callN Pr (k + 1)) 12 1) :=
  step (ps := ["thing"]) (N := ["thing", "row"]) (d := ⟨2, 1, f_has_skin_form (callN Pr k)⟩) lk hcd sc_12 rfl rfl rfl (fun A outer s H E hr => b_12 (cs_of sc_12.nd hr) (fx (M := amb (cxOf (L2.CX P w) P w K mg base ["thing", "row"] "has_skin_form" (defScope (top 19)) ((gK K).fad 12) cdv A outer s H E)) X Gn c (dp hr)) (tabK X Gn c ih hr) (tabVK X Gn c ih hr) (tabSK X Gn c ih hr))
theorem sc_13 : FnScope ["thing", "many", "crossing"] ["thing", "many"] (defScope (top 20)) := ⟨rfl, rfl, rfl, by decide +kernel, rfl, by decide +kernel, by decide +kernel⟩
theorem l_13 {oc kV doc pm cdv ct : Value} {od an : Option Addr} {osl : Array (Option Value)} (X : K.In h) (Gn : h.Ns mainGlobals mg) (c : SaysX fs fn K) (ih : LvK P w K mg base k) (lk : K.lookup ((gK K).fad 13) = some ⟨oc, od, .func (PySem.W.fnOf "is_field_row" "is_field_row" (defArgs (top 20)) (defBody (top 20)) (defScope (top 20)) .none kV doc pm an cdv ct), osl⟩) (hcd : PySem.W.codeIn K cdv "is_field_row" = true) : FnOk P w K mg base (L2.CX P w) (k + 1) ((gK K).fad 13) (PySem.W.fnOf "is_field_row" "is_field_row" (defArgs (top 20)) (defBody (top 20)) (defScope (top 20)) .none kV doc pm an cdv ct) ["thing", "many"] (spC ⟨gK K, K, w⟩ (callN Pr (k + 1)) 13 2) :=
  step (ps := ["thing", "many"]) (N := ["thing", "many", "crossing"]) (d := ⟨3, 2, f_is_field_row (callN Pr k)⟩) lk hcd sc_13 rfl rfl rfl (fun A outer s H E hr => b_13 (cs_of sc_13.nd hr) (fx (M := amb (cxOf (L2.CX P w) P w K mg base ["thing", "many", "crossing"] "is_field_row" (defScope (top 20)) ((gK K).fad 13) cdv A outer s H E)) X Gn c (dp hr)) (tabK X Gn c ih hr) (tabVK X Gn c ih hr) (tabSK X Gn c ih hr))
theorem sc_14 : FnScope ["thing", "many"] ["thing", "many"] (defScope (top 21)) := ⟨rfl, rfl, rfl, by decide +kernel, rfl, by decide +kernel, by decide +kernel⟩
theorem l_14 {oc kV doc pm cdv ct : Value} {od an : Option Addr} {osl : Array (Option Value)} (X : K.In h) (Gn : h.Ns mainGlobals mg) (c : SaysX fs fn K) (ih : LvK P w K mg base k) (lk : K.lookup ((gK K).fad 14) = some ⟨oc, od, .func (PySem.W.fnOf "is_crossing_below" "is_crossing_below" (defArgs (top 21)) (defBody (top 21)) (defScope (top 21)) .none kV doc pm an cdv ct), osl⟩) (hcd : PySem.W.codeIn K cdv "is_crossing_below" = true) : FnOk P w K mg base (L2.CX P w) (k + 1) ((gK K).fad 14) (PySem.W.fnOf "is_crossing_below" "is_crossing_below" (defArgs (top 21)) (defBody (top 21)) (defScope (top 21)) .none kV doc pm an cdv ct) ["thing", "many"] (spC ⟨gK K, K, w⟩ (callN Pr (k + 1)) 14 2) :=
  step (ps := ["thing", "many"]) (N := ["thing", "many"]) (d := ⟨2, 2, f_is_crossing_below (callN Pr k)⟩) lk hcd sc_14 rfl rfl rfl (fun A outer s H E hr => b_14 (cs_of sc_14.nd hr) (fx (M := amb (cxOf (L2.CX P w) P w K mg base ["thing", "many"] "is_crossing_below" (defScope (top 21)) ((gK K).fad 14) cdv A outer s H E)) X Gn c (dp hr)) (tabK X Gn c ih hr) (tabVK X Gn c ih hr) (tabSK X Gn c ih hr))
theorem sc_15 : FnScope ["rows", "field", "row", "side", "there", "at"] ["rows"] (defScope (top 22)) := ⟨rfl, rfl, rfl, by decide +kernel, rfl, by decide +kernel, by decide +kernel⟩
theorem l_15 {oc kV doc pm cdv ct : Value} {od an : Option Addr} {osl : Array (Option Value)} (X : K.In h) (Gn : h.Ns mainGlobals mg) (c : SaysX fs fn K) (ih : LvK P w K mg base k) (lk : K.lookup ((gK K).fad 15) = some ⟨oc, od, .func (PySem.W.fnOf "is_sewn_back" "is_sewn_back" (defArgs (top 22)) (defBody (top 22)) (defScope (top 22)) .none kV doc pm an cdv ct), osl⟩) (hcd : PySem.W.codeIn K cdv "is_sewn_back" = true) : FnOk P w K mg base (L2.CX P w) (k + 1) ((gK K).fad 15) (PySem.W.fnOf "is_sewn_back" "is_sewn_back" (defArgs (top 22)) (defBody (top 22)) (defScope (top 22)) .none kV doc pm an cdv ct) ["rows"] (spC ⟨gK K, K, w⟩ (callN Pr (k + 1)) 15 1) :=
  step (ps := ["rows"]) (N := ["rows", "field", "row", "side", "there", "at"]) (d := ⟨6, 1, f_is_sewn_back (callN Pr k)⟩) lk hcd sc_15 rfl rfl rfl (fun A outer s H E hr => b_15 (cs_of sc_15.nd hr) (fx (M := amb (cxOf (L2.CX P w) P w K mg base ["rows", "field", "row", "side", "there", "at"] "is_sewn_back" (defScope (top 22)) ((gK K).fad 15) cdv A outer s H E)) X Gn c (dp hr)) (tabK X Gn c ih hr) (tabVK X Gn c ih hr) (tabSK X Gn c ih hr))
theorem sc_16 : FnScope ["rows", "met", "waiting", "field", "there", "_"] ["rows"] (defScope (top 23)) := ⟨rfl, rfl, rfl, by decide +kernel, rfl, by decide +kernel, by decide +kernel⟩
theorem l_16 {oc kV doc pm cdv ct : Value} {od an : Option Addr} {osl : Array (Option Value)} (X : K.In h) (Gn : h.Ns mainGlobals mg) (c : SaysX fs fn K) (ih : LvK P w K mg base k) (lk : K.lookup ((gK K).fad 16) = some ⟨oc, od, .func (PySem.W.fnOf "hangs_together" "hangs_together" (defArgs (top 23)) (defBody (top 23)) (defScope (top 23)) .none kV doc pm an cdv ct), osl⟩) (hcd : PySem.W.codeIn K cdv "hangs_together" = true) : FnOk P w K mg base (L2.CX P w) (k + 1) ((gK K).fad 16) (PySem.W.fnOf "hangs_together" "hangs_together" (defArgs (top 23)) (defBody (top 23)) (defScope (top 23)) .none kV doc pm an cdv ct) ["rows"] (spC ⟨gK K, K, w⟩ (callN Pr (k + 1)) 16 1) :=
  step (ps := ["rows"]) (N := ["rows", "met", "waiting", "field", "there", "_"]) (d := ⟨6, 1, f_hangs_together (callN Pr k)⟩) lk hcd sc_16 rfl rfl rfl (fun A outer s H E hr => b_16 (cs_of sc_16.nd hr) (fx (M := amb (cxOf (L2.CX P w) P w K mg base ["rows", "met", "waiting", "field", "there", "_"] "hangs_together" (defScope (top 23)) ((gK K).fad 16) cdv A outer s H E)) X Gn c (dp hr)) (tabK X Gn c ih hr) (tabVK X Gn c ih hr) (tabSK X Gn c ih hr))
theorem sc_17 : FnScope ["skin", "field", "row", "side", "crossing"] ["skin"] (defScope (top 24)) := ⟨rfl, rfl, rfl, by decide +kernel, rfl, by decide +kernel, by decide +kernel⟩
theorem l_17 {oc kV doc pm cdv ct : Value} {od an : Option Addr} {osl : Array (Option Value)} (X : K.In h) (Gn : h.Ns mainGlobals mg) (c : SaysX fs fn K) (ih : LvK P w K mg base k) (lk : K.lookup ((gK K).fad 17) = some ⟨oc, od, .func (PySem.W.fnOf "lesser_crossings" "lesser_crossings" (defArgs (top 24)) (defBody (top 24)) (defScope (top 24)) .none kV doc pm an cdv ct), osl⟩) (hcd : PySem.W.codeIn K cdv "lesser_crossings" = true) : FnOk P w K mg base (L2.CX P w) (k + 1) ((gK K).fad 17) (PySem.W.fnOf "lesser_crossings" "lesser_crossings" (defArgs (top 24)) (defBody (top 24)) (defScope (top 24)) .none kV doc pm an cdv ct) ["skin"] (spC ⟨gK K, K, w⟩ (callN Pr (k + 1)) 17 1) :=
  step (ps := ["skin"]) (N := ["skin", "field", "row", "side", "crossing"]) (d := ⟨5, 1, f_lesser_crossings (callN Pr k)⟩) lk hcd sc_17 rfl rfl rfl (fun A outer s H E hr => b_17 (cs_of sc_17.nd hr) (fx (M := amb (cxOf (L2.CX P w) P w K mg base ["skin", "field", "row", "side", "crossing"] "lesser_crossings" (defScope (top 24)) ((gK K).fad 17) cdv A outer s H E)) X Gn c (dp hr)) (tabK X Gn c ih hr) (tabVK X Gn c ih hr) (tabSK X Gn c ih hr))
theorem sc_18 : FnScope ["skin", "field", "side"] ["skin"] (defScope (top 25)) := ⟨rfl, rfl, rfl, by decide +kernel, rfl, by decide +kernel, by decide +kernel⟩
theorem l_18 {oc kV doc pm cdv ct : Value} {od an : Option Addr} {osl : Array (Option Value)} (X : K.In h) (Gn : h.Ns mainGlobals mg) (c : SaysX fs fn K) (ih : LvK P w K mg base k) (lk : K.lookup ((gK K).fad 18) = some ⟨oc, od, .func (PySem.W.fnOf "joined_fields" "joined_fields" (defArgs (top 25)) (defBody (top 25)) (defScope (top 25)) .none kV doc pm an cdv ct), osl⟩) (hcd : PySem.W.codeIn K cdv "joined_fields" = true) : FnOk P w K mg base (L2.CX P w) (k + 1) ((gK K).fad 18) (PySem.W.fnOf "joined_fields" "joined_fields" (defArgs (top 25)) (defBody (top 25)) (defScope (top 25)) .none kV doc pm an cdv ct) ["skin"] (spC ⟨gK K, K, w⟩ (callN Pr (k + 1)) 18 1) :=
  step (ps := ["skin"]) (N := ["skin", "field", "side"]) (d := ⟨3, 1, f_joined_fields (callN Pr k)⟩) lk hcd sc_18 rfl rfl rfl (fun A outer s H E hr => b_18 (cs_of sc_18.nd hr) (fx (M := amb (cxOf (L2.CX P w) P w K mg base ["skin", "field", "side"] "joined_fields" (defScope (top 25)) ((gK K).fad 18) cdv A outer s H E)) X Gn c (dp hr)) (tabK X Gn c ih hr) (tabVK X Gn c ih hr) (tabSK X Gn c ih hr))
theorem sc_19 : FnScope ["skin", "thing"] ["skin", "thing"] (defScope (top 27)) := ⟨rfl, rfl, rfl, by decide +kernel, rfl, by decide +kernel, by decide +kernel⟩
theorem l_19 {oc kV doc pm cdv ct : Value} {od an : Option Addr} {osl : Array (Option Value)} (X : K.In h) (Gn : h.Ns mainGlobals mg) (c : SaysX fs fn K) (ih : LvK P w K mg base k) (lk : K.lookup ((gK K).fad 19) = some ⟨oc, od, .func (PySem.W.fnOf "is_lot_of_edges" "is_lot_of_edges" (defArgs (top 27)) (defBody (top 27)) (defScope (top 27)) .none kV doc pm an cdv ct), osl⟩) (hcd : PySem.W.codeIn K cdv "is_lot_of_edges" = true) : FnOk P w K mg base (L2.CX P w) (k + 1) ((gK K).fad 19) (PySem.W.fnOf "is_lot_of_edges" "is_lot_of_edges" (defArgs (top 27)) (defBody (top 27)) (defScope (top 27)) .none kV doc pm an cdv ct) ["skin", "thing"] (spC ⟨gK K, K, w⟩ (callN Pr (k + 1)) 19 2) :=
  step (ps := ["skin", "thing"]) (N := ["skin", "thing"]) (d := ⟨2, 2, f_is_lot_of_edges (callN Pr k)⟩) lk hcd sc_19 rfl rfl rfl (fun A outer s H E hr => b_19 (cs_of sc_19.nd hr) (fx (M := amb (cxOf (L2.CX P w) P w K mg base ["skin", "thing"] "is_lot_of_edges" (defScope (top 27)) ((gK K).fad 19) cdv A outer s H E)) X Gn c (dp hr)) (tabK X Gn c ih hr) (tabVK X Gn c ih hr) (tabSK X Gn c ih hr))
theorem sc_20 : FnScope ["skin", "arrows", "told"] ["skin", "arrows"] (defScope (top 29)) := ⟨rfl, rfl, rfl, by decide +kernel, rfl, by decide +kernel, by decide +kernel⟩
theorem l_20 {oc kV doc pm cdv ct : Value} {od an : Option Addr} {osl : Array (Option Value)} (X : K.In h) (Gn : h.Ns mainGlobals mg) (c : SaysX fs fn K) (ih : LvK P w K mg base k) (lk : K.lookup ((gK K).fad 20) = some ⟨oc, od, .func (PySem.W.fnOf "fit_arrows" "fit_arrows" (defArgs (top 29)) (defBody (top 29)) (defScope (top 29)) .none kV doc pm an cdv ct), osl⟩) (hcd : PySem.W.codeIn K cdv "fit_arrows" = true) : FnOk P w K mg base (L2.CX P w) (k + 1) ((gK K).fad 20) (PySem.W.fnOf "fit_arrows" "fit_arrows" (defArgs (top 29)) (defBody (top 29)) (defScope (top 29)) .none kV doc pm an cdv ct) ["skin", "arrows"] (spC ⟨gK K, K, w⟩ (callN Pr (k + 1)) 20 2) :=
  step (ps := ["skin", "arrows"]) (N := ["skin", "arrows", "told"]) (d := ⟨3, 2, f_fit_arrows (callN Pr k)⟩) lk hcd sc_20 rfl rfl rfl (fun A outer s H E hr => b_20 (cs_of sc_20.nd hr) (fx (M := amb (cxOf (L2.CX P w) P w K mg base ["skin", "arrows", "told"] "fit_arrows" (defScope (top 29)) ((gK K).fad 20) cdv A outer s H E)) X Gn c (dp hr)) (tabK X Gn c ih hr) (tabVK X Gn c ih hr) (tabSK X Gn c ih hr))
theorem sc_21 : FnScope ["skin", "thing"] ["skin", "thing"] (defScope (top 30)) := ⟨rfl, rfl, rfl, by decide +kernel, rfl, by decide +kernel, by decide +kernel⟩
theorem l_21 {oc kV doc pm cdv ct : Value} {od an : Option Addr} {osl : Array (Option Value)} (X : K.In h) (Gn : h.Ns mainGlobals mg) (c : SaysX fs fn K) (ih : LvK P w K mg base k) (lk : K.lookup ((gK K).fad 21) = some ⟨oc, od, .func (PySem.W.fnOf "are_arrows_of" "are_arrows_of" (defArgs (top 30)) (defBody (top 30)) (defScope (top 30)) .none kV doc pm an cdv ct), osl⟩) (hcd : PySem.W.codeIn K cdv "are_arrows_of" = true) : FnOk P w K mg base (L2.CX P w) (k + 1) ((gK K).fad 21) (PySem.W.fnOf "are_arrows_of" "are_arrows_of" (defArgs (top 30)) (defBody (top 30)) (defScope (top 30)) .none kV doc pm an cdv ct) ["skin", "thing"] (spC ⟨gK K, K, w⟩ (callN Pr (k + 1)) 21 2) :=
  step (ps := ["skin", "thing"]) (N := ["skin", "thing"]) (d := ⟨2, 2, f_are_arrows_of (callN Pr k)⟩) lk hcd sc_21 rfl rfl rfl (fun A outer s H E hr => b_21 (cs_of sc_21.nd hr) (fx (M := amb (cxOf (L2.CX P w) P w K mg base ["skin", "thing"] "are_arrows_of" (defScope (top 30)) ((gK K).fad 21) cdv A outer s H E)) X Gn c (dp hr)) (tabK X Gn c ih hr) (tabVK X Gn c ih hr) (tabSK X Gn c ih hr))
theorem sc_22 : FnScope ["skin", "pairing", "told"] ["skin", "pairing"] (defScope (top 32)) := ⟨rfl, rfl, rfl, by decide +kernel, rfl, by decide +kernel, by decide +kernel⟩
theorem l_22 {oc kV doc pm cdv ct : Value} {od an : Option Addr} {osl : Array (Option Value)} (X : K.In h) (Gn : h.Ns mainGlobals mg) (c : SaysX fs fn K) (ih : LvK P w K mg base k) (lk : K.lookup ((gK K).fad 22) = some ⟨oc, od, .func (PySem.W.fnOf "fit_pairing" "fit_pairing" (defArgs (top 32)) (defBody (top 32)) (defScope (top 32)) .none kV doc pm an cdv ct), osl⟩) (hcd : PySem.W.codeIn K cdv "fit_pairing" = true) : FnOk P w K mg base (L2.CX P w) (k + 1) ((gK K).fad 22) (PySem.W.fnOf "fit_pairing" "fit_pairing" (defArgs (top 32)) (defBody (top 32)) (defScope (top 32)) .none kV doc pm an cdv ct) ["skin", "pairing"] (spC ⟨gK K, K, w⟩ (callN Pr (k + 1)) 22 2) :=
  step (ps := ["skin", "pairing"]) (N := ["skin", "pairing", "told"]) (d := ⟨3, 2, f_fit_pairing (callN Pr k)⟩) lk hcd sc_22 rfl rfl rfl (fun A outer s H E hr => b_22 (cs_of sc_22.nd hr) (fx (M := amb (cxOf (L2.CX P w) P w K mg base ["skin", "pairing", "told"] "fit_pairing" (defScope (top 32)) ((gK K).fad 22) cdv A outer s H E)) X Gn c (dp hr)) (tabK X Gn c ih hr) (tabVK X Gn c ih hr) (tabSK X Gn c ih hr))
theorem sc_23 : FnScope ["skin", "thing", "fields", "edge", "field"] ["skin", "thing"] (defScope (top 33)) := ⟨rfl, rfl, rfl, by decide +kernel, rfl, by decide +kernel, by decide +kernel⟩
theorem l_23 {oc kV doc pm cdv ct : Value} {od an : Option Addr} {osl : Array (Option Value)} (X : K.In h) (Gn : h.Ns mainGlobals mg) (c : SaysX fs fn K) (ih : LvK P w K mg base k) (lk : K.lookup ((gK K).fad 23) = some ⟨oc, od, .func (PySem.W.fnOf "is_pairing_of" "is_pairing_of" (defArgs (top 33)) (defBody (top 33)) (defScope (top 33)) .none kV doc pm an cdv ct), osl⟩) (hcd : PySem.W.codeIn K cdv "is_pairing_of" = true) : FnOk P w K mg base (L2.CX P w) (k + 1) ((gK K).fad 23) (PySem.W.fnOf "is_pairing_of" "is_pairing_of" (defArgs (top 33)) (defBody (top 33)) (defScope (top 33)) .none kV doc pm an cdv ct) ["skin", "thing"] (spC ⟨gK K, K, w⟩ (callN Pr (k + 1)) 23 2) :=
  step (ps := ["skin", "thing"]) (N := ["skin", "thing", "fields", "edge", "field"]) (d := ⟨5, 2, f_is_pairing_of (callN Pr k)⟩) lk hcd sc_23 rfl rfl rfl (fun A outer s H E hr => b_23 (cs_of sc_23.nd hr) (fx (M := amb (cxOf (L2.CX P w) P w K mg base ["skin", "thing", "fields", "edge", "field"] "is_pairing_of" (defScope (top 33)) ((gK K).fad 23) cdv A outer s H E)) X Gn c (dp hr)) (tabK X Gn c ih hr) (tabVK X Gn c ih hr) (tabSK X Gn c ih hr))
theorem sc_24 : FnScope ["skin", "worths", "pairing", "told", "own", "worth", "edge"] ["skin", "worths", "pairing"] (defScope (top 35)) := ⟨rfl, rfl, rfl, by decide +kernel, rfl, by decide +kernel, by decide +kernel⟩
theorem l_24 {oc kV doc pm cdv ct : Value} {od an : Option Addr} {osl : Array (Option Value)} (X : K.In h) (Gn : h.Ns mainGlobals mg) (c : SaysX fs fn K) (ih : LvK P w K mg base k) (lk : K.lookup ((gK K).fad 24) = some ⟨oc, od, .func (PySem.W.fnOf "worth_of" "worth_of" (defArgs (top 35)) (defBody (top 35)) (defScope (top 35)) .none kV doc pm an cdv ct), osl⟩) (hcd : PySem.W.codeIn K cdv "worth_of" = true) : FnOk P w K mg base (L2.CX P w) (k + 1) ((gK K).fad 24) (PySem.W.fnOf "worth_of" "worth_of" (defArgs (top 35)) (defBody (top 35)) (defScope (top 35)) .none kV doc pm an cdv ct) ["skin", "worths", "pairing"] (spC ⟨gK K, K, w⟩ (callN Pr (k + 1)) 24 3) :=
  step (ps := ["skin", "worths", "pairing"]) (N := ["skin", "worths", "pairing", "told", "own", "worth", "edge"]) (d := ⟨7, 3, f_worth_of (callN Pr k)⟩) lk hcd sc_24 rfl rfl rfl (fun A outer s H E hr => b_24 (cs_of sc_24.nd hr) (fx (M := amb (cxOf (L2.CX P w) P w K mg base ["skin", "worths", "pairing", "told", "own", "worth", "edge"] "worth_of" (defScope (top 35)) ((gK K).fad 24) cdv A outer s H E)) X Gn c (dp hr)) (tabK X Gn c ih hr) (tabVK X Gn c ih hr) (tabSK X Gn c ih hr))
theorem sc_25 : FnScope ["skin", "arrows", "pairing", "told", "own"] ["skin", "arrows", "pairing"] (defScope (top 36)) := ⟨rfl, rfl, rfl, by decide +kernel, rfl, by decide +kernel, by decide +kernel⟩
theorem l_25 {oc kV doc pm cdv ct : Value} {od an : Option Addr} {osl : Array (Option Value)} (X : K.In h) (Gn : h.Ns mainGlobals mg) (c : SaysX fs fn K) (ih : LvK P w K mg base k) (lk : K.lookup ((gK K).fad 25) = some ⟨oc, od, .func (PySem.W.fnOf "sign_of" "sign_of" (defArgs (top 36)) (defBody (top 36)) (defScope (top 36)) .none kV doc pm an cdv ct), osl⟩) (hcd : PySem.W.codeIn K cdv "sign_of" = true) : FnOk P w K mg base (L2.CX P w) (k + 1) ((gK K).fad 25) (PySem.W.fnOf "sign_of" "sign_of" (defArgs (top 36)) (defBody (top 36)) (defScope (top 36)) .none kV doc pm an cdv ct) ["skin", "arrows", "pairing"] (spC ⟨gK K, K, w⟩ (callN Pr (k + 1)) 25 3) :=
  step (ps := ["skin", "arrows", "pairing"]) (N := ["skin", "arrows", "pairing", "told", "own"]) (d := ⟨5, 3, f_sign_of (callN Pr k)⟩) lk hcd sc_25 rfl rfl rfl (fun A outer s H E hr => b_25 (cs_of sc_25.nd hr) (fx (M := amb (cxOf (L2.CX P w) P w K mg base ["skin", "arrows", "pairing", "told", "own"] "sign_of" (defScope (top 36)) ((gK K).fad 25) cdv A outer s H E)) X Gn c (dp hr)) (tabK X Gn c ih hr) (tabVK X Gn c ih hr) (tabSK X Gn c ih hr))
theorem sc_26 : FnScope ["skin", "arrows", "worths", "told", "own"] ["skin", "arrows", "worths"] (defScope (top 37)) := ⟨rfl, rfl, rfl, by decide +kernel, rfl, by decide +kernel, by decide +kernel⟩
theorem l_26 {oc kV doc pm cdv ct : Value} {od an : Option Addr} {osl : Array (Option Value)} (X : K.In h) (Gn : h.Ns mainGlobals mg) (c : SaysX fs fn K) (ih : LvK P w K mg base k) (lk : K.lookup ((gK K).fad 26) = some ⟨oc, od, .func (PySem.W.fnOf "signed_table" "signed_table" (defArgs (top 37)) (defBody (top 37)) (defScope (top 37)) .none kV doc pm an cdv ct), osl⟩) (hcd : PySem.W.codeIn K cdv "signed_table" = true) : FnOk P w K mg base (L2.CX P w) (k + 1) ((gK K).fad 26) (PySem.W.fnOf "signed_table" "signed_table" (defArgs (top 37)) (defBody (top 37)) (defScope (top 37)) .none kV doc pm an cdv ct) ["skin", "arrows", "worths"] (spC ⟨gK K, K, w⟩ (callN Pr (k + 1)) 26 3) :=
  step (ps := ["skin", "arrows", "worths"]) (N := ["skin", "arrows", "worths", "told", "own"]) (d := ⟨5, 3, f_signed_table (callN Pr k)⟩) lk hcd sc_26 rfl rfl rfl (fun A outer s H E hr => b_26 (cs_of sc_26.nd hr) (fx (M := amb (cxOf (L2.CX P w) P w K mg base ["skin", "arrows", "worths", "told", "own"] "signed_table" (defScope (top 37)) ((gK K).fad 26) cdv A outer s H E)) X Gn c (dp hr)) (tabK X Gn c ih hr) (tabVK X Gn c ih hr) (tabSK X Gn c ih hr))
theorem sc_27 : FnScope ["thing", "row", "at", "far", "number"] ["thing"] (defScope (top 38)) := ⟨rfl, rfl, rfl, by decide +kernel, rfl, by decide +kernel, by decide +kernel⟩
theorem l_27 {oc kV doc pm cdv ct : Value} {od an : Option Addr} {osl : Array (Option Value)} (X : K.In h) (Gn : h.Ns mainGlobals mg) (c : SaysX fs fn K) (ih : LvK P w K mg base k) (lk : K.lookup ((gK K).fad 27) = some ⟨oc, od, .func (PySem.W.fnOf "is_signed_table" "is_signed_table" (defArgs (top 38)) (defBody (top 38)) (defScope (top 38)) .none kV doc pm an cdv ct), osl⟩) (hcd : PySem.W.codeIn K cdv "is_signed_table" = true) : FnOk P w K mg base (L2.CX P w) (k + 1) ((gK K).fad 27) (PySem.W.fnOf "is_signed_table" "is_signed_table" (defArgs (top 38)) (defBody (top 38)) (defScope (top 38)) .none kV doc pm an cdv ct) ["thing"] (spC ⟨gK K, K, w⟩ (callN Pr (k + 1)) 27 1) :=
  step (ps := ["thing"]) (N := ["thing", "row", "at", "far", "number"]) (d := ⟨5, 1, f_is_signed_table (callN Pr k)⟩) lk hcd sc_27 rfl rfl rfl (fun A outer s H E hr => b_27 (cs_of sc_27.nd hr) (fx (M := amb (cxOf (L2.CX P w) P w K mg base ["thing", "row", "at", "far", "number"] "is_signed_table" (defScope (top 38)) ((gK K).fad 27) cdv A outer s H E)) X Gn c (dp hr)) (tabK X Gn c ih hr) (tabVK X Gn c ih hr) (tabSK X Gn c ih hr))
theorem sc_28 : FnScope ["table"] ["table"] (defScope (top 39)) := ⟨rfl, rfl, rfl, by decide +kernel, rfl, by decide +kernel, by decide +kernel⟩
theorem l_28 {oc kV doc pm cdv ct : Value} {od an : Option Addr} {osl : Array (Option Value)} (X : K.In h) (Gn : h.Ns mainGlobals mg) (c : SaysX fs fn K) (ih : LvK P w K mg base k) (lk : K.lookup ((gK K).fad 28) = some ⟨oc, od, .func (PySem.W.fnOf "paired_sum" "paired_sum" (defArgs (top 39)) (defBody (top 39)) (defScope (top 39)) .none kV doc pm an cdv ct), osl⟩) (hcd : PySem.W.codeIn K cdv "paired_sum" = true) : FnOk P w K mg base (L2.CX P w) (k + 1) ((gK K).fad 28) (PySem.W.fnOf "paired_sum" "paired_sum" (defArgs (top 39)) (defBody (top 39)) (defScope (top 39)) .none kV doc pm an cdv ct) ["table"] (spC ⟨gK K, K, w⟩ (callN Pr (k + 1)) 28 1) :=
  step (ps := ["table"]) (N := ["table"]) (d := ⟨1, 1, f_paired_sum (callN Pr k)⟩) lk hcd sc_28 rfl rfl rfl (fun A outer s H E hr => b_28 (cs_of sc_28.nd hr) (fx (M := amb (cxOf (L2.CX P w) P w K mg base ["table"] "paired_sum" (defScope (top 39)) ((gK K).fad 28) cdv A outer s H E)) X Gn c (dp hr)) (tabK X Gn c ih hr) (tabVK X Gn c ih hr) (tabSK X Gn c ih hr))
theorem sc_29 : FnScope ["table", "fields", "told", "own"] ["table", "fields"] (defScope (top 40)) := ⟨rfl, rfl, rfl, by decide +kernel, rfl, by decide +kernel, by decide +kernel⟩
theorem l_29 {oc kV doc pm cdv ct : Value} {od an : Option Addr} {osl : Array (Option Value)} (X : K.In h) (Gn : h.Ns mainGlobals mg) (c : SaysX fs fn K) (ih : LvK P w K mg base k) (lk : K.lookup ((gK K).fad 29) = some ⟨oc, od, .func (PySem.W.fnOf "struck" "struck" (defArgs (top 40)) (defBody (top 40)) (defScope (top 40)) .none kV doc pm an cdv ct), osl⟩) (hcd : PySem.W.codeIn K cdv "struck" = true) : FnOk P w K mg base (L2.CX P w) (k + 1) ((gK K).fad 29) (PySem.W.fnOf "struck" "struck" (defArgs (top 40)) (defBody (top 40)) (defScope (top 40)) .none kV doc pm an cdv ct) ["table", "fields"] (spC ⟨gK K, K, w⟩ (callN Pr (k + 1)) 29 2) :=
  step (ps := ["table", "fields"]) (N := ["table", "fields", "told", "own"]) (d := ⟨4, 2, f_struck (callN Pr k)⟩) lk hcd sc_29 rfl rfl rfl (fun A outer s H E hr => b_29 (cs_of sc_29.nd hr) (fx (M := amb (cxOf (L2.CX P w) P w K mg base ["table", "fields", "told", "own"] "struck" (defScope (top 40)) ((gK K).fad 29) cdv A outer s H E)) X Gn c (dp hr)) (tabK X Gn c ih hr) (tabVK X Gn c ih hr) (tabSK X Gn c ih hr))
theorem sc_30 : FnScope ["table", "fields", "told", "own", "signs", "row", "sign", "far", "number"] ["table", "fields"] (defScope (top 41)) := ⟨rfl, rfl, rfl, by decide +kernel, rfl, by decide +kernel, by decide +kernel⟩
theorem l_30 {oc kV doc pm cdv ct : Value} {od an : Option Addr} {osl : Array (Option Value)} (X : K.In h) (Gn : h.Ns mainGlobals mg) (c : SaysX fs fn K) (ih : LvK P w K mg base k) (lk : K.lookup ((gK K).fad 30) = some ⟨oc, od, .func (PySem.W.fnOf "turned_table" "turned_table" (defArgs (top 41)) (defBody (top 41)) (defScope (top 41)) .none kV doc pm an cdv ct), osl⟩) (hcd : PySem.W.codeIn K cdv "turned_table" = true) : FnOk P w K mg base (L2.CX P w) (k + 1) ((gK K).fad 30) (PySem.W.fnOf "turned_table" "turned_table" (defArgs (top 41)) (defBody (top 41)) (defScope (top 41)) .none kV doc pm an cdv ct) ["table", "fields"] (spC ⟨gK K, K, w⟩ (callN Pr (k + 1)) 30 2) :=
  step (ps := ["table", "fields"]) (N := ["table", "fields", "told", "own", "signs", "row", "sign", "far", "number"]) (d := ⟨9, 2, f_turned_table (callN Pr k)⟩) lk hcd sc_30 rfl rfl rfl (fun A outer s H E hr => b_30 (cs_of sc_30.nd hr) (fx (M := amb (cxOf (L2.CX P w) P w K mg base ["table", "fields", "told", "own", "signs", "row", "sign", "far", "number"] "turned_table" (defScope (top 41)) ((gK K).fad 30) cdv A outer s H E)) X Gn c (dp hr)) (tabK X Gn c ih hr) (tabVK X Gn c ih hr) (tabSK X Gn c ih hr))
theorem sc_31 : FnScope ["table", "field", "other", "number", "told", "rows", "far", "own", "row"] ["table", "field", "other", "number"] (defScope (top 42)) := ⟨rfl, rfl, rfl, by decide +kernel, rfl, by decide +kernel, by decide +kernel⟩
theorem l_31 {oc kV doc pm cdv ct : Value} {od an : Option Addr} {osl : Array (Option Value)} (X : K.In h) (Gn : h.Ns mainGlobals mg) (c : SaysX fs fn K) (ih : LvK P w K mg base k) (lk : K.lookup ((gK K).fad 31) = some ⟨oc, od, .func (PySem.W.fnOf "row_added" "row_added" (defArgs (top 42)) (defBody (top 42)) (defScope (top 42)) .none kV doc pm an cdv ct), osl⟩) (hcd : PySem.W.codeIn K cdv "row_added" = true) : FnOk P w K mg base (L2.CX P w) (k + 1) ((gK K).fad 31) (PySem.W.fnOf "row_added" "row_added" (defArgs (top 42)) (defBody (top 42)) (defScope (top 42)) .none kV doc pm an cdv ct) ["table", "field", "other", "number"] (spC ⟨gK K, K, w⟩ (callN Pr (k + 1)) 31 4) :=
  step (ps := ["table", "field", "other", "number"]) (N := ["table", "field", "other", "number", "told", "rows", "far", "own", "row"]) (d := ⟨9, 4, f_row_added (callN Pr k)⟩) lk hcd sc_31 rfl rfl rfl (fun A outer s H E hr => b_31 (cs_of sc_31.nd hr) (fx (M := amb (cxOf (L2.CX P w) P w K mg base ["table", "field", "other", "number", "told", "rows", "far", "own", "row"] "row_added" (defScope (top 42)) ((gK K).fad 31) cdv A outer s H E)) X Gn c (dp hr)) (tabK X Gn c ih hr) (tabVK X Gn c ih hr) (tabSK X Gn c ih hr))
theorem sc_32 : FnScope ["table", "field", "told", "far"] ["table", "field"] (defScope (top 43)) := ⟨rfl, rfl, rfl, by decide +kernel, rfl, by decide +kernel, by decide +kernel⟩
theorem l_32 {oc kV doc pm cdv ct : Value} {od an : Option Addr} {osl : Array (Option Value)} (X : K.In h) (Gn : h.Ns mainGlobals mg) (c : SaysX fs fn K) (ih : LvK P w K mg base k) (lk : K.lookup ((gK K).fad 32) = some ⟨oc, od, .func (PySem.W.fnOf "sum_by_pairs" "sum_by_pairs" (defArgs (top 43)) (defBody (top 43)) (defScope (top 43)) .none kV doc pm an cdv ct), osl⟩) (hcd : PySem.W.codeIn K cdv "sum_by_pairs" = true) : FnOk P w K mg base (L2.CX P w) (k + 1) ((gK K).fad 32) (PySem.W.fnOf "sum_by_pairs" "sum_by_pairs" (defArgs (top 43)) (defBody (top 43)) (defScope (top 43)) .none kV doc pm an cdv ct) ["table", "field"] (spC ⟨gK K, K, w⟩ (callN Pr (k + 1)) 32 2) :=
  step (ps := ["table", "field"]) (N := ["table", "field", "told", "far"]) (d := ⟨4, 2, f_sum_by_pairs (callN Pr k)⟩) lk hcd sc_32 rfl rfl rfl (fun A outer s H E hr => b_32 (cs_of sc_32.nd hr) (fx (M := amb (cxOf (L2.CX P w) P w K mg base ["table", "field", "told", "far"] "sum_by_pairs" (defScope (top 43)) ((gK K).fad 32) cdv A outer s H E)) X Gn c (dp hr)) (tabK X Gn c ih hr) (tabVK X Gn c ih hr) (tabSK X Gn c ih hr))
theorem sc_33 : FnScope ["skin", "worths", "told"] ["skin", "worths"] (defScope (top 44)) := ⟨rfl, rfl, rfl, by decide +kernel, rfl, by decide +kernel, by decide +kernel⟩
theorem l_33 {oc kV doc pm cdv ct : Value} {od an : Option Addr} {osl : Array (Option Value)} (X : K.In h) (Gn : h.Ns mainGlobals mg) (c : SaysX fs fn K) (ih : LvK P w K mg base k) (lk : K.lookup ((gK K).fad 33) = some ⟨oc, od, .func (PySem.W.fnOf "fit_worths" "fit_worths" (defArgs (top 44)) (defBody (top 44)) (defScope (top 44)) .none kV doc pm an cdv ct), osl⟩) (hcd : PySem.W.codeIn K cdv "fit_worths" = true) : FnOk P w K mg base (L2.CX P w) (k + 1) ((gK K).fad 33) (PySem.W.fnOf "fit_worths" "fit_worths" (defArgs (top 44)) (defBody (top 44)) (defScope (top 44)) .none kV doc pm an cdv ct) ["skin", "worths"] (spC ⟨gK K, K, w⟩ (callN Pr (k + 1)) 33 2) :=
  step (ps := ["skin", "worths"]) (N := ["skin", "worths", "told"]) (d := ⟨3, 2, f_fit_worths (callN Pr k)⟩) lk hcd sc_33 rfl rfl rfl (fun A outer s H E hr => b_33 (cs_of sc_33.nd hr) (fx (M := amb (cxOf (L2.CX P w) P w K mg base ["skin", "worths", "told"] "fit_worths" (defScope (top 44)) ((gK K).fad 33) cdv A outer s H E)) X Gn c (dp hr)) (tabK X Gn c ih hr) (tabVK X Gn c ih hr) (tabSK X Gn c ih hr))
theorem sc_34 : FnScope ["table", "told"] ["table"] (defScope (top 45)) := ⟨rfl, rfl, rfl, by decide +kernel, rfl, by decide +kernel, by decide +kernel⟩
theorem l_34 {oc kV doc pm cdv ct : Value} {od an : Option Addr} {osl : Array (Option Value)} (X : K.In h) (Gn : h.Ns mainGlobals mg) (c : SaysX fs fn K) (ih : LvK P w K mg base k) (lk : K.lookup ((gK K).fad 34) = some ⟨oc, od, .func (PySem.W.fnOf "fit_signed_table" "fit_signed_table" (defArgs (top 45)) (defBody (top 45)) (defScope (top 45)) .none kV doc pm an cdv ct), osl⟩) (hcd : PySem.W.codeIn K cdv "fit_signed_table" = true) : FnOk P w K mg base (L2.CX P w) (k + 1) ((gK K).fad 34) (PySem.W.fnOf "fit_signed_table" "fit_signed_table" (defArgs (top 45)) (defBody (top 45)) (defScope (top 45)) .none kV doc pm an cdv ct) ["table"] (spC ⟨gK K, K, w⟩ (callN Pr (k + 1)) 34 1) :=
  step (ps := ["table"]) (N := ["table", "told"]) (d := ⟨2, 1, f_fit_signed_table (callN Pr k)⟩) lk hcd sc_34 rfl rfl rfl (fun A outer s H E hr => b_34 (cs_of sc_34.nd hr) (fx (M := amb (cxOf (L2.CX P w) P w K mg base ["table", "told"] "fit_signed_table" (defScope (top 45)) ((gK K).fad 34) cdv A outer s H E)) X Gn c (dp hr)) (tabK X Gn c ih hr) (tabVK X Gn c ih hr) (tabSK X Gn c ih hr))
theorem sc_35 : FnScope ["fields", "told"] ["fields"] (defScope (top 46)) := ⟨rfl, rfl, rfl, by decide +kernel, rfl, by decide +kernel, by decide +kernel⟩
theorem l_35 {oc kV doc pm cdv ct : Value} {od an : Option Addr} {osl : Array (Option Value)} (X : K.In h) (Gn : h.Ns mainGlobals mg) (c : SaysX fs fn K) (ih : LvK P w K mg base k) (lk : K.lookup ((gK K).fad 35) = some ⟨oc, od, .func (PySem.W.fnOf "fit_row_numbers" "fit_row_numbers" (defArgs (top 46)) (defBody (top 46)) (defScope (top 46)) .none kV doc pm an cdv ct), osl⟩) (hcd : PySem.W.codeIn K cdv "fit_row_numbers" = true) : FnOk P w K mg base (L2.CX P w) (k + 1) ((gK K).fad 35) (PySem.W.fnOf "fit_row_numbers" "fit_row_numbers" (defArgs (top 46)) (defBody (top 46)) (defScope (top 46)) .none kV doc pm an cdv ct) ["fields"] (spC ⟨gK K, K, w⟩ (callN Pr (k + 1)) 35 1) :=
  step (ps := ["fields"]) (N := ["fields", "told"]) (d := ⟨2, 1, f_fit_row_numbers (callN Pr k)⟩) lk hcd sc_35 rfl rfl rfl (fun A outer s H E hr => b_35 (cs_of sc_35.nd hr) (fx (M := amb (cxOf (L2.CX P w) P w K mg base ["fields", "told"] "fit_row_numbers" (defScope (top 46)) ((gK K).fad 35) cdv A outer s H E)) X Gn c (dp hr)) (tabK X Gn c ih hr) (tabVK X Gn c ih hr) (tabSK X Gn c ih hr))
theorem sc_36 : FnScope ["table", "fields", "field"] ["table", "fields"] (defScope (top 47)) := ⟨rfl, rfl, rfl, by decide +kernel, rfl, by decide +kernel, by decide +kernel⟩
theorem l_36 {oc kV doc pm cdv ct : Value} {od an : Option Addr} {osl : Array (Option Value)} (X : K.In h) (Gn : h.Ns mainGlobals mg) (c : SaysX fs fn K) (ih : LvK P w K mg base k) (lk : K.lookup ((gK K).fad 36) = some ⟨oc, od, .func (PySem.W.fnOf "check_rows" "check_rows" (defArgs (top 47)) (defBody (top 47)) (defScope (top 47)) .none kV doc pm an cdv ct), osl⟩) (hcd : PySem.W.codeIn K cdv "check_rows" = true) : FnOk P w K mg base (L2.CX P w) (k + 1) ((gK K).fad 36) (PySem.W.fnOf "check_rows" "check_rows" (defArgs (top 47)) (defBody (top 47)) (defScope (top 47)) .none kV doc pm an cdv ct) ["table", "fields"] (spC ⟨gK K, K, w⟩ (callN Pr (k + 1)) 36 2) :=
  step (ps := ["table", "fields"]) (N := ["table", "fields", "field"]) (d := ⟨3, 2, f_check_rows (callN Pr k)⟩) lk hcd sc_36 rfl rfl rfl (fun A outer s H E hr => b_36 (cs_of sc_36.nd hr) (fx (M := amb (cxOf (L2.CX P w) P w K mg base ["table", "fields", "field"] "check_rows" (defScope (top 47)) ((gK K).fad 36) cdv A outer s H E)) X Gn c (dp hr)) (tabK X Gn c ih hr) (tabVK X Gn c ih hr) (tabSK X Gn c ih hr))
theorem sc_37 : FnScope ["thing", "many", "part"] ["thing", "many"] (defScope (top 48)) := ⟨rfl, rfl, rfl, by decide +kernel, rfl, by decide +kernel, by decide +kernel⟩
theorem l_37 {oc kV doc pm cdv ct : Value} {od an : Option Addr} {osl : Array (Option Value)} (X : K.In h) (Gn : h.Ns mainGlobals mg) (c : SaysX fs fn K) (ih : LvK P w K mg base k) (lk : K.lookup ((gK K).fad 37) = some ⟨oc, od, .func (PySem.W.fnOf "is_row_of_numbers" "is_row_of_numbers" (defArgs (top 48)) (defBody (top 48)) (defScope (top 48)) .none kV doc pm an cdv ct), osl⟩) (hcd : PySem.W.codeIn K cdv "is_row_of_numbers" = true) : FnOk P w K mg base (L2.CX P w) (k + 1) ((gK K).fad 37) (PySem.W.fnOf "is_row_of_numbers" "is_row_of_numbers" (defArgs (top 48)) (defBody (top 48)) (defScope (top 48)) .none kV doc pm an cdv ct) ["thing", "many"] (spC ⟨gK K, K, w⟩ (callN Pr (k + 1)) 37 2) :=
  step (ps := ["thing", "many"]) (N := ["thing", "many", "part"]) (d := ⟨3, 2, f_is_row_of_numbers (callN Pr k)⟩) lk hcd sc_37 rfl rfl rfl (fun A outer s H E hr => b_37 (cs_of sc_37.nd hr) (fx (M := amb (cxOf (L2.CX P w) P w K mg base ["thing", "many", "part"] "is_row_of_numbers" (defScope (top 48)) ((gK K).fad 37) cdv A outer s H E)) X Gn c (dp hr)) (tabK X Gn c ih hr) (tabVK X Gn c ih hr) (tabSK X Gn c ih hr))
theorem sc_38 : FnScope ["skin", "thing"] ["skin", "thing"] (defScope (top 49)) := ⟨rfl, rfl, rfl, by decide +kernel, rfl, by decide +kernel, by decide +kernel⟩
theorem l_38 {oc kV doc pm cdv ct : Value} {od an : Option Addr} {osl : Array (Option Value)} (X : K.In h) (Gn : h.Ns mainGlobals mg) (c : SaysX fs fn K) (ih : LvK P w K mg base k) (lk : K.lookup ((gK K).fad 38) = some ⟨oc, od, .func (PySem.W.fnOf "are_worths_of" "are_worths_of" (defArgs (top 49)) (defBody (top 49)) (defScope (top 49)) .none kV doc pm an cdv ct), osl⟩) (hcd : PySem.W.codeIn K cdv "are_worths_of" = true) : FnOk P w K mg base (L2.CX P w) (k + 1) ((gK K).fad 38) (PySem.W.fnOf "are_worths_of" "are_worths_of" (defArgs (top 49)) (defBody (top 49)) (defScope (top 49)) .none kV doc pm an cdv ct) ["skin", "thing"] (spC ⟨gK K, K, w⟩ (callN Pr (k + 1)) 38 2) :=
  step (ps := ["skin", "thing"]) (N := ["skin", "thing"]) (d := ⟨2, 2, f_are_worths_of (callN Pr k)⟩) lk hcd sc_38 rfl rfl rfl (fun A outer s H E hr => b_38 (cs_of sc_38.nd hr) (fx (M := amb (cxOf (L2.CX P w) P w K mg base ["skin", "thing"] "are_worths_of" (defScope (top 49)) ((gK K).fad 38) cdv A outer s H E)) X Gn c (dp hr)) (tabK X Gn c ih hr) (tabVK X Gn c ih hr) (tabSK X Gn c ih hr))
theorem sc_39 : FnScope ["skin", "arrows", "pairing", "fields", "row", "edge", "one", "other", "turned", "at"] ["skin", "arrows", "pairing"] (defScope (top 50)) := ⟨rfl, rfl, rfl, by decide +kernel, rfl, by decide +kernel, by decide +kernel⟩
theorem l_39 {oc kV doc pm cdv ct : Value} {od an : Option Addr} {osl : Array (Option Value)} (X : K.In h) (Gn : h.Ns mainGlobals mg) (c : SaysX fs fn K) (ih : LvK P w K mg base k) (lk : K.lookup ((gK K).fad 39) = some ⟨oc, od, .func (PySem.W.fnOf "pairing_sign" "pairing_sign" (defArgs (top 50)) (defBody (top 50)) (defScope (top 50)) .none kV doc pm an cdv ct), osl⟩) (hcd : PySem.W.codeIn K cdv "pairing_sign" = true) : FnOk P w K mg base (L2.CX P w) (k + 1) ((gK K).fad 39) (PySem.W.fnOf "pairing_sign" "pairing_sign" (defArgs (top 50)) (defBody (top 50)) (defScope (top 50)) .none kV doc pm an cdv ct) ["skin", "arrows", "pairing"] (spC ⟨gK K, K, w⟩ (callN Pr (k + 1)) 39 3) :=
  step (ps := ["skin", "arrows", "pairing"]) (N := ["skin", "arrows", "pairing", "fields", "row", "edge", "one", "other", "turned", "at"]) (d := ⟨10, 3, f_pairing_sign (callN Pr k)⟩) lk hcd sc_39 rfl rfl rfl (fun A outer s H E hr => b_39 (cs_of sc_39.nd hr) (fx (M := amb (cxOf (L2.CX P w) P w K mg base ["skin", "arrows", "pairing", "fields", "row", "edge", "one", "other", "turned", "at"] "pairing_sign" (defScope (top 50)) ((gK K).fad 39) cdv A outer s H E)) X Gn c (dp hr)) (tabK X Gn c ih hr) (tabVK X Gn c ih hr) (tabSK X Gn c ih hr))
theorem sc_40 : FnScope ["skin", "arrows", "worths", "rows", "one", "other", "bit", "worth", "number", "_", "row"] ["skin", "arrows", "worths"] (defScope (top 51)) := ⟨rfl, rfl, rfl, by decide +kernel, rfl, by decide +kernel, by decide +kernel⟩
theorem l_40 {oc kV doc pm cdv ct : Value} {od an : Option Addr} {osl : Array (Option Value)} (X : K.In h) (Gn : h.Ns mainGlobals mg) (c : SaysX fs fn K) (ih : LvK P w K mg base k) (lk : K.lookup ((gK K).fad 40) = some ⟨oc, od, .func (PySem.W.fnOf "table_by_arrows" "table_by_arrows" (defArgs (top 51)) (defBody (top 51)) (defScope (top 51)) .none kV doc pm an cdv ct), osl⟩) (hcd : PySem.W.codeIn K cdv "table_by_arrows" = true) : FnOk P w K mg base (L2.CX P w) (k + 1) ((gK K).fad 40) (PySem.W.fnOf "table_by_arrows" "table_by_arrows" (defArgs (top 51)) (defBody (top 51)) (defScope (top 51)) .none kV doc pm an cdv ct) ["skin", "arrows", "worths"] (spC ⟨gK K, K, w⟩ (callN Pr (k + 1)) 40 3) :=
  step (ps := ["skin", "arrows", "worths"]) (N := ["skin", "arrows", "worths", "rows", "one", "other", "bit", "worth", "number", "_", "row"]) (d := ⟨11, 3, f_table_by_arrows (callN Pr k)⟩) lk hcd sc_40 rfl rfl rfl (fun A outer s H E hr => b_40 (cs_of sc_40.nd hr) (fx (M := amb (cxOf (L2.CX P w) P w K mg base ["skin", "arrows", "worths", "rows", "one", "other", "bit", "worth", "number", "_", "row"] "table_by_arrows" (defScope (top 51)) ((gK K).fad 40) cdv A outer s H E)) X Gn c (dp hr)) (tabK X Gn c ih hr) (tabVK X Gn c ih hr) (tabSK X Gn c ih hr))
theorem sc_41 : FnScope ["table", "fields", "kept", "row", "far"] ["table", "fields"] (defScope (top 52)) := ⟨rfl, rfl, rfl, by decide +kernel, rfl, by decide +kernel, by decide +kernel⟩
theorem l_41 {oc kV doc pm cdv ct : Value} {od an : Option Addr} {osl : Array (Option Value)} (X : K.In h) (Gn : h.Ns mainGlobals mg) (c : SaysX fs fn K) (ih : LvK P w K mg base k) (lk : K.lookup ((gK K).fad 41) = some ⟨oc, od, .func (PySem.W.fnOf "without_rows" "without_rows" (defArgs (top 52)) (defBody (top 52)) (defScope (top 52)) .none kV doc pm an cdv ct), osl⟩) (hcd : PySem.W.codeIn K cdv "without_rows" = true) : FnOk P w K mg base (L2.CX P w) (k + 1) ((gK K).fad 41) (PySem.W.fnOf "without_rows" "without_rows" (defArgs (top 52)) (defBody (top 52)) (defScope (top 52)) .none kV doc pm an cdv ct) ["table", "fields"] (spC ⟨gK K, K, w⟩ (callN Pr (k + 1)) 41 2) :=
  step (ps := ["table", "fields"]) (N := ["table", "fields", "kept", "row", "far"]) (d := ⟨5, 2, f_without_rows (callN Pr k)⟩) lk hcd sc_41 rfl rfl rfl (fun A outer s H E hr => b_41 (cs_of sc_41.nd hr) (fx (M := amb (cxOf (L2.CX P w) P w K mg base ["table", "fields", "kept", "row", "far"] "without_rows" (defScope (top 52)) ((gK K).fad 41) cdv A outer s H E)) X Gn c (dp hr)) (tabK X Gn c ih hr) (tabVK X Gn c ih hr) (tabSK X Gn c ih hr))
theorem sc_42 : FnScope ["table", "left", "told", "sign", "joined_to", "divisor", "row", "number"] ["table"] (defScope (top 53)) := ⟨rfl, rfl, rfl, by decide +kernel, rfl, by decide +kernel, by decide +kernel⟩
theorem l_42 {oc kV doc pm cdv ct : Value} {od an : Option Addr} {osl : Array (Option Value)} (X : K.In h) (Gn : h.Ns mainGlobals mg) (c : SaysX fs fn K) (ih : LvK P w K mg base k) (lk : K.lookup ((gK K).fad 42) = some ⟨oc, od, .func (PySem.W.fnOf "sum_over_pairs" "sum_over_pairs" (defArgs (top 53)) (defBody (top 53)) (defScope (top 53)) .none kV doc pm an cdv ct), osl⟩) (hcd : PySem.W.codeIn K cdv "sum_over_pairs" = true) : FnOk P w K mg base (L2.CX P w) (k + 1) ((gK K).fad 42) (PySem.W.fnOf "sum_over_pairs" "sum_over_pairs" (defArgs (top 53)) (defBody (top 53)) (defScope (top 53)) .none kV doc pm an cdv ct) ["table"] (spC ⟨gK K, K, w⟩ (callN Pr (k + 1)) 42 1) :=
  step (ps := ["table"]) (N := ["table", "left", "told", "sign", "joined_to", "divisor", "row", "number"]) (d := ⟨8, 1, f_sum_over_pairs (callN Pr k)⟩) lk hcd sc_42 rfl rfl rfl (fun A outer s H E hr => b_42 (cs_of sc_42.nd hr) (fx (M := amb (cxOf (L2.CX P w) P w K mg base ["table", "left", "told", "sign", "joined_to", "divisor", "row", "number"] "sum_over_pairs" (defScope (top 53)) ((gK K).fad 42) cdv A outer s H E)) X Gn c (dp hr)) (tabK X Gn c ih hr) (tabVK X Gn c ih hr) (tabSK X Gn c ih hr))
theorem sc_43 : FnScope ["table", "one", "other", "order", "row", "far"] ["table", "one", "other"] (defScope (top 54)) := ⟨rfl, rfl, rfl, by decide +kernel, rfl, by decide +kernel, by decide +kernel⟩
theorem l_43 {oc kV doc pm cdv ct : Value} {od an : Option Addr} {osl : Array (Option Value)} (X : K.In h) (Gn : h.Ns mainGlobals mg) (c : SaysX fs fn K) (ih : LvK P w K mg base k) (lk : K.lookup ((gK K).fad 43) = some ⟨oc, od, .func (PySem.W.fnOf "with_exchanged" "with_exchanged" (defArgs (top 54)) (defBody (top 54)) (defScope (top 54)) .none kV doc pm an cdv ct), osl⟩) (hcd : PySem.W.codeIn K cdv "with_exchanged" = true) : FnOk P w K mg base (L2.CX P w) (k + 1) ((gK K).fad 43) (PySem.W.fnOf "with_exchanged" "with_exchanged" (defArgs (top 54)) (defBody (top 54)) (defScope (top 54)) .none kV doc pm an cdv ct) ["table", "one", "other"] (spC ⟨gK K, K, w⟩ (callN Pr (k + 1)) 43 3) :=
  step (ps := ["table", "one", "other"]) (N := ["table", "one", "other", "order", "row", "far"]) (d := ⟨6, 3, f_with_exchanged (callN Pr k)⟩) lk hcd sc_43 rfl rfl rfl (fun A outer s H E hr => b_43 (cs_of sc_43.nd hr) (fx (M := amb (cxOf (L2.CX P w) P w K mg base ["table", "one", "other", "order", "row", "far"] "with_exchanged" (defScope (top 54)) ((gK K).fad 43) cdv A outer s H E)) X Gn c (dp hr)) (tabK X Gn c ih hr) (tabVK X Gn c ih hr) (tabSK X Gn c ih hr))
theorem sc_44 : FnScope ["table", "divisor", "first", "second", "lead", "kept", "row", "far"] ["table", "divisor"] (defScope (top 55)) := ⟨rfl, rfl, rfl, by decide +kernel, rfl, by decide +kernel, by decide +kernel⟩
theorem l_44 {oc kV doc pm cdv ct : Value} {od an : Option Addr} {osl : Array (Option Value)} (X : K.In h) (Gn : h.Ns mainGlobals mg) (c : SaysX fs fn K) (ih : LvK P w K mg base k) (lk : K.lookup ((gK K).fad 44) = some ⟨oc, od, .func (PySem.W.fnOf "two_rows_less" "two_rows_less" (defArgs (top 55)) (defBody (top 55)) (defScope (top 55)) .none kV doc pm an cdv ct), osl⟩) (hcd : PySem.W.codeIn K cdv "two_rows_less" = true) : FnOk P w K mg base (L2.CX P w) (k + 1) ((gK K).fad 44) (PySem.W.fnOf "two_rows_less" "two_rows_less" (defArgs (top 55)) (defBody (top 55)) (defScope (top 55)) .none kV doc pm an cdv ct) ["table", "divisor"] (spC ⟨gK K, K, w⟩ (callN Pr (k + 1)) 44 2) :=
  step (ps := ["table", "divisor"]) (N := ["table", "divisor", "first", "second", "lead", "kept", "row", "far"]) (d := ⟨8, 2, f_two_rows_less (callN Pr k)⟩) lk hcd sc_44 rfl rfl rfl (fun A outer s H E hr => b_44 (cs_of sc_44.nd hr) (fx (M := amb (cxOf (L2.CX P w) P w K mg base ["table", "divisor", "first", "second", "lead", "kept", "row", "far"] "two_rows_less" (defScope (top 55)) ((gK K).fad 44) cdv A outer s H E)) X Gn c (dp hr)) (tabK X Gn c ih hr) (tabVK X Gn c ih hr) (tabSK X Gn c ih hr))
theorem sc_45 : FnScope ["table", "one", "other", "near", "far", "sign"] ["table", "one", "other"] (defScope (top 56)) := ⟨rfl, rfl, rfl, by decide +kernel, rfl, by decide +kernel, by decide +kernel⟩
theorem l_45 {oc kV doc pm cdv ct : Value} {od an : Option Addr} {osl : Array (Option Value)} (X : K.In h) (Gn : h.Ns mainGlobals mg) (c : SaysX fs fn K) (ih : LvK P w K mg base k) (lk : K.lookup ((gK K).fad 45) = some ⟨oc, od, .func (PySem.W.fnOf "sum_with_pair" "sum_with_pair" (defArgs (top 56)) (defBody (top 56)) (defScope (top 56)) .none kV doc pm an cdv ct), osl⟩) (hcd : PySem.W.codeIn K cdv "sum_with_pair" = true) : FnOk P w K mg base (L2.CX P w) (k + 1) ((gK K).fad 45) (PySem.W.fnOf "sum_with_pair" "sum_with_pair" (defArgs (top 56)) (defBody (top 56)) (defScope (top 56)) .none kV doc pm an cdv ct) ["table", "one", "other"] (spC ⟨gK K, K, w⟩ (callN Pr (k + 1)) 45 3) :=
  step (ps := ["table", "one", "other"]) (N := ["table", "one", "other", "near", "far", "sign"]) (d := ⟨6, 3, f_sum_with_pair (callN Pr k)⟩) lk hcd sc_45 rfl rfl rfl (fun A outer s H E hr => b_45 (cs_of sc_45.nd hr) (fx (M := amb (cxOf (L2.CX P w) P w K mg base ["table", "one", "other", "near", "far", "sign"] "sum_with_pair" (defScope (top 56)) ((gK K).fad 45) cdv A outer s H E)) X Gn c (dp hr)) (tabK X Gn c ih hr) (tabVK X Gn c ih hr) (tabSK X Gn c ih hr))
theorem sc_46 : FnScope ["script", "k", "bit_so"] ["script", "k"] (defScope (top 58)) := ⟨rfl, rfl, rfl, by decide +kernel, rfl, by decide +kernel, by decide +kernel⟩
theorem l_46 {oc kV doc pm cdv ct : Value} {od an : Option Addr} {osl : Array (Option Value)} (X : K.In h) (Gn : h.Ns mainGlobals mg) (c : SaysX fs fn K) (ih : LvK P w K mg base k) (lk : K.lookup ((gK K).fad 46) = some ⟨oc, od, .func (PySem.W.fnOf "_law_box" "_law_box" (defArgs (top 58)) (defBody (top 58)) (defScope (top 58)) .none kV doc pm an cdv ct), osl⟩) (hcd : PySem.W.codeIn K cdv "_law_box" = true) : FnOk P w K mg base (L2.CX P w) (k + 1) ((gK K).fad 46) (PySem.W.fnOf "_law_box" "_law_box" (defArgs (top 58)) (defBody (top 58)) (defScope (top 58)) .none kV doc pm an cdv ct) ["script", "k"] (spC ⟨gK K, K, w⟩ (callN Pr (k + 1)) 46 2) :=
  step (ps := ["script", "k"]) (N := ["script", "k", "bit_so"]) (d := ⟨3, 2, f_law_box (callN Pr k)⟩) lk hcd sc_46 rfl rfl rfl (fun A outer s H E hr => b_46 (cs_of sc_46.nd hr) (fx (M := amb (cxOf (L2.CX P w) P w K mg base ["script", "k", "bit_so"] "_law_box" (defScope (top 58)) ((gK K).fad 46) cdv A outer s H E)) X Gn c (dp hr)) (tabK X Gn c ih hr) (tabVK X Gn c ih hr) (tabSK X Gn c ih hr))
theorem sc_47 : FnScope ["tin", "below_so", "drawn", "once_so", "wide_so", "twice_so"] ["tin", "below_so"] (defScope (top 59)) := ⟨rfl, rfl, rfl, by decide +kernel, rfl, by decide +kernel, by decide +kernel⟩
theorem l_47 {oc kV doc pm cdv ct : Value} {od an : Option Addr} {osl : Array (Option Value)} (X : K.In h) (Gn : h.Ns mainGlobals mg) (c : SaysX fs fn K) (ih : LvK P w K mg base k) (lk : K.lookup ((gK K).fad 47) = some ⟨oc, od, .func (PySem.W.fnOf "_law_take" "_law_take" (defArgs (top 59)) (defBody (top 59)) (defScope (top 59)) .none kV doc pm an cdv ct), osl⟩) (hcd : PySem.W.codeIn K cdv "_law_take" = true) : FnOk P w K mg base (L2.CX P w) (k + 1) ((gK K).fad 47) (PySem.W.fnOf "_law_take" "_law_take" (defArgs (top 59)) (defBody (top 59)) (defScope (top 59)) .none kV doc pm an cdv ct) ["tin", "below_so"] (spC ⟨gK K, K, w⟩ (callN Pr (k + 1)) 47 2) :=
  step (ps := ["tin", "below_so"]) (N := ["tin", "below_so", "drawn", "once_so", "wide_so", "twice_so"]) (d := ⟨6, 2, f_law_take (callN Pr k)⟩) lk hcd sc_47 rfl rfl rfl (fun A outer s H E hr => b_47 (cs_of sc_47.nd hr) (fx (M := amb (cxOf (L2.CX P w) P w K mg base ["tin", "below_so", "drawn", "once_so", "wide_so", "twice_so"] "_law_take" (defScope (top 59)) ((gK K).fad 47) cdv A outer s H E)) X Gn c (dp hr)) (tabK X Gn c ih hr) (tabVK X Gn c ih hr) (tabSK X Gn c ih hr))
theorem sc_48 : FnScope ["script", "most_so", "cells_so", "k", "bit_so", "at_so"] ["script", "most_so"] (defScope (top 60)) := ⟨rfl, rfl, rfl, by decide +kernel, rfl, by decide +kernel, by decide +kernel⟩
theorem l_48 {oc kV doc pm cdv ct : Value} {od an : Option Addr} {osl : Array (Option Value)} (X : K.In h) (Gn : h.Ns mainGlobals mg) (c : SaysX fs fn K) (ih : LvK P w K mg base k) (lk : K.lookup ((gK K).fad 48) = some ⟨oc, od, .func (PySem.W.fnOf "_law_cells" "_law_cells" (defArgs (top 60)) (defBody (top 60)) (defScope (top 60)) .none kV doc pm an cdv ct), osl⟩) (hcd : PySem.W.codeIn K cdv "_law_cells" = true) : FnOk P w K mg base (L2.CX P w) (k + 1) ((gK K).fad 48) (PySem.W.fnOf "_law_cells" "_law_cells" (defArgs (top 60)) (defBody (top 60)) (defScope (top 60)) .none kV doc pm an cdv ct) ["script", "most_so"] (spC ⟨gK K, K, w⟩ (callN Pr (k + 1)) 48 2) :=
  step (ps := ["script", "most_so"]) (N := ["script", "most_so", "cells_so", "k", "bit_so", "at_so"]) (d := ⟨6, 2, f_law_cells (callN Pr k)⟩) lk hcd sc_48 rfl rfl rfl (fun A outer s H E hr => b_48 (cs_of sc_48.nd hr) (fx (M := amb (cxOf (L2.CX P w) P w K mg base ["script", "most_so", "cells_so", "k", "bit_so", "at_so"] "_law_cells" (defScope (top 60)) ((gK K).fad 48) cdv A outer s H E)) X Gn c (dp hr)) (tabK X Gn c ih hr) (tabVK X Gn c ih hr) (tabSK X Gn c ih hr))
theorem sc_49 : FnScope ["matter", "bit"] ["matter"] (defScope (top 61)) := ⟨rfl, rfl, rfl, by decide +kernel, rfl, by decide +kernel, by decide +kernel⟩
theorem l_49 {oc kV doc pm cdv ct : Value} {od an : Option Addr} {osl : Array (Option Value)} (X : K.In h) (Gn : h.Ns mainGlobals mg) (c : SaysX fs fn K) (ih : LvK P w K mg base k) (lk : K.lookup ((gK K).fad 49) = some ⟨oc, od, .func (PySem.W.fnOf "_law_lists" "_law_lists" (defArgs (top 61)) (defBody (top 61)) (defScope (top 61)) .none kV doc pm an cdv ct), osl⟩) (hcd : PySem.W.codeIn K cdv "_law_lists" = true) : FnOk P w K mg base (L2.CX P w) (k + 1) ((gK K).fad 49) (PySem.W.fnOf "_law_lists" "_law_lists" (defArgs (top 61)) (defBody (top 61)) (defScope (top 61)) .none kV doc pm an cdv ct) ["matter"] (spC ⟨gK K, K, w⟩ (callN Pr (k + 1)) 49 1) :=
  step (ps := ["matter"]) (N := ["matter", "bit"]) (d := ⟨2, 1, f_law_lists (callN Pr k)⟩) lk hcd sc_49 rfl rfl rfl (fun A outer s H E hr => b_49 (cs_of sc_49.nd hr) (fx (M := amb (cxOf (L2.CX P w) P w K mg base ["matter", "bit"] "_law_lists" (defScope (top 61)) ((gK K).fad 49) cdv A outer s H E)) X Gn c (dp hr)) (tabK X Gn c ih hr) (tabVK X Gn c ih hr) (tabSK X Gn c ih hr))
theorem sc_50 : FnScope ["got", "due", "mine", "its"] ["got", "due"] (defScope (top 62)) := ⟨rfl, rfl, rfl, by decide +kernel, rfl, by decide +kernel, by decide +kernel⟩
theorem l_50 {oc kV doc pm cdv ct : Value} {od an : Option Addr} {osl : Array (Option Value)} (X : K.In h) (Gn : h.Ns mainGlobals mg) (c : SaysX fs fn K) (ih : LvK P w K mg base k) (lk : K.lookup ((gK K).fad 50) = some ⟨oc, od, .func (PySem.W.fnOf "_law_same" "_law_same" (defArgs (top 62)) (defBody (top 62)) (defScope (top 62)) .none kV doc pm an cdv ct), osl⟩) (hcd : PySem.W.codeIn K cdv "_law_same" = true) : FnOk P w K mg base (L2.CX P w) (k + 1) ((gK K).fad 50) (PySem.W.fnOf "_law_same" "_law_same" (defArgs (top 62)) (defBody (top 62)) (defScope (top 62)) .none kV doc pm an cdv ct) ["got", "due"] (spC ⟨gK K, K, w⟩ (callN Pr (k + 1)) 50 2) :=
  step (ps := ["got", "due"]) (N := ["got", "due", "mine", "its"]) (d := ⟨4, 2, f_law_same (callN Pr k)⟩) lk hcd sc_50 rfl rfl rfl (fun A outer s H E hr => b_50 (cs_of sc_50.nd hr) (fx (M := amb (cxOf (L2.CX P w) P w K mg base ["got", "due", "mine", "its"] "_law_same" (defScope (top 62)) ((gK K).fad 50) cdv A outer s H E)) X Gn c (dp hr)) (tabK X Gn c ih hr) (tabVK X Gn c ih hr) (tabSK X Gn c ih hr))
theorem sc_51 : FnScope ["wide_so", "high_so", "found", "k", "x", "y", "right_so", "left_so", "up_so", "down_so"] ["wide_so", "high_so"] (defScope (top 63)) := ⟨rfl, rfl, rfl, by decide +kernel, rfl, by decide +kernel, by decide +kernel⟩
theorem l_51 {oc kV doc pm cdv ct : Value} {od an : Option Addr} {osl : Array (Option Value)} (X : K.In h) (Gn : h.Ns mainGlobals mg) (c : SaysX fs fn K) (ih : LvK P w K mg base k) (lk : K.lookup ((gK K).fad 51) = some ⟨oc, od, .func (PySem.W.fnOf "_law_square" "_law_square" (defArgs (top 63)) (defBody (top 63)) (defScope (top 63)) .none kV doc pm an cdv ct), osl⟩) (hcd : PySem.W.codeIn K cdv "_law_square" = true) : FnOk P w K mg base (L2.CX P w) (k + 1) ((gK K).fad 51) (PySem.W.fnOf "_law_square" "_law_square" (defArgs (top 63)) (defBody (top 63)) (defScope (top 63)) .none kV doc pm an cdv ct) ["wide_so", "high_so"] (spC ⟨gK K, K, w⟩ (callN Pr (k + 1)) 51 2) :=
  step (ps := ["wide_so", "high_so"]) (N := ["wide_so", "high_so", "found", "k", "x", "y", "right_so", "left_so", "up_so", "down_so"]) (d := ⟨10, 2, f_law_square (callN Pr k)⟩) lk hcd sc_51 rfl rfl rfl (fun A outer s H E hr => b_51 (cs_of sc_51.nd hr) (fx (M := amb (cxOf (L2.CX P w) P w K mg base ["wide_so", "high_so", "found", "k", "x", "y", "right_so", "left_so", "up_so", "down_so"] "_law_square" (defScope (top 63)) ((gK K).fad 51) cdv A outer s H E)) X Gn c (dp hr)) (tabK X Gn c ih hr) (tabVK X Gn c ih hr) (tabSK X Gn c ih hr))
theorem sc_52 : FnScope ["twin", "four"] [] (defScope (top 64)) := ⟨rfl, rfl, rfl, by decide +kernel, rfl, by decide +kernel, by decide +kernel⟩
theorem l_52 {oc kV doc pm cdv ct : Value} {od an : Option Addr} {osl : Array (Option Value)} (X : K.In h) (Gn : h.Ns mainGlobals mg) (c : SaysX fs fn K) (ih : LvK P w K mg base k) (lk : K.lookup ((gK K).fad 52) = some ⟨oc, od, .func (PySem.W.fnOf "_law_told_skins" "_law_told_skins" (defArgs (top 64)) (defBody (top 64)) (defScope (top 64)) .none kV doc pm an cdv ct), osl⟩) (hcd : PySem.W.codeIn K cdv "_law_told_skins" = true) : FnOk P w K mg base (L2.CX P w) (k + 1) ((gK K).fad 52) (PySem.W.fnOf "_law_told_skins" "_law_told_skins" (defArgs (top 64)) (defBody (top 64)) (defScope (top 64)) .none kV doc pm an cdv ct) [] (spC ⟨gK K, K, w⟩ (callN Pr (k + 1)) 52 0) :=
  step (ps := []) (N := ["twin", "four"]) (d := ⟨2, 0, f_law_told_skins (callN Pr k)⟩) lk hcd sc_52 rfl rfl rfl (fun A outer s H E hr => b_52 (cs_of sc_52.nd hr) (fx (M := amb (cxOf (L2.CX P w) P w K mg base ["twin", "four"] "_law_told_skins" (defScope (top 64)) ((gK K).fad 52) cdv A outer s H E)) X Gn c (dp hr)) (tabK X Gn c ih hr) (tabVK X Gn c ih hr) (tabSK X Gn c ih hr))
theorem sc_53 : FnScope ["door_so", "parts_so", "slip_so"] ["door_so", "parts_so"] (defScope (top 65)) := ⟨rfl, rfl, rfl, by decide +kernel, rfl, by decide +kernel, by decide +kernel⟩
theorem l_53 {oc kV doc pm cdv ct : Value} {od an : Option Addr} {osl : Array (Option Value)} (X : K.In h) (Gn : h.Ns mainGlobals mg) (c : SaysX fs fn K) (ih : LvK P w K mg base k) (lk : K.lookup ((gK K).fad 53) = some ⟨oc, od, .func (PySem.W.fnOf "_law_heard" "_law_heard" (defArgs (top 65)) (defBody (top 65)) (defScope (top 65)) .none kV doc pm an cdv ct), osl⟩) (hcd : PySem.W.codeIn K cdv "_law_heard" = true) : FnOk P w K mg base (L2.CX P w) (k + 1) ((gK K).fad 53) (PySem.W.fnOf "_law_heard" "_law_heard" (defArgs (top 65)) (defBody (top 65)) (defScope (top 65)) .none kV doc pm an cdv ct) ["door_so", "parts_so"] (spC ⟨gK K, K, w⟩ (callN Pr (k + 1)) 53 2) :=
  step (ps := ["door_so", "parts_so"]) (N := ["door_so", "parts_so", "slip_so"]) (d := ⟨3, 2, f_law_heard (callN Pr k)⟩) lk hcd sc_53 rfl rfl rfl (fun A outer s H E hr => b_53 (cs_of sc_53.nd hr) (fx (M := amb (cxOf (L2.CX P w) P w K mg base ["door_so", "parts_so", "slip_so"] "_law_heard" (defScope (top 65)) ((gK K).fad 53) cdv A outer s H E)) X Gn c (dp hr)) (tabK X Gn c ih hr) (tabVK X Gn c ih hr) (tabSK X Gn c ih hr))
theorem sc_54 : FnScope ["twin", "quad", "darts", "loads", "four", "got", "due", "things_so", "own"] [] (defScope (top 66)) := ⟨rfl, rfl, rfl, by decide +kernel, rfl, by decide +kernel, by decide +kernel⟩
theorem l_54 {oc kV doc pm cdv ct : Value} {od an : Option Addr} {osl : Array (Option Value)} (X : K.In h) (Gn : h.Ns mainGlobals mg) (c : SaysX fs fn K) (ih : LvK P w K mg base k) (lk : K.lookup ((gK K).fad 54) = some ⟨oc, od, .func (PySem.W.fnOf "_law_always_right" "_law_always_right" (defArgs (top 66)) (defBody (top 66)) (defScope (top 66)) .none kV doc pm an cdv ct), osl⟩) (hcd : PySem.W.codeIn K cdv "_law_always_right" = true) : FnOk P w K mg base (L2.CX P w) (k + 1) ((gK K).fad 54) (PySem.W.fnOf "_law_always_right" "_law_always_right" (defArgs (top 66)) (defBody (top 66)) (defScope (top 66)) .none kV doc pm an cdv ct) [] (spC ⟨gK K, K, w⟩ (callN Pr (k + 1)) 54 0) :=
  step (ps := []) (N := ["twin", "quad", "darts", "loads", "four", "got", "due", "things_so", "own"]) (d := ⟨9, 0, f_law_always_right (callN Pr k)⟩) lk hcd sc_54 rfl rfl rfl (fun A outer s H E hr => b_54 (cs_of sc_54.nd hr) (fx (M := amb (cxOf (L2.CX P w) P w K mg base ["twin", "quad", "darts", "loads", "four", "got", "due", "things_so", "own"] "_law_always_right" (defScope (top 66)) ((gK K).fad 54) cdv A outer s H E)) X Gn c (dp hr)) (tabK X Gn c ih hr) (tabVK X Gn c ih hr) (tabSK X Gn c ih hr))
theorem sc_55 : FnScope ["twin", "quad", "darts", "loads", "four", "unfit_so", "got", "due", "grids_so", "own", "heaps_so", "skins_so", "k"] [] (defScope (top 67)) := ⟨rfl, rfl, rfl, by decide +kernel, rfl, by decide +kernel, by decide +kernel⟩
theorem l_55 {oc kV doc pm cdv ct : Value} {od an : Option Addr} {osl : Array (Option Value)} (X : K.In h) (Gn : h.Ns mainGlobals mg) (c : SaysX fs fn K) (ih : LvK P w K mg base k) (lk : K.lookup ((gK K).fad 55) = some ⟨oc, od, .func (PySem.W.fnOf "_law_refused_right" "_law_refused_right" (defArgs (top 67)) (defBody (top 67)) (defScope (top 67)) .none kV doc pm an cdv ct), osl⟩) (hcd : PySem.W.codeIn K cdv "_law_refused_right" = true) : FnOk P w K mg base (L2.CX P w) (k + 1) ((gK K).fad 55) (PySem.W.fnOf "_law_refused_right" "_law_refused_right" (defArgs (top 67)) (defBody (top 67)) (defScope (top 67)) .none kV doc pm an cdv ct) [] (spC ⟨gK K, K, w⟩ (callN Pr (k + 1)) 55 0) :=
  step (ps := []) (N := ["twin", "quad", "darts", "loads", "four", "unfit_so", "got", "due", "grids_so", "own", "heaps_so", "skins_so", "k"]) (d := ⟨13, 0, f_law_refused_right (callN Pr k)⟩) lk hcd sc_55 rfl rfl rfl (fun A outer s H E hr => b_55 (cs_of sc_55.nd hr) (fx (M := amb (cxOf (L2.CX P w) P w K mg base ["twin", "quad", "darts", "loads", "four", "unfit_so", "got", "due", "grids_so", "own", "heaps_so", "skins_so", "k"] "_law_refused_right" (defScope (top 67)) ((gK K).fad 55) cdv A outer s H E)) X Gn c (dp hr)) (tabK X Gn c ih hr) (tabVK X Gn c ih hr) (tabSK X Gn c ih hr))
theorem sc_56 : FnScope ["twin", "quad", "darts", "loads", "four", "hide", "soft_so", "mild_so", "grid", "got", "due"] [] (defScope (top 68)) := ⟨rfl, rfl, rfl, by decide +kernel, rfl, by decide +kernel, by decide +kernel⟩
theorem l_56 {oc kV doc pm cdv ct : Value} {od an : Option Addr} {osl : Array (Option Value)} (X : K.In h) (Gn : h.Ns mainGlobals mg) (c : SaysX fs fn K) (ih : LvK P w K mg base k) (lk : K.lookup ((gK K).fad 56) = some ⟨oc, od, .func (PySem.W.fnOf "_law_names_right" "_law_names_right" (defArgs (top 68)) (defBody (top 68)) (defScope (top 68)) .none kV doc pm an cdv ct), osl⟩) (hcd : PySem.W.codeIn K cdv "_law_names_right" = true) : FnOk P w K mg base (L2.CX P w) (k + 1) ((gK K).fad 56) (PySem.W.fnOf "_law_names_right" "_law_names_right" (defArgs (top 68)) (defBody (top 68)) (defScope (top 68)) .none kV doc pm an cdv ct) [] (spC ⟨gK K, K, w⟩ (callN Pr (k + 1)) 56 0) :=
  step (ps := []) (N := ["twin", "quad", "darts", "loads", "four", "hide", "soft_so", "mild_so", "grid", "got", "due"]) (d := ⟨11, 0, f_law_names_right (callN Pr k)⟩) lk hcd sc_56 rfl rfl rfl (fun A outer s H E hr => b_56 (cs_of sc_56.nd hr) (fx (M := amb (cxOf (L2.CX P w) P w K mg base ["twin", "quad", "darts", "loads", "four", "hide", "soft_so", "mild_so", "grid", "got", "due"] "_law_names_right" (defScope (top 68)) ((gK K).fad 56) cdv A outer s H E)) X Gn c (dp hr)) (tabK X Gn c ih hr) (tabVK X Gn c ih hr) (tabSK X Gn c ih hr))
theorem sc_57 : FnScope ["script", "turn"] ["script"] (defScope (top 69)) := ⟨rfl, rfl, rfl, by decide +kernel, rfl, by decide +kernel, by decide +kernel⟩
theorem l_57 {oc kV doc pm cdv ct : Value} {od an : Option Addr} {osl : Array (Option Value)} (X : K.In h) (Gn : h.Ns mainGlobals mg) (c : SaysX fs fn K) (ih : LvK P w K mg base k) (lk : K.lookup ((gK K).fad 57) = some ⟨oc, od, .func (PySem.W.fnOf "law" "law" (defArgs (top 69)) (defBody (top 69)) (defScope (top 69)) .none kV doc pm an cdv ct), osl⟩) (hcd : PySem.W.codeIn K cdv "law" = true) : FnOk P w K mg base (L2.CX P w) (k + 1) ((gK K).fad 57) (PySem.W.fnOf "law" "law" (defArgs (top 69)) (defBody (top 69)) (defScope (top 69)) .none kV doc pm an cdv ct) ["script"] (spC ⟨gK K, K, w⟩ (callN Pr (k + 1)) 57 1) :=
  step (ps := ["script"]) (N := ["script", "turn"]) (d := ⟨2, 1, f_law (callN Pr k)⟩) lk hcd sc_57 rfl rfl rfl (fun A outer s H E hr => b_57 (cs_of sc_57.nd hr) (fx (M := amb (cxOf (L2.CX P w) P w K mg base ["script", "turn"] "law" (defScope (top 69)) ((gK K).fad 57) cdv A outer s H E)) X Gn c (dp hr)) (tabK X Gn c ih hr) (tabVK X Gn c ih hr) (tabSK X Gn c ih hr))
theorem lvS (X : K.In h) (Gn : h.Ns mainGlobals mg) (c : SaysX fs fn K) (ih : LvK P w K mg base k) : LvK P w K mg base (k + 1) := And.intro (fun i x st ps hx => match i, hx with
  | 0, hx => by
    cases (Option.some.inj (Option.some.inj hx))
    obtain ⟨oc, od, osl, kV, doc, pm, an, cdv, ct, lk, hcd⟩ := c.def_ 0 (d := fd "is_number" 4) rfl
    exact ⟨kV, doc, pm, an, cdv, ct, l_0 X Gn c ih lk hcd⟩
  | 1, hx => by
    cases (Option.some.inj (Option.some.inj hx))
    obtain ⟨oc, od, osl, kV, doc, pm, an, cdv, ct, lk, hcd⟩ := c.def_ 1 (d := fd "is_below" 5) rfl
    exact ⟨kV, doc, pm, an, cdv, ct, l_1 X Gn c ih lk hcd⟩
  | 2, hx => by
    cases (Option.some.inj (Option.some.inj hx))
    obtain ⟨oc, od, osl, kV, doc, pm, an, cdv, ct, lk, hcd⟩ := c.def_ 2 (d := fd "is_tuple_of" 6) rfl
    exact ⟨kV, doc, pm, an, cdv, ct, l_2 X Gn c ih lk hcd⟩
  | 3, hx => by
    cases (Option.some.inj (Option.some.inj hx))
    obtain ⟨oc, od, osl, kV, doc, pm, an, cdv, ct, lk, hcd⟩ := c.def_ 3 (d := fd "is_set_below" 7) rfl
    exact ⟨kV, doc, pm, an, cdv, ct, l_3 X Gn c ih lk hcd⟩
  | 4, hx => by
    cases (Option.some.inj (Option.some.inj hx))
    obtain ⟨oc, od, osl, kV, doc, pm, an, cdv, ct, lk, hcd⟩ := c.def_ 4 (d := fd "is_set_from_0" 8) rfl
    exact ⟨kV, doc, pm, an, cdv, ct, l_4 X Gn c ih lk hcd⟩
  | 5, hx => by
    cases (Option.some.inj (Option.some.inj hx))
    obtain ⟨oc, od, osl, kV, doc, pm, an, cdv, ct, lk, hcd⟩ := c.def_ 5 (d := fd "is_ascending" 9) rfl
    exact ⟨kV, doc, pm, an, cdv, ct, l_5 X Gn c ih lk hcd⟩
  | 6, hx => by
    cases (Option.some.inj (Option.some.inj hx))
    obtain ⟨oc, od, osl, kV, doc, pm, an, cdv, ct, lk, hcd⟩ := c.def_ 6 (d := fd "as_tuples" 10) rfl
    exact ⟨kV, doc, pm, an, cdv, ct, l_6 X Gn c ih lk hcd⟩
  | 7, hx => by cases (Option.some.inj hx)
  | 8, hx => by cases (Option.some.inj hx)
  | 9, hx => by
    cases (Option.some.inj (Option.some.inj hx))
    obtain ⟨oc, od, osl, kV, doc, pm, an, cdv, ct, lk, hcd⟩ := c.def_ 9 (d := fd "are_bits" 14) rfl
    exact ⟨kV, doc, pm, an, cdv, ct, l_9 X Gn c ih lk hcd⟩
  | 10, hx => by
    cases (Option.some.inj (Option.some.inj hx))
    obtain ⟨oc, od, osl, kV, doc, pm, an, cdv, ct, lk, hcd⟩ := c.def_ 10 (d := fd "is_skin" 17) rfl
    exact ⟨kV, doc, pm, an, cdv, ct, l_10 X Gn c ih lk hcd⟩
  | 11, hx => by
    cases (Option.some.inj (Option.some.inj hx))
    obtain ⟨oc, od, osl, kV, doc, pm, an, cdv, ct, lk, hcd⟩ := c.def_ 11 (d := fd "fit_skin" 18) rfl
    exact ⟨kV, doc, pm, an, cdv, ct, l_11 X Gn c ih lk hcd⟩
  | 12, hx => by
    cases (Option.some.inj (Option.some.inj hx))
    obtain ⟨oc, od, osl, kV, doc, pm, an, cdv, ct, lk, hcd⟩ := c.def_ 12 (d := fd "has_skin_form" 19) rfl
    exact ⟨kV, doc, pm, an, cdv, ct, l_12 X Gn c ih lk hcd⟩
  | 13, hx => by
    cases (Option.some.inj (Option.some.inj hx))
    obtain ⟨oc, od, osl, kV, doc, pm, an, cdv, ct, lk, hcd⟩ := c.def_ 13 (d := fd "is_field_row" 20) rfl
    exact ⟨kV, doc, pm, an, cdv, ct, l_13 X Gn c ih lk hcd⟩
  | 14, hx => by
    cases (Option.some.inj (Option.some.inj hx))
    obtain ⟨oc, od, osl, kV, doc, pm, an, cdv, ct, lk, hcd⟩ := c.def_ 14 (d := fd "is_crossing_below" 21) rfl
    exact ⟨kV, doc, pm, an, cdv, ct, l_14 X Gn c ih lk hcd⟩
  | 15, hx => by
    cases (Option.some.inj (Option.some.inj hx))
    obtain ⟨oc, od, osl, kV, doc, pm, an, cdv, ct, lk, hcd⟩ := c.def_ 15 (d := fd "is_sewn_back" 22) rfl
    exact ⟨kV, doc, pm, an, cdv, ct, l_15 X Gn c ih lk hcd⟩
  | 16, hx => by
    cases (Option.some.inj (Option.some.inj hx))
    obtain ⟨oc, od, osl, kV, doc, pm, an, cdv, ct, lk, hcd⟩ := c.def_ 16 (d := fd "hangs_together" 23) rfl
    exact ⟨kV, doc, pm, an, cdv, ct, l_16 X Gn c ih lk hcd⟩
  | 17, hx => by
    cases (Option.some.inj (Option.some.inj hx))
    obtain ⟨oc, od, osl, kV, doc, pm, an, cdv, ct, lk, hcd⟩ := c.def_ 17 (d := fd "lesser_crossings" 24) rfl
    exact ⟨kV, doc, pm, an, cdv, ct, l_17 X Gn c ih lk hcd⟩
  | 18, hx => by
    cases (Option.some.inj (Option.some.inj hx))
    obtain ⟨oc, od, osl, kV, doc, pm, an, cdv, ct, lk, hcd⟩ := c.def_ 18 (d := fd "joined_fields" 25) rfl
    exact ⟨kV, doc, pm, an, cdv, ct, l_18 X Gn c ih lk hcd⟩
  | 19, hx => by
    cases (Option.some.inj (Option.some.inj hx))
    obtain ⟨oc, od, osl, kV, doc, pm, an, cdv, ct, lk, hcd⟩ := c.def_ 19 (d := fd "is_lot_of_edges" 27) rfl
    exact ⟨kV, doc, pm, an, cdv, ct, l_19 X Gn c ih lk hcd⟩
  | 20, hx => by
    cases (Option.some.inj (Option.some.inj hx))
    obtain ⟨oc, od, osl, kV, doc, pm, an, cdv, ct, lk, hcd⟩ := c.def_ 20 (d := fd "fit_arrows" 29) rfl
    exact ⟨kV, doc, pm, an, cdv, ct, l_20 X Gn c ih lk hcd⟩
  | 21, hx => by
    cases (Option.some.inj (Option.some.inj hx))
    obtain ⟨oc, od, osl, kV, doc, pm, an, cdv, ct, lk, hcd⟩ := c.def_ 21 (d := fd "are_arrows_of" 30) rfl
    exact ⟨kV, doc, pm, an, cdv, ct, l_21 X Gn c ih lk hcd⟩
  | 22, hx => by
    cases (Option.some.inj (Option.some.inj hx))
    obtain ⟨oc, od, osl, kV, doc, pm, an, cdv, ct, lk, hcd⟩ := c.def_ 22 (d := fd "fit_pairing" 32) rfl
    exact ⟨kV, doc, pm, an, cdv, ct, l_22 X Gn c ih lk hcd⟩
  | 23, hx => by
    cases (Option.some.inj (Option.some.inj hx))
    obtain ⟨oc, od, osl, kV, doc, pm, an, cdv, ct, lk, hcd⟩ := c.def_ 23 (d := fd "is_pairing_of" 33) rfl
    exact ⟨kV, doc, pm, an, cdv, ct, l_23 X Gn c ih lk hcd⟩
  | 24, hx => by
    cases (Option.some.inj (Option.some.inj hx))
    obtain ⟨oc, od, osl, kV, doc, pm, an, cdv, ct, lk, hcd⟩ := c.def_ 24 (d := fd "worth_of" 35) rfl
    exact ⟨kV, doc, pm, an, cdv, ct, l_24 X Gn c ih lk hcd⟩
  | 25, hx => by
    cases (Option.some.inj (Option.some.inj hx))
    obtain ⟨oc, od, osl, kV, doc, pm, an, cdv, ct, lk, hcd⟩ := c.def_ 25 (d := fd "sign_of" 36) rfl
    exact ⟨kV, doc, pm, an, cdv, ct, l_25 X Gn c ih lk hcd⟩
  | 26, hx => by
    cases (Option.some.inj (Option.some.inj hx))
    obtain ⟨oc, od, osl, kV, doc, pm, an, cdv, ct, lk, hcd⟩ := c.def_ 26 (d := fd "signed_table" 37) rfl
    exact ⟨kV, doc, pm, an, cdv, ct, l_26 X Gn c ih lk hcd⟩
  | 27, hx => by
    cases (Option.some.inj (Option.some.inj hx))
    obtain ⟨oc, od, osl, kV, doc, pm, an, cdv, ct, lk, hcd⟩ := c.def_ 27 (d := fd "is_signed_table" 38) rfl
    exact ⟨kV, doc, pm, an, cdv, ct, l_27 X Gn c ih lk hcd⟩
  | 28, hx => by
    cases (Option.some.inj (Option.some.inj hx))
    obtain ⟨oc, od, osl, kV, doc, pm, an, cdv, ct, lk, hcd⟩ := c.def_ 28 (d := fd "paired_sum" 39) rfl
    exact ⟨kV, doc, pm, an, cdv, ct, l_28 X Gn c ih lk hcd⟩
  | 29, hx => by
    cases (Option.some.inj (Option.some.inj hx))
    obtain ⟨oc, od, osl, kV, doc, pm, an, cdv, ct, lk, hcd⟩ := c.def_ 29 (d := fd "struck" 40) rfl
    exact ⟨kV, doc, pm, an, cdv, ct, l_29 X Gn c ih lk hcd⟩
  | 30, hx => by
    cases (Option.some.inj (Option.some.inj hx))
    obtain ⟨oc, od, osl, kV, doc, pm, an, cdv, ct, lk, hcd⟩ := c.def_ 30 (d := fd "turned_table" 41) rfl
    exact ⟨kV, doc, pm, an, cdv, ct, l_30 X Gn c ih lk hcd⟩
  | 31, hx => by
    cases (Option.some.inj (Option.some.inj hx))
    obtain ⟨oc, od, osl, kV, doc, pm, an, cdv, ct, lk, hcd⟩ := c.def_ 31 (d := fd "row_added" 42) rfl
    exact ⟨kV, doc, pm, an, cdv, ct, l_31 X Gn c ih lk hcd⟩
  | 32, hx => by
    cases (Option.some.inj (Option.some.inj hx))
    obtain ⟨oc, od, osl, kV, doc, pm, an, cdv, ct, lk, hcd⟩ := c.def_ 32 (d := fd "sum_by_pairs" 43) rfl
    exact ⟨kV, doc, pm, an, cdv, ct, l_32 X Gn c ih lk hcd⟩
  | 33, hx => by
    cases (Option.some.inj (Option.some.inj hx))
    obtain ⟨oc, od, osl, kV, doc, pm, an, cdv, ct, lk, hcd⟩ := c.def_ 33 (d := fd "fit_worths" 44) rfl
    exact ⟨kV, doc, pm, an, cdv, ct, l_33 X Gn c ih lk hcd⟩
  | 34, hx => by
    cases (Option.some.inj (Option.some.inj hx))
    obtain ⟨oc, od, osl, kV, doc, pm, an, cdv, ct, lk, hcd⟩ := c.def_ 34 (d := fd "fit_signed_table" 45) rfl
    exact ⟨kV, doc, pm, an, cdv, ct, l_34 X Gn c ih lk hcd⟩
  | 35, hx => by
    cases (Option.some.inj (Option.some.inj hx))
    obtain ⟨oc, od, osl, kV, doc, pm, an, cdv, ct, lk, hcd⟩ := c.def_ 35 (d := fd "fit_row_numbers" 46) rfl
    exact ⟨kV, doc, pm, an, cdv, ct, l_35 X Gn c ih lk hcd⟩
  | 36, hx => by
    cases (Option.some.inj (Option.some.inj hx))
    obtain ⟨oc, od, osl, kV, doc, pm, an, cdv, ct, lk, hcd⟩ := c.def_ 36 (d := fd "check_rows" 47) rfl
    exact ⟨kV, doc, pm, an, cdv, ct, l_36 X Gn c ih lk hcd⟩
  | 37, hx => by
    cases (Option.some.inj (Option.some.inj hx))
    obtain ⟨oc, od, osl, kV, doc, pm, an, cdv, ct, lk, hcd⟩ := c.def_ 37 (d := fd "is_row_of_numbers" 48) rfl
    exact ⟨kV, doc, pm, an, cdv, ct, l_37 X Gn c ih lk hcd⟩
  | 38, hx => by
    cases (Option.some.inj (Option.some.inj hx))
    obtain ⟨oc, od, osl, kV, doc, pm, an, cdv, ct, lk, hcd⟩ := c.def_ 38 (d := fd "are_worths_of" 49) rfl
    exact ⟨kV, doc, pm, an, cdv, ct, l_38 X Gn c ih lk hcd⟩
  | 39, hx => by
    cases (Option.some.inj (Option.some.inj hx))
    obtain ⟨oc, od, osl, kV, doc, pm, an, cdv, ct, lk, hcd⟩ := c.def_ 39 (d := fd "pairing_sign" 50) rfl
    exact ⟨kV, doc, pm, an, cdv, ct, l_39 X Gn c ih lk hcd⟩
  | 40, hx => by
    cases (Option.some.inj (Option.some.inj hx))
    obtain ⟨oc, od, osl, kV, doc, pm, an, cdv, ct, lk, hcd⟩ := c.def_ 40 (d := fd "table_by_arrows" 51) rfl
    exact ⟨kV, doc, pm, an, cdv, ct, l_40 X Gn c ih lk hcd⟩
  | 41, hx => by
    cases (Option.some.inj (Option.some.inj hx))
    obtain ⟨oc, od, osl, kV, doc, pm, an, cdv, ct, lk, hcd⟩ := c.def_ 41 (d := fd "without_rows" 52) rfl
    exact ⟨kV, doc, pm, an, cdv, ct, l_41 X Gn c ih lk hcd⟩
  | 42, hx => by
    cases (Option.some.inj (Option.some.inj hx))
    obtain ⟨oc, od, osl, kV, doc, pm, an, cdv, ct, lk, hcd⟩ := c.def_ 42 (d := fd "sum_over_pairs" 53) rfl
    exact ⟨kV, doc, pm, an, cdv, ct, l_42 X Gn c ih lk hcd⟩
  | 43, hx => by
    cases (Option.some.inj (Option.some.inj hx))
    obtain ⟨oc, od, osl, kV, doc, pm, an, cdv, ct, lk, hcd⟩ := c.def_ 43 (d := fd "with_exchanged" 54) rfl
    exact ⟨kV, doc, pm, an, cdv, ct, l_43 X Gn c ih lk hcd⟩
  | 44, hx => by
    cases (Option.some.inj (Option.some.inj hx))
    obtain ⟨oc, od, osl, kV, doc, pm, an, cdv, ct, lk, hcd⟩ := c.def_ 44 (d := fd "two_rows_less" 55) rfl
    exact ⟨kV, doc, pm, an, cdv, ct, l_44 X Gn c ih lk hcd⟩
  | 45, hx => by
    cases (Option.some.inj (Option.some.inj hx))
    obtain ⟨oc, od, osl, kV, doc, pm, an, cdv, ct, lk, hcd⟩ := c.def_ 45 (d := fd "sum_with_pair" 56) rfl
    exact ⟨kV, doc, pm, an, cdv, ct, l_45 X Gn c ih lk hcd⟩
  | 46, hx => by
    cases (Option.some.inj (Option.some.inj hx))
    obtain ⟨oc, od, osl, kV, doc, pm, an, cdv, ct, lk, hcd⟩ := c.def_ 46 (d := fd "_law_box" 58) rfl
    exact ⟨kV, doc, pm, an, cdv, ct, l_46 X Gn c ih lk hcd⟩
  | 47, hx => by
    cases (Option.some.inj (Option.some.inj hx))
    obtain ⟨oc, od, osl, kV, doc, pm, an, cdv, ct, lk, hcd⟩ := c.def_ 47 (d := fd "_law_take" 59) rfl
    exact ⟨kV, doc, pm, an, cdv, ct, l_47 X Gn c ih lk hcd⟩
  | 48, hx => by
    cases (Option.some.inj (Option.some.inj hx))
    obtain ⟨oc, od, osl, kV, doc, pm, an, cdv, ct, lk, hcd⟩ := c.def_ 48 (d := fd "_law_cells" 60) rfl
    exact ⟨kV, doc, pm, an, cdv, ct, l_48 X Gn c ih lk hcd⟩
  | 49, hx => by
    cases (Option.some.inj (Option.some.inj hx))
    obtain ⟨oc, od, osl, kV, doc, pm, an, cdv, ct, lk, hcd⟩ := c.def_ 49 (d := fd "_law_lists" 61) rfl
    exact ⟨kV, doc, pm, an, cdv, ct, l_49 X Gn c ih lk hcd⟩
  | 50, hx => by
    cases (Option.some.inj (Option.some.inj hx))
    obtain ⟨oc, od, osl, kV, doc, pm, an, cdv, ct, lk, hcd⟩ := c.def_ 50 (d := fd "_law_same" 62) rfl
    exact ⟨kV, doc, pm, an, cdv, ct, l_50 X Gn c ih lk hcd⟩
  | 51, hx => by
    cases (Option.some.inj (Option.some.inj hx))
    obtain ⟨oc, od, osl, kV, doc, pm, an, cdv, ct, lk, hcd⟩ := c.def_ 51 (d := fd "_law_square" 63) rfl
    exact ⟨kV, doc, pm, an, cdv, ct, l_51 X Gn c ih lk hcd⟩
  | 52, hx => by
    cases (Option.some.inj (Option.some.inj hx))
    obtain ⟨oc, od, osl, kV, doc, pm, an, cdv, ct, lk, hcd⟩ := c.def_ 52 (d := fd "_law_told_skins" 64) rfl
    exact ⟨kV, doc, pm, an, cdv, ct, l_52 X Gn c ih lk hcd⟩
  | 53, hx => by
    cases (Option.some.inj (Option.some.inj hx))
    obtain ⟨oc, od, osl, kV, doc, pm, an, cdv, ct, lk, hcd⟩ := c.def_ 53 (d := fd "_law_heard" 65) rfl
    exact ⟨kV, doc, pm, an, cdv, ct, l_53 X Gn c ih lk hcd⟩
  | 54, hx => by
    cases (Option.some.inj (Option.some.inj hx))
    obtain ⟨oc, od, osl, kV, doc, pm, an, cdv, ct, lk, hcd⟩ := c.def_ 54 (d := fd "_law_always_right" 66) rfl
    exact ⟨kV, doc, pm, an, cdv, ct, l_54 X Gn c ih lk hcd⟩
  | 55, hx => by
    cases (Option.some.inj (Option.some.inj hx))
    obtain ⟨oc, od, osl, kV, doc, pm, an, cdv, ct, lk, hcd⟩ := c.def_ 55 (d := fd "_law_refused_right" 67) rfl
    exact ⟨kV, doc, pm, an, cdv, ct, l_55 X Gn c ih lk hcd⟩
  | 56, hx => by
    cases (Option.some.inj (Option.some.inj hx))
    obtain ⟨oc, od, osl, kV, doc, pm, an, cdv, ct, lk, hcd⟩ := c.def_ 56 (d := fd "_law_names_right" 68) rfl
    exact ⟨kV, doc, pm, an, cdv, ct, l_56 X Gn c ih lk hcd⟩
  | 57, hx => by
    cases (Option.some.inj (Option.some.inj hx))
    obtain ⟨oc, od, osl, kV, doc, pm, an, cdv, ct, lk, hcd⟩ := c.def_ 57 (d := fd "law" 69) rfl
    exact ⟨kV, doc, pm, an, cdv, ct, l_57 X Gn c ih lk hcd⟩
  | i + 58, hx => (by rw [List.getElem?_eq_none (show rows.length ≤ i + 58 from Nat.le_add_left _ _)] at hx; cases hx))
  (fun i hx => match i, hx with
  | 0, hx => by cases (Option.some.inj hx)
  | 1, hx => by cases (Option.some.inj hx)
  | 2, hx => by cases (Option.some.inj hx)
  | 3, hx => by cases (Option.some.inj hx)
  | 4, hx => by cases (Option.some.inj hx)
  | 5, hx => by cases (Option.some.inj hx)
  | 6, hx => by cases (Option.some.inj hx)
  | 7, _ => by
    obtain ⟨oc, od, osl, kV, doc, pm, an, cdv, ct, lk, hcd⟩ := c.def_ 7 (d := fd "check_numbers" 11) rfl
    exact l_7 X Gn c ih lk hcd
  | 8, _ => by
    obtain ⟨oc, od, osl, kV, doc, pm, an, cdv, ct, lk, hcd⟩ := c.def_ 8 (d := fd "check_from_0" 12) rfl
    exact l_8 X Gn c ih lk hcd
  | 9, hx => by cases (Option.some.inj hx)
  | 10, hx => by cases (Option.some.inj hx)
  | 11, hx => by cases (Option.some.inj hx)
  | 12, hx => by cases (Option.some.inj hx)
  | 13, hx => by cases (Option.some.inj hx)
  | 14, hx => by cases (Option.some.inj hx)
  | 15, hx => by cases (Option.some.inj hx)
  | 16, hx => by cases (Option.some.inj hx)
  | 17, hx => by cases (Option.some.inj hx)
  | 18, hx => by cases (Option.some.inj hx)
  | 19, hx => by cases (Option.some.inj hx)
  | 20, hx => by cases (Option.some.inj hx)
  | 21, hx => by cases (Option.some.inj hx)
  | 22, hx => by cases (Option.some.inj hx)
  | 23, hx => by cases (Option.some.inj hx)
  | 24, hx => by cases (Option.some.inj hx)
  | 25, hx => by cases (Option.some.inj hx)
  | 26, hx => by cases (Option.some.inj hx)
  | 27, hx => by cases (Option.some.inj hx)
  | 28, hx => by cases (Option.some.inj hx)
  | 29, hx => by cases (Option.some.inj hx)
  | 30, hx => by cases (Option.some.inj hx)
  | 31, hx => by cases (Option.some.inj hx)
  | 32, hx => by cases (Option.some.inj hx)
  | 33, hx => by cases (Option.some.inj hx)
  | 34, hx => by cases (Option.some.inj hx)
  | 35, hx => by cases (Option.some.inj hx)
  | 36, hx => by cases (Option.some.inj hx)
  | 37, hx => by cases (Option.some.inj hx)
  | 38, hx => by cases (Option.some.inj hx)
  | 39, hx => by cases (Option.some.inj hx)
  | 40, hx => by cases (Option.some.inj hx)
  | 41, hx => by cases (Option.some.inj hx)
  | 42, hx => by cases (Option.some.inj hx)
  | 43, hx => by cases (Option.some.inj hx)
  | 44, hx => by cases (Option.some.inj hx)
  | 45, hx => by cases (Option.some.inj hx)
  | 46, hx => by cases (Option.some.inj hx)
  | 47, hx => by cases (Option.some.inj hx)
  | 48, hx => by cases (Option.some.inj hx)
  | 49, hx => by cases (Option.some.inj hx)
  | 50, hx => by cases (Option.some.inj hx)
  | 51, hx => by cases (Option.some.inj hx)
  | 52, hx => by cases (Option.some.inj hx)
  | 53, hx => by cases (Option.some.inj hx)
  | 54, hx => by cases (Option.some.inj hx)
  | 55, hx => by cases (Option.some.inj hx)
  | 56, hx => by cases (Option.some.inj hx)
  | 57, hx => by cases (Option.some.inj hx)
  | i + 58, hx => (by rw [List.getElem?_eq_none (show rows.length ≤ i + 58 from Nat.le_add_left _ _)] at hx; cases hx))
theorem lvA (X : K.In h) (Gn : h.Ns mainGlobals mg) (c : SaysX fs fn K) : ∀ k, LvK P w K mg base k
  | 0 => lv0
  | k + 1 => lvS X Gn c (lvA X Gn c k)
end
theorem law_F {P : Program} {w : World} {mg : Str → Option Value} {fa : Addr} {h : Heap} (good : ∀ ns : List Int, ns.length ≤ 63 → ∃ h', callN Pr 40 57 [.ref 0] (Hq.e.push (.rol (mpI ns))) = .ok (.bl true) h') (Y : ∃ K : PySem.W.Frag, K.In h ∧ SaysX fs fn K) (Gn : h.Ns mainGlobals mg) (hmg : mg ("law" : Str) = some (.ref fa)) :
    ∃ (K : PySem.W.Frag) (fdd : FuncData) (sp : Sp), K.In h ∧ (∀ (s : Shared) (u : Value), BindsTo s fdd ⟨[u], []⟩ [("script", u)]) ∧
      (∀ (H : Hp) (a : Addr) (ns : List Int), ns.length ≤ 63 → Only H → SqL K H a (ns.map V.int) → sp [.ref a] H (fun v _ => v = .bl true) fun _ _ _ => False) ∧
      ∀ base : Heap, K.In base → base.Ns mainGlobals mg → FnOk P w K mg base (L2.CX P w) 40 fa fdd ["script"] sp := by
  obtain ⟨K, X, c⟩ := Y
  obtain ⟨oc, od, osl, kV, doc, pm, an, cdv, ct, lk, hcd⟩ := c.def_ 57 (d := fd "law" 69) rfl
  have e : fa = (gK K).fad 57 := by
    have z := hmg.symm.trans ((hmA X Gn c) 57 _ _ _ rfl).2
    cases z; rfl
  subst e
  exact ⟨K, _, spC ⟨gK K, K, w⟩ (callN Pr 40) 57 1, X, fun s u => .of_eq (bp_57 kV doc pm an cdv ct [u] rfl), fun H a ns hl _ hS => script_sp (AllOk.at (fs := fsD) (allok c).r.r.r.l 0) hS (good ns hl), fun base _ _ => l_57 X Gn c (lvA X Gn c 39) lk hcd⟩
end Law

set_option Elab.async false
set_option linter.all false
set_option maxRecDepth 100000
set_option maxHeartbeats 0
namespace Law
open PW
theorem calL (h : Hq) : callN Pr 40 57 [.ref 0] h = fin (f_law (callN Pr 39) [some (.ref 0), none] h) := by kernel_rfl
theorem calC (h : Hq) : callN Pr 39 48 [.ref 0, .int 1] h = fin (xCells [some (.ref 0), some (.int 1), none, none, none, none] h) := by kernel_rfl
theorem calB (c : Nat) (h : Hq) : callN Pr 39 46 [.ref c, .int 0] h = fin (xBox 3192034 [some (.ref c), some (.int 0), none] h) := by kernel_rfl
theorem calT (c : Nat) (h : Hq) : callN Pr 39 47 [.ref c, .int 2] h = fin (xTake [some (.ref c), some (.int 2), none, none, none, none] h) := by kernel_rfl
theorem law_of {C : CT} {h0 H1 H2 H3 : Hq} {c b n : Nat} {d : Int} {t : HT} (hn : n < LINE) (e1 : C 54 [] h0 = .ok (.bl true) H1) (ec : C 48 [.ref 0, .int 1] H1 = .ok (.ref c) H2)
    (eb : C 46 [.ref c, .int 0] H2 = .ok (.ref b) H3) (et : C 47 [.ref b, .int 2] H3 = .ok (.int d) ⟨n, t⟩) (hd : d = 0 ∨ d = 1) (e60 : d = 0 → ∀ t, isT (C 55 [] ⟨n + 1, t⟩) = true) (e61 : d = 1 → ∀ t, isT (C 56 [] ⟨n + 1, t⟩) = true) :
    ∃ h', fin (f_law C [some (.ref 0), none] h0) = .ok (.bl true) h' := by
  have m1 : ∀ o, mk o ⟨n, t⟩ = .ok (.ref n) ((Hq.mk n t).push o) := fun o => by rw [mk, bltD]; show (match decide (n < LINE) with | true => _ | false => _) = _; rw [decide_eq_true hn]
  have k3 : ∀ a b : W, short [a, b] = true := fun _ _ => rfl
  have hg : ∀ o, ((Hq.mk n t).push o).get n = some o := fun o => by rw [Hq.get_push hn]; simp
  simp only [f_law, sSeq, sIf, sNil, sRet, sAsg, tNot, tVal, dCall, lNil, lCons, Rs.bind, dVar, dC, nth, dOp, tN, setN, e1, Bool.not_true, ec, eb, et, dCallV, dLst, k3, m1, oIx, hg]
  rcases hd with rfl | rfl
  · have a0 : atW [W.fn 55, W.fn 56] 0 = some (.fn 55) := rfl
    have n0 : noStar [7, 8] C 55 = C 55 := rfl
    simp only [a0, n0]
    have q := isT_ok (e60 rfl ((Hq.mk n t).push (.lst [.fn 55, .fn 56])).t)
    rw [show ((Hq.mk n t).push (.lst [.fn 55, .fn 56])) = ⟨n + 1, ((Hq.mk n t).push (.lst [.fn 55, .fn 56])).t⟩ from rfl, q]
    exact ⟨_, rfl⟩
  · have a0 : atW [W.fn 55, W.fn 56] 1 = some (.fn 56) := rfl
    have n0 : noStar [7, 8] C 56 = C 56 := rfl
    simp only [a0, n0]
    have q := isT_ok (e61 rfl ((Hq.mk n t).push (.lst [.fn 55, .fn 56])).t)
    rw [show ((Hq.mk n t).push (.lst [.fn 55, .fn 56])) = ⟨n + 1, ((Hq.mk n t).push (.lst [.fn 55, .fn 56])).t⟩ from rfl, q]
    exact ⟨_, rfl⟩
theorem good : ∀ ns : List Int, ns.length ≤ 63 → ∃ h', callN Pr 40 57 [.ref 0] (Hq.e.push (.rol (mpI ns))) = .ok (.bl true) h' := fun ns hl => by
  rw [calL]
  obtain ⟨t0, e0, g0⟩ : ∃ t0, Hq.e.push (.rol (mpI ns)) = ⟨1, t0⟩ ∧ t0.top = some (.rol (mpI ns)) := ⟨_, rfl, rfl⟩
  rw [e0]
  obtain ⟨t1, e1, g1⟩ := ob3_ok (ev1 t0)
  obtain ⟨c, h1, b, h2, d, ec, eb, et⟩ := draw (k := 3192034) (m := 2) (n := 18) (t := t1) (ns := ns) (by decide) (by decide) (by rw [g1, g0]) hl (by decide) (by decide)
  rw [← calC] at ec
  rw [← calB] at eb
  rcases et with ⟨t3, et, d1, d2⟩ | ⟨t3, et, d1⟩
  · rw [← calT] at et
    exact law_of (by decide) e1 ec eb et (by omega) (fun _ t => pa0 t) (fun _ t => pa1 t)
  · rw [← calT] at et
    have d1 : d = 0 := d1.trans (by decide +kernel)
    exact law_of (by decide) e1 ec eb et (.inl d1) (fun _ t => pan t) (fun z => absurd (d1.symm.trans z) (by decide))
end Law

set_option Elab.async false
set_option linter.all false
set_option maxRecDepth 100000
set_option maxHeartbeats 0
namespace Law
open PySem PySem.Spec PyProof.Rows L2 PW
def loose0 : List Str := (["NoField", "Unfit", "is_number", "is_below", "is_tuple_of", "is_set_below", "is_set_from_0", "is_ascending", "as_tuples", "check_numbers", "check_from_0", "are_bits", "SIDES", "is_skin", "fit_skin", "has_skin_form"] : List Str) ++ (["is_field_row", "is_crossing_below", "is_sewn_back", "hangs_together", "lesser_crossings", "joined_fields", "is_lot_of_edges", "fit_arrows", "are_arrows_of", "fit_pairing", "is_pairing_of", "worth_of", "sign_of", "signed_table", "is_signed_table", "paired_sum"] : List Str) ++ (["struck", "turned_table", "row_added", "sum_by_pairs", "fit_worths", "fit_signed_table", "fit_row_numbers", "check_rows", "is_row_of_numbers", "are_worths_of", "pairing_sign", "table_by_arrows", "without_rows", "sum_over_pairs", "with_exchanged", "two_rows_less"] : List Str)
def loose1 : List Str := (["sum_with_pair", "_law_box", "_law_take", "_law_cells", "_law_lists", "_law_same", "_law_square", "_law_told_skins", "_law_heard", "_law_always_right", "_law_refused_right", "_law_names_right"] : List Str)
def loose : List Str := loose0 ++ loose1
abbrev RR : PySem.W.OpenRow := PySem.W.OpenLaw.row PySem.Challenge.rw_handlepairs_k34_tables_by_hand_and_refus
abbrev hkk : PySem.W.Hook := hookX 4 fs fn
def obb (s : PySem.W.SharedT) : He.Al := obsXG 4 fs fn (HandSHeadRun.getT s)
theorem obb_eq (s : PySem.W.SharedT) : obb s = hkk.obs s.abs := obsXG_eq (HandSHeadRun.getT_eq s)
theorem three {α β γ δ : Type} {x : Option α} {f : α → β} {g : α → γ} {k : α → δ} {a : β} {b : γ} {c : δ} (e1 : x.map f = some a) (e2 : x.map g = some b) (e3 : x.map k = some c) : x.map (fun s => (f s, g s, k s)) = some (a, b, c) := by
  cases x with
  | none => cases e1
  | some y =>
    have q1 : f y = a := Option.some.inj e1
    have q2 : g y = b := Option.some.inj e2
    have q3 : k y = c := Option.some.inj e3
    show some (f y, g y, k y) = _
    rw [q1, q2, q3]
open HandSHeadRun PySem.W PySem.Calls in
theorem run1 (w : World) (os : OsState) : (endF (stepQ (denQ tabQ) RR.prog w) 4000 RR.prog w os).map (fun s => looksF RR.prog (boot_heap w.params) s.abs) = some true := by kernel_rfl
open HandSHeadRun PySem.W PySem.Calls in
theorem run2 (w : World) (os : OsState) : (endF (stepQ (denQ tabQ) RR.prog w) 4000 RR.prog w os).map (fun s => seenQ (PySem.W.view RR.prog [69]) loose (importedModules RR.prog.main.body) (fun s => xlAt (PySem.W.view RR.prog [69]) [] s && recOk RR.toRowW.records s) s.abs) = some (openGood (PySem.W.view RR.prog [69]) loose) := by kernel_rfl
theorem three2 {α δ : Type} {x : Option α} {f g : α → Bool} {k : α → δ} {b : Bool} {c : δ} (e1 : x.map f = some true) (e2 : x.map g = some true) (e3 : x.map k = some c) : x.map (fun s => ((f s && g s), k s)) = some (true, c) := by
  cases x with
  | none => cases e1
  | some y =>
    have q1 : f y = true := Option.some.inj e1
    have q2 : g y = true := Option.some.inj e2
    have q3 : k y = c := Option.some.inj e3
    show some ((f y && g y), k y) = _
    rw [q1, q2, q3] <;> rfl
abbrev KK (s : PySem.W.SharedT) : PySem.W.Frag := He.frG (HandSHeadRun.getT s) (He.asG (HandSHeadRun.getT s) 4)
open HandSHeadRun PySem.W PySem.Calls in
theorem run3a (w : World) (os : OsState) : (endF (stepQ (denQ tabQ) RR.prog w) 4000 RR.prog w os).map (fun s => fs.all fun f => f (KK s)) = some true := by kernel_rfl
open HandSHeadRun PySem.W PySem.Calls in
theorem run3b (w : World) (os : OsState) : (endF (stepQ (denQ tabQ) RR.prog w) 4000 RR.prog w os).map (fun s => fn.all fun d => (He.Fa.code d.at_ d.qual).ok (KK s)) = some true := by kernel_rfl
open HandSHeadRun PySem.W PySem.Calls in
theorem run3c (w : World) (os : OsState) : (endF (stepQ (denQ tabQ) RR.prog w) 4000 RR.prog w os).map (fun s => fn.map fun d => He.fnObs (KK s) d.at_) = some (He.valE fn).2 := by kernel_rfl
open HandSHeadRun PySem.W PySem.Calls in
theorem run3 (w : World) (os : OsState) : (endF (stepQ (denQ tabQ) RR.prog w) 4000 RR.prog w os).map (fun s => obb s) = some (hkk.val w) := three2 (b := true) (run3a w os) (run3b w os) (run3c w os)
theorem runn (w : World) : HandSHeadRun.RunEq RR (PySem.W.view RR.prog [69]) hkk obb 4000 loose w := by
  intro os
  exact three (run1 w os) (run2 w os) (run3 w os)
end Law

set_option Elab.async false
set_option linter.all false
set_option maxRecDepth 100000
set_option maxHeartbeats 0
open PySem PySem.W PySem.Calls PyProof.Rows
theorem PySem.Challenge.cw_handlepairs_k34_tables_by_hand_and_refus_holds : PySem.Challenge.rw_handlepairs_k34_tables_by_hand_and_refus.Holds := by
  w_on; o_law
  refine HandSHeadRun.head_any (r := OpenLaw.row PySem.Challenge.rw_handlepairs_k34_tables_by_hand_and_refus) (q := view (OpenLaw.row PySem.Challenge.rw_handlepairs_k34_tables_by_hand_and_refus).prog [69]) (H := Law.hkk) (ob := Law.obb) (M := 4000) (loose := Law.loose) (d := HandSHeadRun.topDef (OpenLaw.row PySem.Challenge.rw_handlepairs_k34_tables_by_hand_and_refus).prog 69) (kwd := []) Law.obb_eq
    (by kernel_rfl) (fun s => by kernel_rfl) Law.runn (by kernel_rfl) (by kernel_rfl) (by kernel_rfl) (by rfl) (by first | assumption | decide +kernel) (by decide +kernel) ⟨rfl, rfl, rfl, rfl, rfl, by decide +kernel⟩ ?hw ?hc
  case hw => w_witness2
  case hc =>
    refine PW.walkX (l := PySem.Challenge.rw_handlepairs_k34_tables_by_hand_and_refus) (n := 63) (k := 40) (x := "script") rfl (by decide) (by kernel_rfl) ⟨rfl, by decide, by decide⟩ ?F
    intro w mg fa h Y G hmg0
    have hmg : mg ("law" : PySem.Str) = some (.ref fa) := by
      have e : (HandSHeadRun.topDef (OpenLaw.row PySem.Challenge.rw_handlepairs_k34_tables_by_hand_and_refus).prog 69).name = ("law" : PySem.Str) := by kernel_rfl
      rw [← e]
      exact hmg0
    exact Law.law_F Law.good Y G hmg

