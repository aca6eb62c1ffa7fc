import PyProof.Rows.All
import PyProof.EqLayable
import Wide.All
import OpenK.AllK
import Wide.FinOn
import HandS.ForMost
import HandS.ForExc
import HandS.Walk
import HandS.IsInst
import HandS.Deep
import HandS.TupAny
import HandS.Style
import HandS.Zip
import HandS.TryMany
import HandS.CallSlots
import HandS.Wide
import HandS.Small
import HandS.TupSets
import HandS.Conv
import HandS.TupMul
import HandS.ExcOwn
import KE.GoesMore
import KE.DataMinMax
import HandS.SortKw
import HandS.SortInts
import HandS.ExcInit
import HandS.FStr
import HandS.ExcField
import HandS.ExcIs
import HandS.ExcValue
import HandS.DictComp
import PyProof.Rows.TupDisplay
import HandS.SetFor
import HandS.Strs
import PyProof.Rows.SetFrom
import PySem.Challenge.RW_onerest_k01_errors
set_option Elab.async false
set_option linter.all false
set_option maxRecDepth 100000
/-! Data over Python's values, without a heap: what an expression gives, what a block does. -/
namespace DL
open PySem

abbrev D := PyData
structure Err where
  cls : String
  fld : Option (Str × D)
abbrev R (α : Type) := Option (Except Err α)
def ok {α : Type} (a : α) : R α := some (.ok a)
def er {α : Type} (e : Err) : R α := some (.error e)
def rb {α β : Type} (x : R α) (f : α → R β) : R β := match x with
  | none => none
  | some (.error e) => some (.error e)
  | some (.ok a) => f a
theorem rb_ok {α β : Type} (a : α) (f : α → R β) : rb (ok a) f = f a := (rfl)
theorem rb_none {α β : Type} (f : α → R β) : rb none f = none := (rfl)
theorem rb_er {α β : Type} (e : Err) (f : α → R β) : rb (er e) f = er e := (rfl)
theorem rb_eq_ok {α β : Type} {x : R α} {f : α → R β} {b : β} (h : rb x f = ok b) : ∃ a, x = ok a ∧ f a = ok b := by
  unfold rb at h
  split at h
  · cases h
  · cases h
  · exact ⟨_, rfl, h⟩

inductive Slot where
  | un | d (x : D) | own (xs : List D) | tg (xs : List D) | nest (xss : List (List D)) | dct (kvs : List (List Int × D)) | io (a : Addr) (xs : List D) | ex (c : String) (f : Option (Str × D))
abbrev Env := List Slot
abbrev EX := Env → R D
abbrev EL := Env → R (List D)
abbrev EB := Env → R Bool
inductive Out where
  | nx (r : Env) | rt (x : D) | bk (r : Env) | ct (r : Env) | er (e : Err) (r : Env) | ro (i : Nat) (r : Env) | ri (x : D) (r : Env) | rl (xs : List D)
abbrev SX := Env → Option Out

/-! ### expressions -/
def vVar (i : Nat) : EX := fun r => match r[i]? with
  | some (.d x) => ok x
  | some (.tg xs) => ok (.list xs)
  | _ => none
/-- a name that is only read: an own list too -/
def vRd (i : Nat) : EX := fun r => match r[i]? with
  | some (.d x) => ok x
  | some (.own xs) => ok (.list xs)
  | some (.tg xs) => ok (.list xs)
  | some (.io _ xs) => ok (.list xs)
  | _ => none
def vC (x : D) : EX := fun _ => ok x
def po {α : Type} : Option α → R α
  | none => none
  | some a => ok a
def v1 (f : D → Option D) (a : EX) : EX := fun r => rb (a r) fun x => po (f x)
def v2 (f : D → D → Option D) (a b : EX) : EX := fun r => rb (a r) fun x => rb (b r) fun y => po (f x y)
def c1 (f : D → Option Bool) (a : EX) : EB := fun r => rb (a r) fun x => po (f x)
def c2 (f : D → D → Option Bool) (a b : EX) : EB := fun r => rb (a r) fun x => rb (b r) fun y => po (f x y)
def l1 (f : D → Option (List D)) (a : EX) : EL := fun r => rb (a r) fun x => po (f x)
def l2 (f : D → D → Option (List D)) (a b : EX) : EL := fun r => rb (a r) fun x => rb (b r) fun y => po (f x y)
/-- a new list that is kept as it is -/
def vL (a : EL) : EX := fun r => rb (a r) fun xs => ok (.list xs)
def vB (a : EB) : EX := fun r => rb (a r) fun b => ok (.bool b)
def vArgs : List EX → Env → R (List D)
  | [], _ => ok []
  | a :: as, r => rb (a r) fun x => rb (vArgs as r) fun xs => ok (x :: xs)
def vTup (as : List EX) : EX := fun r => rb (vArgs as r) fun xs => ok (.tuple xs)
def vCall (f : List D → R D) (as : List EX) : EX := fun r => rb (vArgs as r) f
def vIf (c : EB) (a b : EX) : EX := fun r => rb (c r) fun k => if k = true then a r else b r
/-! tests -/
def dTr : D → Option Bool
  | .bool b => some b
  | _ => none
def bTr (a : EX) : EB := c1 dTr a
def bNot (a : EB) : EB := fun r => rb (a r) fun b => ok (!b)
def bAnd (a b : EB) : EB := fun r => rb (a r) fun k => if k = true then b r else ok false
def bOr (a b : EB) : EB := fun r => rb (a r) fun k => if k = true then ok true else b r

/-! ### operations on data -/
def lim : Nat := 16777216
def asList (n : Nat) (x : D) : Option D := if n ≤ lim then some x else none
def dAdd : D → D → Option D
  | .int i, .int j => some (.int (i + j))
  | .bool b, .int j => some (.int ((if b then 1 else 0) + j))
  | .tuple xs, .tuple ys => asList (xs ++ ys).length (.tuple (xs ++ ys))
  | .list xs, .list ys => asList (xs ++ ys).length (.list (xs ++ ys))
  | _, _ => none
def lCat : D → D → Option (List D)
  | .list xs, .list ys => if (xs ++ ys).length ≤ lim then some (xs ++ ys) else none
  | _, _ => none
/-- a list so many times -/
def lRep : D → D → Option (List D)
  | .list xs, .int k => if -(2 ^ 63) ≤ k ∧ k < 2 ^ 63 ∧ xs.length * k.toNat ≤ lim then some (List.replicate k.toNat xs).flatten else none
  | _, _ => none
/-- a tuple so many times -/
def dRepT : D → D → Option D
  | .tuple xs, .int k => if xs.isEmpty = false ∧ 2 ≤ k ∧ k ≤ 1000 ∧ xs.length ≤ 1000 then some (.tuple (List.replicate k.toNat xs).flatten) else none
  | _, _ => none
def dSub : D → D → Option D
  | .int i, .int j => some (.int (i - j))
  | .bool b, .int j => some (.int ((if b then 1 else 0) - j))
  | _, _ => none
def small64 (i : Int) : Bool := decide (-(2 ^ 64) < i) && decide (i < 2 ^ 64)
def dMul : D → D → Option D
  | .int i, .int j => if (small64 i || small64 j) = true then some (.int (i * j)) else if i.natAbs < 2 ^ 256 ∧ j.natAbs < 2 ^ 256 then some (.int (i * j)) else none
  | _, _ => none
def dMod : D → D → Option D
  | .int i, .int j => if 0 < j then some (.int (i % j)) else none
  | _, _ => none
def dDiv : D → D → Option D
  | .int i, .int j => if 0 < j ∧ j < 1073741824 then some (.int (i / j)) else none
  | _, _ => none
def dPow : D → D → Option D
  | .int i, .int j => if 0 ≤ j ∧ j ≤ 100000 ∧ i.natAbs < 2 ^ 64 then some (.int (i ^ j.toNat)) else none
  | _, _ => none
def dNeg : D → Option D
  | .int i => some (.int (-i))
  | _ => none
def dInt : D → Option D
  | .int i => some (.int i)
  | .bool b => some (.int (if b then 1 else 0))
  | _ => none
def dMin : D → D → Option D
  | .int i, .int j => some (.int (if j < i then j else i))
  | _, _ => none
def dMax : D → D → Option D
  | .int i, .int j => some (.int (if j > i then j else i))
  | _, _ => none
def seqOf : D → Option (List D)
  | .list xs => some xs
  | .tuple xs => some xs
  | _ => none
def dLen : D → Option D
  | .list xs => some (.int xs.length)
  | .tuple xs => some (.int xs.length)
  | _ => none
/-- the place that an index means -/
def ixAt (n : Nat) (i : Int) : Option Nat :=
  if 0 ≤ i then (if i < n then some i.toNat else none) else if -(n : Int) ≤ i then some (i + n).toNat else none
def atD (xs : List D) (i : Int) : Option D := match ixAt xs.length i with
  | some k => match xs[k]? with
    | some x => some x
    | none => none
  | none => none
def dIx : D → D → Option D
  | .list xs, .int i => atD xs i
  | .tuple xs, .int i => atD xs i
  | .list xs, .bool b => none
  | _, _ => none
/-- x[k], a list of a list of own lists -/
def vNestIx (i : Nat) (k : EX) : EX := fun r => match r[i]? with
  | some (.nest xss) => rb (k r) fun j => match j with
    | .int j => (match ixAt xss.length j with
      | some n => po ((xss[n]?).map fun xs => .list xs)
      | none => none)
    | _ => none
  | _ => none
/-- where a slice begins and ends -/
def cutAt (n dflt : Nat) : Option Int → Nat
  | none => dflt
  | some i => if i < 0 then (i + n).toNat else min i.toNat n
def cutD {α : Type} (xs : List α) (lo hi : Option Int) : List α := (xs.drop (cutAt xs.length 0 lo)).take (cutAt xs.length xs.length hi - cutAt xs.length 0 lo)
def vOpt : Option EX → Env → R (Option Int)
  | none, _ => ok none
  | some a, r => rb (a r) fun x => match x with
    | .int i => ok (some i)
    | _ => none
def dCut (lo hi : Option Int) : D → Option D
  | .list xs => some (.list (cutD xs lo hi))
  | .tuple xs => some (.tuple (cutD xs lo hi))
  | _ => none
def lCut (lo hi : Option Int) : D → Option (List D)
  | .list xs => some (cutD xs lo hi)
  | _ => none
def vCut (a : EX) (lo hi : Option EX) : EX := fun r => rb (a r) fun x => rb (vOpt lo r) fun i => rb (vOpt hi r) fun j => po (dCut i j x)
def lCutE (a : EX) (lo hi : Option EX) : EL := fun r => rb (a r) fun x => rb (vOpt lo r) fun i => rb (vOpt hi r) fun j => po (lCut i j x)
/-- xs[::-1] -/
def dRev : D → Option D
  | .list xs => some (.list xs.reverse)
  | .tuple xs => some (.tuple xs.reverse)
  | _ => none
def lOf : D → Option (List D)
  | .list xs => some xs
  | .tuple xs => some xs
  | _ => none
def dTup : D → Option D
  | .list xs => some (.tuple xs)
  | .tuple xs => some (.tuple xs)
  | _ => none
def cLt : D → D → Option Bool
  | .int i, .int j => some (decide (i < j))
  | _, _ => none
def cLe : D → D → Option Bool
  | .int i, .int j => some (decide (i ≤ j))
  | _, _ => none
def cGt : D → D → Option Bool
  | .int i, .int j => some (decide (j < i))
  | _, _ => none
def cGe : D → D → Option Bool
  | .int i, .int j => some (decide (j ≤ i))
  | _, _ => none
def eqS (x y : D) : Option Bool := if (SeqAt.shaped x && SeqAt.shaped y) = true then some (PyData.eqv x y) else none
/-- ==: two lists of unlike lengths are told apart whatever is in them -/
def cEq : D → D → Option Bool
  | .list xs, .list ys => if xs.length = ys.length then (if xs.length = 0 then some true else eqS (.list xs) (.list ys)) else some false
  | x, y => eqS x y
def cNe (x y : D) : Option Bool := (cEq x y).map (!·)
def cIn (x y : D) : Option Bool := match seqOf y with
  | some ds => if (SeqAt.shaped x && SeqAt.shaped y) = true then some (ds.any fun z => PyData.eqv z x) else none
  | none => none
def cNotIn (x y : D) : Option Bool := match seqOf y with
  | some ds => if (SeqAt.shaped x && SeqAt.shaped y) = true then some (!ds.any fun z => PyData.eqv z x) else none
  | none => none
def cIsB (b : Bool) : D → Option Bool
  | .bool k => some (decide (k = b))
  | _ => none
def cIsNone : D → Option Bool
  | .none => some true
  | _ => some false
/-- a built-in class by its name -/
def tyName : D → String
  | .none => "NoneType"
  | .bool _ => "bool"
  | .int _ => "int"
  | .str _ => "str"
  | .list _ => "list"
  | .tuple _ => "tuple"
  | .dict _ => "dict"
def isInst (t : String) (x : D) : Bool := tyName x == t || (t == "int" && tyName x == "bool")
def bools : List D → Option (List Bool)
  | [] => some []
  | .bool b :: xs => (bools xs).map (b :: ·)
  | _ :: _ => none
def cAll : D → Option Bool
  | .list xs => match bools xs with
    | some bs => some (bs.all id)
    | none => none
  | _ => none
def cAny : D → Option Bool
  | .list xs => match bools xs with
    | some bs => some (bs.any id)
    | none => none
  | _ => none

/-- an int, or a tuple of such, so deep at most -/
def deepI : Nat → D → Bool
  | _, .int _ => true
  | n + 1, .tuple xs => xs.all (deepI n)
  | _, _ => false
/-- how many unlike ones: at most 40 -/
def unlike : List D → List D → List D
  | seen, [] => seen
  | seen, x :: xs => if (seen.any fun z => PyData.eqv z x) = true then unlike seen xs else unlike (seen ++ [x]) xs
def dLenSet (x : D) : Option D := match seqOf x with
  | some ds => if (ds.all (fun d => (match d with | .tuple _ => true | _ => false) && deepI 3 d) && decide (ds.length ≤ 40)) = true then some (.int ((unlike [] ds).length : Nat)) else none
  | none => none

/-- a op1 b op2 c -/
def bChain (f g : D → D → Option Bool) (a b c : EX) : EB := fun r => rb (a r) fun x => rb (b r) fun y => rb (po (f x y)) fun k => if k = true then rb (c r) fun z => po (g y z) else ok false
def cIs (x y : D) : Option Bool := match y with
  | .bool b => cIsB b x
  | .none => cIsNone x
  | _ => none
def cIsNot (x y : D) : Option Bool := (cIs x y).map (!·)
def cIsi (T : String) (x : D) : Option Bool := some (isInst T x)

/-- the whole numbers of a list -/
def numsOf : List D → Option (List Int)
  | [] => some []
  | .int i :: xs => (numsOf xs).map (i :: ·)
  | _ :: _ => none
/-- the unlike ones -/
def addU (acc : List Int) (x : Int) : List Int := if acc.any (· == x) then acc else acc ++ [x]
def uniq (ns : List Int) : List Int := ns.foldl addU []
/-- len(set(..)) of a list of whole numbers -/
def dLenSetI : D → Option D
  | .list xs => match numsOf xs with
    | some ns => if ns.length ≤ 2000 then some (.int ((uniq ns).length : Nat)) else none
    | none => none
  | _ => none
def dMinL : D → Option D
  | .list xs => match numsOf xs with
    | some (n :: ns) => some (.int (ns.foldl min n))
    | _ => none
  | _ => none
def dMaxL : D → Option D
  | .list xs => match numsOf xs with
    | some (n :: ns) => some (.int (ns.foldl max n))
    | _ => none
  | _ => none
/-- max(.., default=d) -/
def dMaxD (d : Int) : D → Option D
  | .list xs => match numsOf xs with
    | some [] => some (.int d)
    | some (n :: ns) => some (.int (ns.foldl max n))
    | none => none
  | _ => none
/-- a call by names: as in the row's order, is the places in the def's order -/
def vCallK (f : List D → R D) (is : List Nat) (as : List EX) : EX := fun r => rb (vArgs as r) fun ds => f (is.map fun i => ds.getD i .none)
/-! ### what is walked -/
def iSeq (a : EX) : EL := fun r => rb (a r) fun x => po (seqOf x)
def rng (lo : Int) (n : Nat) : List D := (List.range n).map fun (k : Nat) => .int (lo + k)
def small62 (i : Int) : Bool := decide (-(2 ^ 62) ≤ i) && decide (i < 2 ^ 62)
def rng1 : D → Option (List D)
  | .int j => if small62 j = true then some (rng 0 j.toNat) else none
  | _ => none
def rng2 : D → D → Option (List D)
  | .int i, .int j => if (small62 i && small62 j) = true then some (rng i (j - i).toNat) else none
  | _, _ => none
/-- the list of a range, kept -/
def lRange1 : D → Option (List D)
  | .int j => if small62 j = true ∧ j.toNat ≤ lim then some (rng 0 j.toNat) else none
  | _ => none
def lRange2 : D → D → Option (List D)
  | .int i, .int j => if small62 i = true ∧ small62 j = true ∧ (j - i).toNat ≤ lim then some (rng i (j - i).toNat) else none
  | _, _ => none
/-- tuple(range(..)) -/
def dTupRg1 (x : D) : Option D := (lRange1 x).map .tuple
def dTupRg2 (x y : D) : Option D := (lRange2 x y).map .tuple
/-- the first place of a thing in a list that has it -/
def dIndexOf : D → D → Option D
  | .list ds, d => if (SeqAt.shaped (.list ds) && SeqAt.shaped d) = true then (ds.findIdx? fun z => PyData.eqv z d).map fun j => .int (j : Nat) else none
  | _, _ => none
def vIndex (a b : EX) : EX := fun r => rb (a r) fun x => match x with
  | .list ds => rb (b r) fun y => po (dIndexOf (.list ds) y)
  | _ => none
/-- range(0, j, c), c > 0 -/
def rng3 : D → D → D → Option (List D)
  | .int i, .int j, .int c => if i = 0 ∧ 0 ≤ j ∧ j ≤ 16777216 ∧ 1 ≤ c ∧ c ≤ 16777216 then some ((List.range ((j + c - 1) / c).toNat).map fun (k : Nat) => .int (i + (k : Nat) * c)) else none
  | _, _, _ => none
def iRange3 (a b c : EX) : EL := fun r => rb (vArgs [a, b, c] r) fun ds => match ds with
  | [x, y, z] => po (rng3 x y z)
  | _ => none
def iRange1 (a : EX) : EL := l1 rng1 a
def iRange2 (a b : EX) : EL := l2 rng2 a b
def enumL : Nat → List D → List D
  | _, [] => []
  | k, x :: xs => .tuple [.int k, x] :: enumL (k + 1) xs
def enum1 (x : D) : Option (List D) := (seqOf x).map (enumL 0)
def iEnumE (a : EX) : EL := l1 enum1 a
def zipL : List D → List D → List D
  | x :: xs, y :: ys => .tuple [x, y] :: zipL xs ys
  | _, _ => []
def zip2 (x y : D) : Option (List D) := match seqOf x, seqOf y with
  | some xs, some ys => some (zipL xs ys)
  | _, _ => none
def iZipE (a b : EX) : EL := l2 zip2 a b
def zipT2 : D → D → Option (List D)
  | .tuple xs, .tuple ys => some (zipL xs ys)
  | _, _ => none
def iZipTE (a b : EX) : EL := fun r => rb (vArgs [a, b] r) fun ds => match ds with
  | [x, y] => po (zipT2 x y)
  | _ => none
/-- the targets of a store: one name, or names in a row that a tuple goes to -/
inductive Tg where
  | one (i : Nat) | many (is : List Nat) | nst (gs : List (Nat ⊕ List Nat))
def putMany : List Nat → List D → Env → Option Env
  | [], [], r => some r
  | i :: is, x :: xs, r => putMany is xs (r.set i (.d x))
  | _, _, _ => none
/-- names, and names in a row within a row -/
def putN : List (Nat ⊕ List Nat) → List D → Env → Option Env
  | [], [], r => some r
  | .inl i :: gs, x :: xs, r => putN gs xs (r.set i (.d x))
  | .inr is :: gs, x :: xs, r => match x with
    | .tuple ys => (match putMany is ys r with
      | some r1 => putN gs xs r1
      | none => none)
    | _ => none
  | _, _, _ => none
def slotsN : List (Nat ⊕ List Nat) → List Nat
  | [] => []
  | .inl i :: gs => i :: slotsN gs
  | .inr is :: gs => is ++ slotsN gs
def Tg.put : Tg → D → Env → Option Env
  | .one i, x, r => some (r.set i (.d x))
  | .many is, .tuple xs, r => putMany is xs r
  | .many _, _, _ => none
  | .nst gs, .tuple xs, r => putN gs xs r
  | .nst _, _, _ => none
def Tg.slots : Tg → List Nat
  | .one i => [i]
  | .many is => is
  | .nst gs => slotsN gs
def unSlots : List Nat → Env → Env
  | [], r => r
  | i :: is, r => (unSlots is r).set i .un

/-! ### comprehensions: the list of what is kept -/
def compL (g : Tg) (t : EB) (e : EX) (r : Env) : List D → R (List D)
  | [] => ok []
  | x :: xs => match g.put x r with
    | none => none
    | some r1 => rb (t r1) fun k => if k = true then rb (e r1) fun y => rb (compL g t e r xs) fun ys => ok (y :: ys) else compL g t e r xs
/-- [e for g in it if t]: no error within; at most lim items -/
def noEr {α : Type} (x : R α) : R α := match x with
  | some (.ok a) => ok a
  | _ => none
def lComp (it : EL) (g : Tg) (t : EB) (e : EX) : EL := fun r => rb (it r) fun xs => if xs.length ≤ lim then noEr (compL g t e (unSlots g.slots r) xs) else none
def bYes : EB := fun _ => ok true

/-- [e for g in it if t], e a new list each time -/
def compLN (g : Tg) (t : EB) (e : EL) (r : Env) : List D → R (List (List D))
  | [] => ok []
  | x :: xs => match g.put x r with
    | none => none
    | some r1 => rb (t r1) fun k => if k = true then rb (e r1) fun y => rb (compLN g t e r xs) fun ys => ok (y :: ys) else compLN g t e r xs
def lCompN (it : EL) (g : Tg) (t : EB) (e : EL) : Env → R (List (List D)) := fun r => rb (it r) fun xs => if xs.length ≤ lim then noEr (compLN g t e (unSlots g.slots r) xs) else none
/-! [e for .. in .. for .. in ..] -/
def compL2 (g : Tg) (it1 : EL) (g1 : Tg) (t1 : EB) (e : EX) (r : Env) : List D → R (List D)
  | [] => ok []
  | x :: xs => match g.put x r with
    | none => none
    | some r1 => rb (it1 r1) fun ys => rb (compL g1 t1 e (unSlots g1.slots r1) ys) fun zs => rb (compL2 g it1 g1 t1 e r xs) fun ws => ok (zs ++ ws)
def lComp2 (it : EL) (g : Tg) (it1 : EL) (g1 : Tg) (t1 : EB) (e : EX) : EL := fun r => rb (it r) fun xs => rb (noEr (compL2 g it1 g1 t1 e (unSlots (g.slots ++ g1.slots) r) xs)) fun ys => if ys.length ≤ lim then ok ys else none

/-! ### statements -/
def sNx : SX := fun r => some (.nx r)
def sBk : SX := fun r => some (.bk r)
def sCt : SX := fun r => some (.ct r)
/-- what follows a value -/
def so {α : Type} (x : R α) (r : Env) (f : α → Option Out) : Option Out := match x with
  | none => none
  | some (.error e) => some (.er e r)
  | some (.ok a) => f a
theorem so_ok {α : Type} (a : α) (r : Env) (f : α → Option Out) : so (ok a) r f = f a := (rfl)
theorem so_er {α : Type} (e : Err) (r : Env) (f : α → Option Out) : so (er e) r f = some (.er e r) := (rfl)
theorem so_none {α : Type} (r : Env) (f : α → Option Out) : so none r f = none := (rfl)
def sSeq (a b : SX) : SX := fun r => match a r with
  | some (.nx r1) => b r1
  | o => o
def sSet (i : Nat) (a : EX) : SX := fun r => so (a r) r fun x => some (.nx (r.set i (.d x)))
def sOwn (i : Nat) (a : EL) : SX := fun r => so (a r) r fun xs => some (.nx (r.set i (.own xs)))
def sPut (g : Tg) (a : EX) : SX := fun r => so (a r) r fun x => (g.put x r).map .nx
def frz (i : Nat) (r : Env) : Env := match r[i]? with
  | some (.own xs) => r.set i (.d (.list xs))
  | some (.nest xss) => r.set i (.d (.list (xss.map .list)))
  | _ => r
/-- two names of lists with the same entries, one by one the same objects; before it, no others are known to be so -/
def untag (r : Env) : Env := r.map fun s => match s with
  | .tg xs => .d (.list xs)
  | s => s
/-- i = list(j) -/
def sCopy (i j : Nat) : SX := fun r => match (untag r)[j]? with
  | some (.d (.list xs)) => if i < r.length ∧ i ≠ j then some (.nx (((untag r).set j (.tg xs)).set i (.tg xs))) else none
  | _ => none
/-- i != j of two such -/
def bCopyNe (i j : Nat) : EB := fun r => match r[i]?, r[j]? with
  | some (.tg _), some (.tg _) => ok false
  | _, _ => none
def sFreeze (i : Nat) : SX := fun r => some (.nx (frz i r))
def sRet (a : EX) : SX := fun r => so (a r) r fun x => some (.rt x)
/-- an own list is given away -/
def sRetO (i : Nat) : SX := fun r => match r[i]? with
  | some (.own xs) => some (.ro i r)
  | _ => none
def sExpr (a : EX) : SX := fun r => so (a r) r fun _ => some (.nx r)
def sIf (c : EB) (a b : SX) : SX := fun r => so (c r) r fun k => if k = true then a r else b r
def sApp (i : Nat) (a : EX) : SX := fun r => match r[i]? with
  | some (.own xs) => so (a r) r fun x => if xs.length < lim then some (.nx (r.set i (.own (xs ++ [x])))) else none
  | some (.io b xs) => so (a r) r fun x => if xs.length < lim then some (.nx (r.set i (.io b (xs ++ [x])))) else none
  | _ => none
/-- own.extend(a), a new list -/
def sExt (i : Nat) (a : EL) : SX := fun r => match r[i]? with
  | some (.own xs) => so (a r) r fun ys => if (xs ++ ys).length ≤ lim then some (.nx (r.set i (.own (xs ++ ys)))) else none
  | some (.io b xs) => so (a r) r fun ys => if (xs ++ ys).length ≤ lim then some (.nx (r.set i (.io b (xs ++ ys)))) else none
  | _ => none
/-- own[k] = x -/
def sSetIx (i : Nat) (k a : EX) : SX := fun r => match r[i]? with
  | some (.own xs) => so (a r) r fun x => so (k r) r fun j => match j with
    | .int j => match ixAt xs.length j with
      | some n => some (.nx (r.set i (.own (xs.set n x))))
      | none => none
    | _ => none
  | some (.io b xs) => so (a r) r fun x => so (k r) r fun j => match j with
    | .int j => match ixAt xs.length j with
      | some n => some (.nx (r.set i (.io b (xs.set n x))))
      | none => none
    | _ => none
  | _ => none
def sNest (i : Nat) (a : Env → R (List (List D))) : SX := fun r => so (a r) r fun xss => some (.nx (r.set i (.nest xss)))
/-- own[k][m] = x -/
def sSetIx2 (i : Nat) (k m a : EX) : SX := fun r => match r[i]? with
  | some (.nest xss) => so (a r) r fun x => so (k r) r fun j => match j with
    | .int j => (match ixAt xss.length j with
      | some n => (match xss[n]? with
        | some xs => so (m r) r fun l => (match l with
          | .int l => (match ixAt xs.length l with
            | some q => some (.nx (r.set i (.nest (xss.set n (xs.set q x)))))
            | none => none)
          | _ => none)
        | none => none)
      | none => none)
    | _ => none
  | _ => none
/-- own[k].append(x) -/
def sApp2 (i : Nat) (k a : EX) : SX := fun r => match r[i]? with
  | some (.nest xss) => so (k r) r fun j => match j with
    | .int j => (match ixAt xss.length j with
      | some n => so (a r) r fun x => (match xss[n]? with
        | some xs => if xs.length < lim then some (.nx (r.set i (.nest (xss.set n (xs ++ [x]))))) else none
        | none => none)
      | none => none)
    | _ => none
  | _ => none
/-- a, b = x, y -/
def sPar (i j : Nat) (a b : EX) : SX := fun r => so (vArgs [a, b] r) r fun xs => match xs with
  | [x, y] => some (.nx ((r.set i (.d x)).set j (.d y)))
  | _ => none
def loopF (g : Tg) (b : SX) : List D → SX
  | [], r => some (.nx r)
  | x :: xs, r => match g.put x r with
    | none => none
    | some r1 => match b r1 with
      | some (.nx r2) => loopF g b xs r2
      | some (.ct r2) => loopF g b xs r2
      | some (.bk r2) => some (.nx r2)
      | o => o
def sFor (it : EL) (g : Tg) (b : SX) : SX := fun r => so (it r) r fun xs => loopF g b xs r
def loopW (c : EB) (b : SX) : Nat → SX
  | 0, _ => none
  | n + 1, r => so (c r) r fun k => if k = true then (match b r with
      | some (.nx r2) => loopW c b n r2
      | some (.ct r2) => loopW c b n r2
      | some (.bk r2) => some (.nx r2)
      | o => o) else some (.nx r)
/-- for .. in own: j = a -/
def sForSet (i : Nat) (g : Tg) (j : Nat) (a : EX) : SX := fun r => match r[i]? with
  | some (.own xs) => loopF g (sSet j a) xs r
  | _ => none
/-- fuel: more turns than any run takes -/
def sWhile (n : Nat) (c : EB) (b : SX) : SX := fun r => loopW c b n r

/-- raise C('..') -/
def sErr (c : String) : SX := fun r => some (.er ⟨c, none⟩ r)
/-- raise C(a), C's __init__ keeping a as f -/
def sErrF (c : String) (f : Str) (a : EX) : SX := fun r => so (a r) r fun x => match x with
  | .int i => if i.natAbs.log2 < 1920 then some (.er ⟨c, some (f, .int i)⟩ r) else none
  | _ => none
/-- which of the clauses takes e: tab tells of two classes whether the first is one of the second -/
def pickH (tab : List ((String × String) × Bool)) (e : Err) (r : Env) : List (String × SX) → Option Out
  | [] => some (.er e r)
  | (c, b) :: hs => match tab.lookup (e.cls, c) with
    | some true => b r
    | some false => pickH tab e r hs
    | none => none
def sTry (tab : List ((String × String) × Bool)) (a : SX) (hs : List (String × SX)) : SX := fun r => match a r with
  | some (.er e r1) => pickH tab e r1 hs
  | o => o

/-- try: a; except c as i: j = i.f -/
def sTryF (tab : List ((String × String) × Bool)) (a : SX) (c : String) (i j : Nat) (f : Str) : SX := fun r => match a r with
  | some (.er e r1) => (match tab.lookup (e.cls, c) with
    | some true => (match e.fld with
      | some (g, d) => if g = f ∧ e.cls = c ∧ i < r1.length then some (.nx (((r1.set i .un).set j (.d d)).set i .un)) else none
      | none => none)
    | some false => some (.er e r1)
    | none => none)
  | o => o

/-! caught errors -/
/-- the name of an except clause goes -/
def unI (i : Nat) : Option Out → Option Out
  | some (.nx r) => some (.nx (r.set i .un))
  | some (.bk r) => some (.bk (r.set i .un))
  | some (.ct r) => some (.ct (r.set i .un))
  | some (.rt d) => some (.rt d)
  | _ => none
/-- which of the clauses takes e, each with a name of its own -/
def pickE (tab : List ((String × String) × Bool)) (e : Err) (r : Env) : List (String × Nat × SX) → Option Out
  | [] => some (.er e r)
  | (c, i, b) :: hs => match tab.lookup (e.cls, c) with
    | some true => if i < r.length then unI i (b (r.set i (.ex e.cls e.fld))) else none
    | some false => pickE tab e r hs
    | none => none
/-- try: a; except c as i: b .. -/
def sTryE (tab : List ((String × String) × Bool)) (a : SX) (hs : List (String × Nat × SX)) : SX := fun r => match a r with
  | some (.er e r1) => pickE tab e r1 hs
  | o => o
/-- isinstance(e, T), T an own class or ValueError -/
def vIsE (tab : List ((String × String) × Bool)) (i : Nat) (T : String) : EX := fun r => match r[i]? with
  | some (.ex c _) => (match tab.lookup (c, T) with
    | some b => ok (.bool b)
    | none => none)
  | _ => none
/-- e.f -/
def vFldE (cl : List String) (i : Nat) (f : Str) : EX := fun r => match r[i]? with
  | some (.ex c (some (g, d))) => if g = f ∧ cl.contains c = true then ok d else none
  | _ => none
/-- j = i, i a caught error -/
def sCopyE (j i : Nat) : SX := fun r => match r[i]? with
  | some (.ex c f) => some (.nx (r.set j (.ex c f)))
  | _ => none
/-- a def of one argument, perhaps an error -/
def vCallE (g : Slot → R D) (i : Nat) : EX := fun r => match r[i]? with
  | some (.ex c f) => g (.ex c f)
  | some (.d x) => g (.d x)
  | _ => none
def runE (n : Nat) (b : SX) (s : Slot) : R D := match b (s :: List.replicate (n - 1) .un) with
  | some (.rt x) => ok x
  | some (.nx _) => ok .none
  | some (.er e _) => er e
  | _ => none
/-- a value that holds no other -/
def scal : D → Bool
  | .none => true
  | .bool _ => true
  | .int _ => true
  | .str _ => true
  | _ => false
/-- an expression that only reads an own list, and gives no part of it -/
def vFrz (i : Nat) (a : EX) : EX := fun r => rb (noEr (a (frz i r))) fun x => if scal x = true then ok x else none

/-! ### a def -/
def slots (n : Nat) (ds : List D) : Env := ds.map .d ++ List.replicate (n - ds.length) .un
/-- n names, p of them parameters -/
def runD (n p : Nat) (b : SX) (ds : List D) : R D := if ds.length = p then (match b (slots n ds) with
  | some (.rt x) => ok x
  | some (.nx _) => ok .none
  | some (.er e _) => er e
  | _ => none) else none
/-- i += a; i -= a, of whole numbers -/
def sAugI (i : Nat) (f : Int → Int → Int) (a : EX) : SX := fun r => match r[i]? with
  | some (.d (.int m)) => so (a r) r fun y => match y with
    | .int n => some (.nx (r.set i (.d (.int (f m n)))))
    | _ => none
  | _ => none
/-- whole numbers ascending, each once -/
def insU (x : Int) : List Int → List Int
  | [] => [x]
  | y :: ys => if x < y then x :: y :: ys else if x = y then y :: ys else y :: insU x ys
def setS : List Int → List Int
  | [] => []
  | x :: xs => insU x (setS xs)
/-- sorted(set(..)) -/
def lSortS : D → Option (List D)
  | .list xs => match numsOf xs with
    | some ns => if ns.length ≤ 2000 ∧ (setS ns).length < 64 then some ((setS ns).map PyData.int) else none
    | none => none
  | _ => none
/-! ### dicts whose keys are tuples of ints -/
def keyOf : D → Option (List Int)
  | .tuple xs => numsOf xs
  | _ => none
def getP (kvs : List (List Int × D)) (k : List Int) : Option D := (kvs.find? fun p => decide (p.1 = k)).map (·.2)
def putP (kvs : List (List Int × D)) (k : List Int) (d : D) : List (List Int × D) := if (kvs.any fun p => decide (p.1 = k)) = true then kvs.map (fun p => if p.1 = k then (p.1, d) else p) else kvs ++ [(k, d)]
/-- the first key is a tuple -/
def isTK : List (D × D) → Bool
  | (.tuple _, _) :: _ => true
  | _ => false
/-- list(d) -/
def lKeys : D → Option (List D)
  | .dict kvs => if isTK kvs = true then some (kvs.map (·.1)) else none
  | _ => none
def keyP (p : List Int × D) : D × D := (.tuple (p.1.map PyData.int), p.2)
/-- i = {a: b} -/
def sDct1 (i : Nat) (a b : EX) : SX := fun r => so (a r) r fun x => so (b r) r fun y => match keyOf x with
  | some k => some (.nx (r.set i (.dct [(k, y)])))
  | none => none
/-- i[a] -/
def vDget (i : Nat) (a : EX) : EX := fun r => match r[i]? with
  | some (.dct kvs) => rb (a r) fun x => match keyOf x with
    | some k => po (getP kvs k)
    | none => none
  | _ => none
/-- a in i; a not in i -/
def bDin (i : Nat) (a : EX) : EB := fun r => match r[i]? with
  | some (.dct kvs) => rb (a r) fun x => match keyOf x with
    | some k => ok (getP kvs k).isSome
    | none => none
  | _ => none
def bDnin (i : Nat) (a : EX) : EB := fun r => match r[i]? with
  | some (.dct kvs) => rb (a r) fun x => match keyOf x with
    | some k => ok (!(getP kvs k).isSome)
    | none => none
  | _ => none
/-- i[a] = b -/
def sDput (i : Nat) (a b : EX) : SX := fun r => match r[i]? with
  | some (.dct kvs) => so (b r) r fun y => so (a r) r fun x => match keyOf x with
    | some k => if kvs.length < lim then some (.nx (r.set i (.dct (putP kvs k y)))) else none
    | none => none
  | _ => none
/-- {a: b for .. in .. if ..} -/
def compD (g : Tg) (t : EB) (a b : EX) (r : Env) : List D → List (List Int × D) → R (List (List Int × D))
  | [], kvs => ok kvs
  | x :: xs, kvs => match g.put x r with
    | none => none
    | some r1 => rb (t r1) fun k => if k = true then rb (a r1) fun u => rb (b r1) fun v => (match keyOf u with
      | some k => compD g t a b r xs (putP kvs k v)
      | none => none) else compD g t a b r xs kvs
def vDComp (l : EL) (g : Tg) (t : EB) (a b : EX) : EX := fun r => rb (l r) fun xs => if xs.length ≤ lim then rb (noEr (compD g t a b (unSlots g.slots r) xs [])) fun kvs => ok (.dict (kvs.map keyP)) else none
/-- a def that gives a list of its own -/
def runO (n p : Nat) (b : SX) (ds : List D) : R (List D) := if ds.length = p then (match b (slots n ds) with
  | some (.ro i r) => (match r[i]? with
    | some (.own xs) => ok xs
    | _ => none)
  | some (.rl xs) => ok xs
  | some (.er e _) => er e
  | _ => none) else none
def lCall (f : List D → R (List D)) (as : List EX) : EL := fun r => rb (vArgs as r) f
/-- a new list is given away -/
def sRetL (a : EL) : SX := fun r => so (a r) r fun xs => some (.rl xs)
/-! ### expressions that change own lists -/
abbrev RS (α : Type) := Option (Except Err α × Env)
abbrev ES (α : Type) := Env → RS α
def sb {α β : Type} (x : RS α) (f : α → Env → RS β) : RS β := match x with
  | none => none
  | some (.error e, r) => some (.error e, r)
  | some (.ok a, r) => f a r
def okS {α : Type} (a : α) (r : Env) : RS α := some (.ok a, r)
theorem sb_ok {α β : Type} (a : α) (r : Env) (f : α → Env → RS β) : sb (okS a r) f = f a r := (rfl)
theorem sb_none {α β : Type} (f : α → Env → RS β) : sb none f = none := (rfl)
theorem sb_eq_ok {α β : Type} {x : RS α} {f : α → Env → RS β} {b : β} {r' : Env} (h : sb x f = some (.ok b, r')) : ∃ a r1, x = some (.ok a, r1) ∧ f a r1 = some (.ok b, r') := by
  unfold sb at h
  split at h
  · cases h
  · cases h
  · exact ⟨_, _, rfl, h⟩
def up {α : Type} (r : Env) (x : R α) : RS α := match x with
  | none => none
  | some (.error e) => some (.error e, r)
  | some (.ok a) => some (.ok a, r)
theorem up_ok {α : Type} (a : α) (r : Env) : up r (ok a) = okS a r := (rfl)
theorem up_none {α : Type} (r : Env) : up (α := α) r none = none := (rfl)
theorem up_er {α : Type} (r : Env) (e : Err) : up (α := α) r (er e) = some (.error e, r) := (rfl)
theorem up_po {α : Type} (r : Env) (a : α) : up r (po (some a)) = okS a r := (rfl)
def uX {α : Type} (a : Env → R α) : ES α := fun r => up r (a r)
def w1 (f : D → Option D) (a : ES D) : ES D := fun r => sb (a r) fun x r1 => up r1 (po (f x))
def w2 (f : D → D → Option D) (a b : ES D) : ES D := fun r => sb (a r) fun x r1 => sb (b r1) fun y r2 => up r2 (po (f x y))
def wc2 (f : D → D → Option Bool) (a b : ES D) : ES Bool := fun r => sb (a r) fun x r1 => sb (b r1) fun y r2 => up r2 (po (f x y))
def wl1 (f : D → Option (List D)) (a : ES D) : ES (List D) := fun r => sb (a r) fun x r1 => up r1 (po (f x))
def wl2 (f : D → D → Option (List D)) (a b : ES D) : ES (List D) := fun r => sb (a r) fun x r1 => sb (b r1) fun y r2 => up r2 (po (f x y))
def wL (a : ES (List D)) : ES D := fun r => sb (a r) fun xs r1 => okS (.list xs) r1
def wB (a : ES Bool) : ES D := fun r => sb (a r) fun b r1 => okS (.bool b) r1
def wTr (a : ES D) : ES Bool := fun r => sb (a r) fun x r1 => up r1 (po (dTr x))
def wNot (a : ES Bool) : ES Bool := fun r => sb (a r) fun b r1 => okS (!b) r1
def wAnd (a b : ES Bool) : ES Bool := fun r => sb (a r) fun k r1 => if k = true then b r1 else okS false r1
def wOr (a b : ES Bool) : ES Bool := fun r => sb (a r) fun k r1 => if k = true then okS true r1 else b r1
def wIf (c : ES Bool) (a b : ES D) : ES D := fun r => sb (c r) fun k r1 => if k = true then a r1 else b r1
def wArgs : List (ES D) → ES (List D)
  | [], r => okS [] r
  | a :: as, r => sb (a r) fun x r1 => sb (wArgs as r1) fun xs r2 => okS (x :: xs) r2
def wTup (as : List (ES D)) : ES D := fun r => sb (wArgs as r) fun xs r1 => okS (.tuple xs) r1
def wCall (f : List D → R D) (as : List (ES D)) : ES D := fun r => sb (wArgs as r) fun xs r1 => up r1 (f xs)
/-! comprehensions -/
def compLS (g : Tg) (t : EB) (e : ES D) : List D → ES (List D)
  | [], r => okS [] r
  | x :: xs, r => match g.put x r with
    | none => none
    | some r1 => sb (up r1 (t r1)) fun k r1 => if k = true then sb (e r1) fun y r2 => sb (compLS g t e xs (unSlots g.slots r2)) fun ys r3 => okS (y :: ys) r3 else compLS g t e xs (unSlots g.slots r1)
def noErS {α : Type} (x : RS α) : RS α := match x with
  | some (.ok a, r) => okS a r
  | _ => none
/-- its names are forgotten behind it -/
def wComp (it : ES (List D)) (g : Tg) (t : EB) (e : ES D) : ES (List D) := fun r => sb (it r) fun xs r1 => if xs.length ≤ lim then noErS (compLS g t e xs (unSlots g.slots r1)) else none
/-! calls of defs that change lists -/
inductive AArg where
  | io (i : Nat) | ex (a : ES D)
inductive AV where
  | io (i : Nat) | d (x : D)
abbrev RI := Option (Except Err D × List (List D))
def ioXs (r : Env) (i : Nat) : Option (List D) := match r[i]? with
  | some (.own xs) => some xs
  | some (.io _ xs) => some xs
  | _ => none
def reslot (s : Slot) (l : List D) : Slot := match s with
  | .own _ => .own l
  | .io a _ => .io a l
  | s => s
def ioSet (r : Env) (i : Nat) (l : List D) : Env := match r[i]? with
  | some s => r.set i (reslot s l)
  | none => r
def wArgI : List AArg → ES (List AV)
  | [], r => okS [] r
  | .io i :: as, r => match ioXs r i with
    | some _ => sb (wArgI as r) fun xs r1 => okS (.io i :: xs) r1
    | none => none
  | .ex a :: as, r => sb (a r) fun x r1 => sb (wArgI as r1) fun xs r2 => okS (.d x :: xs) r2
def ioIxA : List AArg → List Nat
  | [] => []
  | .io i :: as => i :: ioIxA as
  | .ex _ :: as => ioIxA as
def mkS (r : Env) (ad : Nat → Addr) : List AV → Option (List Slot)
  | [] => some []
  | .d x :: bs => (mkS r ad bs).map (.d x :: ·)
  | .io i :: bs => match ioXs r i with
    | some xs => (mkS r ad bs).map (.io (ad i) xs :: ·)
    | none => none
def putB : List AV → List (List D) → Env → Option Env
  | [], [], r => some r
  | .d _ :: bs, ls, r => putB bs ls r
  | .io i :: bs, l :: ls, r => putB bs ls (ioSet r i l)
  | _, _, _ => none
/-- what comes whatever the addresses are -/
noncomputable def allA (f : (Nat → Addr) → RI) : RI := open Classical in if ∀ ad, f ad = f (fun _ => 0) then f (fun _ => 0) else none
theorem allA_of {f : (Nat → Addr) → RI} {x : RI} (h : ∀ ad, f ad = x) : allA f = x := by
  unfold allA
  rw [if_pos (fun ad => (h ad).trans (h _).symm), h]
theorem allA_eq {f : (Nat → Addr) → RI} {x} (h : allA f = some x) (ad : Nat → Addr) : f ad = some x := by
  unfold allA at h
  split at h
  · rename_i k
    rw [k ad, h]
  · cases h
noncomputable def callI (g : List Slot → RI) (bs : List AV) (r : Env) : RS D := match allA (fun ad => match mkS r ad bs with | some ss => g ss | none => none) with
  | none => none
  | some (e, ls) => match putB bs ls r with
    | some r2 => some (e, r2)
    | none => none
noncomputable def wCallI (g : List Slot → RI) (as : List AArg) : ES D := fun r => sb (wArgI as r) fun bs r1 => callI g bs r1
/-- the first list is new, and of no use behind the call -/
noncomputable def callN (g : List Slot → RI) (xs : List D) (bs : List AV) (r : Env) : RS D := match allA (fun ad => match mkS r ad bs with | some ss => g (.io (ad r.length) xs :: ss) | none => none) with
  | some (e, _ :: ls) => match putB bs ls r with
    | some r2 => some (e, r2)
    | none => none
  | _ => none
noncomputable def wCallN (g : List Slot → RI) (a : EL) (as : List AArg) : ES D := fun r => sb (up r (a r)) fun xs r1 => sb (wArgI as r1) fun bs r2 => callN g xs bs r2
/-- own.pop(e), e from 0 on -/
def wPop (i : Nat) (a : ES D) : ES D := fun r => match ioXs r i with
  | some _ => sb (a r) fun d r1 => (match d, ioXs r1 i with
    | .int j, some xs => if 0 ≤ j ∧ j < xs.length ∧ xs.length ≤ lim then (match xs[j.toNat]? with
      | some y => okS y (ioSet r1 i (xs.eraseIdx j.toNat))
      | none => none) else none
    | _, _ => none)
  | none => none
/-! statements -/
def soS {α : Type} (x : RS α) (f : α → Env → Option Out) : Option Out := match x with
  | none => none
  | some (.error e, r) => some (.er e r)
  | some (.ok a, r) => f a r
theorem soS_ok {α : Type} (a : α) (r : Env) (f : α → Env → Option Out) : soS (okS a r) f = f a r := (rfl)
theorem soS_none {α : Type} (f : α → Env → Option Out) : soS none f = none := (rfl)
def zSet (i : Nat) (a : ES D) : SX := fun r => soS (a r) fun x r1 => some (.nx (r1.set i (.d x)))
def zOwn (i : Nat) (a : ES (List D)) : SX := fun r => soS (a r) fun xs r1 => some (.nx (r1.set i (.own xs)))
def zPut (g : Tg) (a : ES D) : SX := fun r => soS (a r) fun x r1 => (g.put x r1).map .nx
def zRet (a : ES D) : SX := fun r => soS (a r) fun x r1 => some (.ri x r1)
def zRt (a : ES D) : SX := fun r => soS (a r) fun x _ => some (.rt x)
def zExpr (a : ES D) : SX := fun r => soS (a r) fun _ r1 => some (.nx r1)
def zIf (c : ES Bool) (a b : SX) : SX := fun r => soS (c r) fun k r1 => if k = true then a r1 else b r1
def zApp (i : Nat) (a : ES D) : SX := fun r => match ioXs r i with
  | some _ => soS (a r) fun x r1 => (match ioXs r1 i with
    | some xs => if xs.length < lim then some (.nx (ioSet r1 i (xs ++ [x]))) else none
    | none => none)
  | none => none
/-- own[k] = x -/
def zSetIx (i : Nat) (k a : ES D) : SX := fun r => soS (a r) fun x r1 => soS (k r1) fun j r2 => match j with
  | .int j => (match ioXs r2 i with
    | some xs => (match ixAt xs.length j with
      | some n => some (.nx (ioSet r2 i (xs.set n x)))
      | none => none)
    | none => none)
  | _ => none
def zFor (it : ES (List D)) (g : Tg) (b : SX) : SX := fun r => soS (it r) fun xs r1 => loopF g b xs r1
/-! a def that changes lists -/
def ioOut : List Slot → Env → Option (List (List D))
  | [], _ => some []
  | .io a _ :: ss, .io b xs :: r => if a = b then (ioOut ss r).map (xs :: ·) else none
  | .d _ :: ss, _ :: r => ioOut ss r
  | _, _ => none
def runI (n p : Nat) (b : SX) (ss : List Slot) : RI := if ss.length = p then (match b (ss ++ List.replicate (n - p) .un) with
  | some (.ri x r) => (ioOut ss r).map fun l => (.ok x, l)
  | some (.nx r) => (ioOut ss r).map fun l => (.ok .none, l)
  | some (.er e r) => (ioOut ss r).map fun l => (.error e, l)
  | _ => none) else none
end DL
/-! sorted(..) of integers, of pairs of integers. -/
namespace DL
open PySem
def lSortI : D → Option (List D)
  | .list ds => match numsOf ds with
    | some ns => some ((ns.mergeSort fun i j => decide (i ≤ j)).map PyData.int)
    | none => none
  | _ => none
def dSum : D → Option D
  | .list ds => match numsOf ds with
    | some ns => some (.int ns.sum)
    | none => none
  | _ => none
def prsOf : List D → Option (List (Int × Int))
  | [] => some []
  | .tuple [.int i, .int j] :: xs => (prsOf xs).map ((i, j) :: ·)
  | _ => none
def prD (p : Int × Int) : D := .tuple [.int p.1, .int p.2]
def prLe (p q : Int × Int) : Bool := decide (p.1 < q.1) || (decide (p.1 = q.1) && decide (p.2 ≤ q.2))
def lSortP : D → Option (List D)
  | .list ds => match prsOf ds with
    | some ps => some ((ps.mergeSort prLe).map prD)
    | none => none
  | _ => none
end DL
/-! Whole numbers divided by large ones. -/
namespace DL
open PySem
def dDivW : D → D → Option D
  | .int i, .int j => if 0 < j ∧ j.natAbs < 2 ^ 2000 then some (.int (i / j)) else none
  | _, _ => none
theorem divW_int (i j : Int) (h : 0 < j) (h2 : j.natAbs < 2 ^ 2000) : dDivW (.int i) (.int j) = some (.int (i / j)) := if_pos ⟨h, h2⟩
/-- two lists side by side -/
def zipLL : D → D → Option (List D)
  | .list xs, .list ys => some (zipL xs ys)
  | _, _ => none
def iZipLE (a b : EX) : EL := fun r => rb (vArgs [a, b] r) fun ds => match ds with
  | [x, y] => po (zipLL x y)
  | _ => none
theorem e_iZipLE {a b : EX} {r : Env} : iZipLE a b r = rb (vArgs [a, b] r) fun ds => (match ds with
  | [x, y] => po (zipLL x y)
  | _ => none) := (rfl)
end DL
/-! The data layer: how data stand in the abstract heap, what an expression's reading is. -/
namespace DL
open PySem PySem.Spec PyProof.Rows L2

mutual
/-- v is the datum, all of it in the part F -/
def Rep (K : PySem.W.Frag) (F : Hp) : D → V → Prop
  | .none, v => v = .non
  | .bool b, v => v = .bl b
  | .int i, v => v = .int i
  | .str x, v => v = .str x
  | .list ds, v => ∃ a vs, v = .ref a ∧ SqL K F a vs ∧ RepL K F ds vs
  | .tuple ds, v => ∃ a vs, v = .ref a ∧ F a = some (.tup vs) ∧ RepL K F ds vs
  | .dict kvs, v => ∃ a, v = .ref a ∧ ((isTK kvs = false ∧ ∃ ks, F a = some (.dK ks)) ∨ ∃ ks, F a = some (.dT ks) ∧ RepKV K F kvs ks)
def RepL (K : PySem.W.Frag) (F : Hp) : List D → List V → Prop
  | [], vs => vs = []
  | d :: ds, vs => ∃ v r, vs = v :: r ∧ Rep K F d v ∧ RepL K F ds r
/-- a dict whose keys are tuples of ints -/
def RepKV (K : PySem.W.Frag) (F : Hp) : List (D × D) → List (List Key × V) → Prop
  | [], ks => ks = []
  | (x, d) :: kvs, ks => ∃ k v r, x = .tuple (List.map PyData.int k) ∧ ks = (List.map Sum.inl k, v) :: r ∧ Rep K F d v ∧ RepKV K F kvs r
end
/-- as Rep, but the list at the top may be one of the def's own -/
def RepX (K : PySem.W.Frag) (F H : Hp) : D → V → Prop
  | .list ds, v => ∃ a vs, v = .ref a ∧ SqL K H a vs ∧ RepL K F ds vs
  | d, v => Rep K F d v

theorem rdS {H H' : Hp} {a : Addr} {u : HO} (e : Same H H') (h : Rd H a u) : Rd H' a u := by
  rcases h with h | ⟨o, h⟩
  · exact .inl (e _ _ h)
  · exact .inr ⟨o, e _ _ h⟩
theorem seqT {K : PySem.W.Frag} {H H' : Hp} {a : Addr} {xs : List V} (e : Same H H') (h : SqT K H a xs) : SqT K H' a xs := by
  rcases h with (h | ⟨o, h⟩) | h
  · exact .inl (.inl (e _ _ h))
  · exact .inl (.inr ⟨o, e _ _ h⟩)
  · exact .inr h
theorem tupT {K : PySem.W.Frag} {H H' : Hp} {a : Addr} {xs : List V} (e : Same H H') (h : H a = some (.tup xs)) : SqT K H' a xs := .inl (.inl (e _ _ h))
mutual
theorem Rep.mono {K : PySem.W.Frag} {F F' : Hp} (e : Same F F') : ∀ {d : D} {v : V}, Rep K F d v → Rep K F' d v
  | .none, _, h => h
  | .bool _, _, h => h
  | .int _, _, h => h
  | .str _, _, h => h
  | .list ds, _, ⟨a, vs, q, h1, h2⟩ => ⟨a, vs, q, e.seq h1, RepL.mono e h2⟩
  | .tuple ds, _, ⟨a, vs, q, h1, h2⟩ => ⟨a, vs, q, e _ _ h1, RepL.mono e h2⟩
  | .dict _, _, ⟨a, q, .inl ⟨n, ks, h⟩⟩ => ⟨a, q, .inl ⟨n, ks, e _ _ h⟩⟩
  | .dict _, _, ⟨a, q, .inr ⟨ks, h, p⟩⟩ => ⟨a, q, .inr ⟨ks, e _ _ h, RepKV.mono e p⟩⟩
theorem RepL.mono {K : PySem.W.Frag} {F F' : Hp} (e : Same F F') : ∀ {ds : List D} {vs : List V}, RepL K F ds vs → RepL K F' ds vs
  | [], _, h => h
  | _ :: _, _, ⟨v, r, q, h1, h2⟩ => ⟨v, r, q, Rep.mono e h1, RepL.mono e h2⟩
theorem RepKV.mono {K : PySem.W.Frag} {F F' : Hp} (e : Same F F') : ∀ {kvs : List (D × D)} {ks : List (List Key × V)}, RepKV K F kvs ks → RepKV K F' kvs ks
  | [], _, h => h
  | (_, _) :: _, _, ⟨k, v, r, q1, q2, h1, h2⟩ => ⟨k, v, r, q1, q2, Rep.mono e h1, RepKV.mono e h2⟩
end
theorem RepL.length {K : PySem.W.Frag} {F : Hp} : ∀ {ds : List D} {vs : List V}, RepL K F ds vs → vs.length = ds.length
  | [], _, h => by
    have h' : _ = [] := h
    rw [h']; rfl
  | _ :: ds, _, ⟨v, r, q, h1, h2⟩ => by
    rw [q, List.length_cons, List.length_cons, RepL.length h2]
theorem RepL.get {K : PySem.W.Frag} {F : Hp} : ∀ {ds : List D} {vs : List V} {i : Nat} {d : D}, RepL K F ds vs → ds[i]? = some d → ∃ v, vs[i]? = some v ∧ Rep K F d v
  | [], _, _, _, _, h => by simp at h
  | x :: ds, _, 0, d, ⟨v, r, q, h1, h2⟩, h => by
    have e : x = d := by simpa using h
    subst e
    exact ⟨v, by rw [q]; rfl, h1⟩
  | _ :: ds, _, i + 1, d, ⟨v, r, q, h1, h2⟩, h => by
    obtain ⟨u, e1, e2⟩ := RepL.get (i := i) (d := d) h2 (by simpa using h)
    exact ⟨u, by rw [q]; simpa using e1, e2⟩
theorem RepL.at {K : PySem.W.Frag} {F : Hp} : ∀ {ds : List D} {vs : List V} {i : Nat} {v : V}, RepL K F ds vs → vs[i]? = some v → ∃ d, ds[i]? = some d ∧ Rep K F d v
  | [], _, _, _, q, h => by
    have q' : _ = [] := q
    rw [q'] at h; simp at h
  | x :: ds, _, 0, u, ⟨v, r, q, h1, h2⟩, h => by
    rw [q] at h
    have e : v = u := by simpa using h
    subst e
    exact ⟨x, rfl, h1⟩
  | _ :: ds, _, i + 1, u, ⟨v, r, q, h1, h2⟩, h => by
    rw [q] at h
    obtain ⟨d, e1, e2⟩ := RepL.at (i := i) (v := u) h2 (by simpa using h)
    exact ⟨d, by simpa using e1, e2⟩
theorem RepL.append {K : PySem.W.Frag} {F : Hp} : ∀ {ds es : List D} {vs us : List V}, RepL K F ds vs → RepL K F es us → RepL K F (ds ++ es) (vs ++ us)
  | [], _, _, _, q, h => by
    have q' : _ = [] := q
    rw [q']; exact h
  | x :: ds, es, _, us, ⟨v, r, q, h1, h2⟩, h => ⟨v, r ++ us, by rw [q]; rfl, h1, RepL.append h2 h⟩
theorem RepL.drop {K : PySem.W.Frag} {F : Hp} : ∀ (n : Nat) {ds : List D} {vs : List V}, RepL K F ds vs → RepL K F (ds.drop n) (vs.drop n)
  | 0, _, _, h => h
  | n + 1, [], _, q => by
    have q' : _ = [] := q
    rw [q']; rfl
  | n + 1, x :: ds, _, ⟨v, r, q, h1, h2⟩ => by rw [q]; exact RepL.drop n h2
theorem RepL.take {K : PySem.W.Frag} {F : Hp} : ∀ (n : Nat) {ds : List D} {vs : List V}, RepL K F ds vs → RepL K F (ds.take n) (vs.take n)
  | 0, _, _, h => rfl
  | n + 1, [], _, q => by
    have q' : _ = [] := q
    rw [q']; rfl
  | n + 1, x :: ds, _, ⟨v, r, q, h1, h2⟩ => ⟨v, r.take n, by rw [q]; rfl, h1, RepL.take n h2⟩
theorem RepL.set {K : PySem.W.Frag} {F : Hp} {d : D} {v : V} (rv : Rep K F d v) : ∀ (n : Nat) {ds : List D} {vs : List V}, RepL K F ds vs → RepL K F (ds.set n d) (vs.set n v)
  | _, [], _, q => by
    have q' : _ = [] := q
    rw [q']; rfl
  | 0, x :: ds, _, ⟨u, r, q, h1, h2⟩ => ⟨v, r, by rw [q]; rfl, rv, h2⟩
  | n + 1, x :: ds, _, ⟨u, r, q, h1, h2⟩ => ⟨u, r.set n v, by rw [q]; rfl, h1, RepL.set rv n h2⟩
theorem RepL.cut {K : PySem.W.Frag} {F : Hp} {ds : List D} {vs : List V} (h : RepL K F ds vs) (lo hi : Option Int) : RepL K F (cutD ds lo hi) (cutV vs lo hi) := by
  have e : ∀ n d i, cutAt n d i = HT.sIx n d i := fun n d i => by cases i <;> rfl
  unfold cutD cutV
  rw [e, e, h.length]
  exact RepL.take _ (RepL.drop _ h)

/-- what an expression may do: F grows, H grows, F stays within H, an old object is in F only if it was -/
structure Gr (F H F' H' : Hp) : Prop where
  f : Same F F'
  h : Same H H'
  i : Same F' H'
  n : ∀ a, H a ≠ none → F a = none → (∀ vs, H a ≠ some (.tup vs)) → F' a = none
theorem Gr.refl {F H : Hp} (e : Same F H) : Gr F H F H := ⟨Same.refl _, Same.refl _, e, fun _ _ q _ => q⟩
theorem Gr.trans {F H F1 H1 F2 H2 : Hp} (a : Gr F H F1 H1) (b : Gr F1 H1 F2 H2) : Gr F H F2 H2 :=
  ⟨a.f.trans b.f, a.h.trans b.h, b.i, fun x h q t => b.n x (fun z => h (a.h.free z)) (a.n x h q t) fun vs e => h (Classical.byContradiction fun c => by
    cases e1 : H x with
    | none => exact c e1
    | some o =>
      rw [a.h _ _ e1] at e
      cases e
      exact t vs e1)⟩
theorem Gr.nu {F H F' H' : Hp} (g : Gr F H F' H') {a : Addr} {u : HO} (h : H a = some u) (hu : ∀ vs, u ≠ .tup vs) (f : F a = none) : F' a = none := g.n a (by rw [h]; exact fun z => nomatch z) f fun vs z => hu vs (Option.some.inj (h.symm.trans z))
/-- a new object, put into F too -/
theorem Gr.new {F H : Hp} (e : Same F H) {p : Addr} (hp : H p = none) (o : HO) : Gr F H (upd F p o) (upd H p o) := by
  have fp : F p = none := e.free hp
  refine ⟨fun b x q => ?_, fun b x q => ?_, fun b x q => ?_, fun a h q => ?_⟩
  · rw [upd_ne (ne_of_none q fp)]; exact q
  · rw [upd_ne (ne_of_none q hp)]; exact q
  · by_cases c : b = p
    · subst c; rw [upd_same] at q ⊢; exact q
    · rw [upd_ne c] at q ⊢; exact e b x q
  · exact fun _ => by rw [upd_ne (fun z => h (by rw [z]; exact hp))]; exact q
/-- a new object that stays the def's own -/
theorem Gr.own {F H : Hp} (e : Same F H) {p : Addr} (hp : H p = none) (o : HO) : Gr F H F (upd H p o) := by
  refine ⟨Same.refl _, fun b x q => ?_, fun b x q => ?_, fun _ _ q _ => q⟩
  · rw [upd_ne (ne_of_none q hp)]; exact q
  · rw [upd_ne (ne_of_none (e b x q) hp)]; exact e b x q

theorem Rep.x {K : PySem.W.Frag} {F H : Hp} (e : Same F H) : ∀ {d : D} {v : V}, Rep K F d v → RepX K F H d v
  | .none, _, h => h
  | .bool _, _, h => h
  | .int _, _, h => h
  | .str _, _, h => h
  | .list ds, _, ⟨a, vs, q, h1, h2⟩ => ⟨a, vs, q, e.seq h1, h2⟩
  | .tuple ds, _, h => h
  | .dict _, _, h => h
theorem RepX.mono {K : PySem.W.Frag} {F H F' H' : Hp} (g : Gr F H F' H') : ∀ {d : D} {v : V}, RepX K F H d v → RepX K F' H' d v
  | .none, _, h => h
  | .bool _, _, h => h
  | .int _, _, h => h
  | .str _, _, h => h
  | .list ds, _, ⟨a, vs, q, h1, h2⟩ => ⟨a, vs, q, g.h.seq h1, h2.mono g.f⟩
  | .tuple ds, _, h => Rep.mono (K := K) (d := .tuple ds) g.f h
  | .dict kvs, _, h => Rep.mono (K := K) (d := .dict kvs) g.f h
/-- read with H alone -/
theorem RepX.rep {K : PySem.W.Frag} {F H : Hp} (e : Same F H) : ∀ {d : D} {v : V}, RepX K F H d v → Rep K H d v
  | .none, _, h => h
  | .bool _, _, h => h
  | .int _, _, h => h
  | .str _, _, h => h
  | .list ds, _, ⟨a, vs, q, h1, h2⟩ => ⟨a, vs, q, h1, h2.mono e⟩
  | .tuple ds, _, h => Rep.mono (K := K) (d := .tuple ds) e h
  | .dict kvs, _, h => Rep.mono (K := K) (d := .dict kvs) e h

/-! ### the slots -/
/-- rows of their own, vs the references to them -/
def NestOk (K : PySem.W.Frag) (B H F : Hp) : List (List D) → List V → Prop
  | [], vs => vs = []
  | xs :: xss, vs => ∃ b us r, vs = .ref b :: r ∧ H b = some (.lst us) ∧ F b = none ∧ B b = none ∧ RepL K F xs us ∧ V.ref b ∉ r ∧ NestOk K B H F xss r
/-- an own dict whose keys are tuples of ints -/
def RepP (K : PySem.W.Frag) (F : Hp) : List (List Int × D) → List (List Key × V) → Prop
  | [], ks => ks = []
  | (k, d) :: kvs, ks => ∃ v r, ks = (k.map Sum.inl, v) :: r ∧ Rep K F d v ∧ RepP K F kvs r
theorem RepP.mono {K : PySem.W.Frag} {F F' : Hp} (e : Same F F') : ∀ {kvs : List (List Int × D)} {ks : List (List Key × V)}, RepP K F kvs ks → RepP K F' kvs ks
  | [], _, h => h
  | (_, _) :: _, _, ⟨v, r, q, h1, h2⟩ => ⟨v, r, q, h1.mono e, RepP.mono e h2⟩
/-- a caught error -/
def exk (a : Addr) (C : Addr) (d : Option Addr) : HO := .ext fun h => ∃ (o : Obj) (vs : Array Value), h.get? a = some o ∧ o.cls = .ref C ∧ o.dict = d ∧ o.data = .fields vs
def FldOk (K : PySem.W.Frag) (F : Hp) (dx : Option Addr) : Option (Str × D) → Prop
  | none => dx = none
  | some (f, x) => ∃ dd v, dx = some dd ∧ F dd = some (.xd [(f, v)]) ∧ Rep K F x v
theorem FldOk.mono {K : PySem.W.Frag} {F F' : Hp} (e : Same F F') {dx : Option Addr} : ∀ {o : Option (Str × D)}, FldOk K F dx o → FldOk K F' dx o
  | none, h => h
  | some (f, x), ⟨dd, v, q, h1, h2⟩ => ⟨dd, v, q, e _ _ h1, h2.mono e⟩
def SlotOk (K : PySem.W.Frag) (B H F : Hp) : Slot → Option V → Prop
  | .un, _ => True
  | .d x, y => ∃ v, y = some v ∧ Rep K F x v
  | .own xs, y => ∃ a vs, y = some (.ref a) ∧ H a = some (.lst vs) ∧ F a = none ∧ B a = none ∧ RepL K F xs vs
  | .tg xs, y => ∃ v, y = some v ∧ Rep K F (.list xs) v
  | .nest xss, y => ∃ a vs, y = some (.ref a) ∧ H a = some (.lst vs) ∧ F a = none ∧ B a = none ∧ V.ref a ∉ vs ∧ NestOk K B H F xss vs
  | .dct kvs, y => ∃ a ks, y = some (.ref a) ∧ H a = some (.dT ks) ∧ F a = none ∧ B a = none ∧ RepP K F kvs ks
  | .io a xs, y => ∃ vs, y = some (.ref a) ∧ H a = some (.lst vs) ∧ F a = none ∧ B a = none ∧ RepL K F xs vs
  | .ex c f, y => ∃ a C dx, y = some (.ref a) ∧ PySem.W.nsIn K mainGlobals (PySem.Str.ofString c) = some (some (.ref C)) ∧ F a = some (exk a C dx) ∧ FldOk K F dx f
/-- what a slot's own lists are -/
def Foot (H : Hp) : Slot → Option V → Addr → Prop
  | .own _, y, a => y = some (.ref a)
  | .dct _, y, a => y = some (.ref a)
  | .io _ _, y, a => y = some (.ref a)
  | .nest _, y, a => ∃ p vs, y = some (.ref p) ∧ H p = some (.lst vs) ∧ (a = p ∨ V.ref a ∈ vs)
  | _, _, _ => False
theorem nest_foot {K : PySem.W.Frag} {B H F : Hp} : ∀ {xss : List (List D)} {vs : List V} {a : Addr}, NestOk K B H F xss vs → V.ref a ∈ vs → ∃ us, H a = some (.lst us) ∧ F a = none ∧ B a = none
  | [], vs, a, h, m => by
    have h' : vs = [] := h
    rw [h'] at m; cases m
  | xs :: xss, vs, a, ⟨b, us, r, e, h1, h2, h3, _, _, h6⟩, m => by
    rw [e] at m
    rcases List.mem_cons.mp m with q | q
    · cases q
      exact ⟨us, h1, h2, h3⟩
    · exact nest_foot h6 q
theorem foot_ok {K : PySem.W.Frag} {B H F : Hp} {s : Slot} {y : Option V} {a : Addr} (h : SlotOk K B H F s y) (f : Foot H s y a) : ∃ u, H a = some u ∧ F a = none ∧ B a = none ∧ ∀ vs, u ≠ .tup vs := by
  cases s with
  | un => exact False.elim f
  | d x => exact False.elim f
  | tg x => exact False.elim f
  | ex c g => exact False.elim f
  | own xs =>
    obtain ⟨b, vs, e, h1, h2, h3, _⟩ := h
    have f' : y = some (.ref a) := f
    rw [e] at f'
    cases f'
    exact ⟨_, h1, h2, h3, fun _ z => nomatch z⟩
  | dct kvs =>
    obtain ⟨b, ks, e, h1, h2, h3, _⟩ := h
    have f' : y = some (.ref a) := f
    rw [e] at f'
    cases f'
    exact ⟨_, h1, h2, h3, fun _ z => nomatch z⟩
  | io b xs =>
    obtain ⟨vs, e, h1, h2, h3, _⟩ := h
    have f' : y = some (.ref a) := f
    rw [e] at f'
    cases f'
    exact ⟨_, h1, h2, h3, fun _ z => nomatch z⟩
  | nest xss =>
    obtain ⟨b, vs, e, h1, h2, h3, _, h5⟩ := h
    obtain ⟨p, ws, e1, e2, e3⟩ := f
    rw [e] at e1
    cases e1
    rw [h1] at e2
    cases e2
    rcases e3 with rfl | m
    · exact ⟨_, h1, h2, h3, fun _ z => nomatch z⟩
    · obtain ⟨us, z1, z2, z3⟩ := nest_foot h5 m
      exact ⟨_, z1, z2, z3, fun _ z => nomatch z⟩
theorem nest_frame {K : PySem.W.Frag} {B H F H' F' : Hp} (e : Same F F') : ∀ {xss : List (List D)} {vs : List V}, (∀ a, V.ref a ∈ vs → H' a = H a ∧ F' a = none) → NestOk K B H F xss vs → NestOk K B H' F' xss vs
  | [], _, _, h => h
  | xs :: xss, vs, k, ⟨b, us, r, q, h1, h2, h3, h4, h5, h6⟩ => ⟨b, us, r, q, by rw [(k b (by rw [q]; exact List.mem_cons_self)).1]; exact h1, (k b (by rw [q]; exact List.mem_cons_self)).2, h3, h4.mono e, h5, nest_frame e (fun a m => k a (by rw [q]; exact List.mem_cons_of_mem _ m)) h6⟩
/-- a slot stays what it is where its own lists are left alone -/
theorem SlotOk.frame {K : PySem.W.Frag} {B H F H' F' : Hp} (e : Same F F') : ∀ {s : Slot} {y : Option V}, (∀ a, Foot H s y a → H' a = H a ∧ F' a = none) → SlotOk K B H F s y → SlotOk K B H' F' s y
  | .un, _, _, h => trivial
  | .d x, _, _, ⟨v, q, h⟩ => ⟨v, q, h.mono e⟩
  | .tg xs, _, _, ⟨v, q, h⟩ => ⟨v, q, h.mono e⟩
  | .own xs, _, k, ⟨a, vs, q, h1, h2, h3, h4⟩ => ⟨a, vs, q, by rw [(k a q).1]; exact h1, (k a q).2, h3, h4.mono e⟩
  | .nest xss, _, k, ⟨a, vs, q, h1, h2, h3, h4, h5⟩ => ⟨a, vs, q, by rw [(k a ⟨a, vs, q, h1, .inl rfl⟩).1]; exact h1, (k a ⟨a, vs, q, h1, .inl rfl⟩).2, h3, h4, nest_frame e (fun b m => k b ⟨a, vs, q, h1, .inr m⟩) h5⟩
  | .dct kvs, _, k, ⟨a, ks, q, h1, h2, h3, h4⟩ => ⟨a, ks, q, by rw [(k a q).1]; exact h1, (k a q).2, h3, h4.mono e⟩
  | .io a xs, _, k, ⟨vs, q, h1, h2, h3, h4⟩ => ⟨vs, q, by rw [(k a q).1]; exact h1, (k a q).2, h3, h4.mono e⟩
  | .ex _ _, _, _, ⟨a, C, dx, q, h0, h1, h2⟩ => ⟨a, C, dx, q, h0, e _ _ h1, h2.mono e⟩
theorem Foot.back {K : PySem.W.Frag} {B H F H' : Hp} {s : Slot} {y : Option V} {b : Addr} (h : SlotOk K B H F s y) (k : ∀ a, Foot H s y a → H' a = H a) (f : Foot H' s y b) : Foot H s y b := by
  cases s with
  | nest xss =>
    obtain ⟨a, vs, e, h1, _⟩ := h
    obtain ⟨p, ws, e1, e2, e3⟩ := f
    rw [e] at e1
    cases e1
    rw [k _ ⟨_, _, e, h1, .inl rfl⟩] at e2
    exact ⟨_, _, e, e2, e3⟩
  | _ => exact f
/-- what a datum can be as a value -/
def okV : V → Prop
  | .byt _ => False
  | .flt _ => False
  | .ty _ => False
  | _ => True
/-- the lists with the same entries -/
def TagOk (K : PySem.W.Frag) (r : Env) (σ : L2.St) (F : Hp) : Prop := ∃ us : List V, (∀ u ∈ us, okV u) ∧ ∀ (i : Nat) (xs : List D), r[i]? = some (.tg xs) → ∃ a, σ[i]? = some (some (.ref a)) ∧ SqL K F a us
/-- the names of a def: F0, B the part and the heap at the entry -/
structure SR (K : PySem.W.Frag) (F0 B : Hp) (r : Env) (σ : L2.St) (H F : Hp) : Prop where
  gr : Gr F0 B F H
  len : r.length = σ.length
  ok : ∀ (i : Nat) (s : Slot), r[i]? = some s → ∃ y, σ[i]? = some y ∧ SlotOk K B H F s y
  sep : ∀ (i j : Nat) (s t : Slot) (y z : Option V) (a : Addr), i ≠ j → r[i]? = some s → r[j]? = some t → σ[i]? = some y → σ[j]? = some z → Foot H s y a → Foot H t z a → False
  tag : TagOk K r σ F
theorem TagOk.grow {K : PySem.W.Frag} {r : Env} {σ : L2.St} {F F' : Hp} (e : Same F F') : TagOk K r σ F → TagOk K r σ F'
  | ⟨us, hu, h⟩ => ⟨us, hu, fun i xs q => let ⟨a, h1, h2⟩ := h i xs q; ⟨a, h1, e.seq h2⟩⟩
theorem Gr.foot {K : PySem.W.Frag} {B H F H' F' : Hp} (g : Gr F H F' H') {s : Slot} {y : Option V} (h : SlotOk K B H F s y) : ∀ a, Foot H s y a → H' a = H a ∧ F' a = none := fun a f => by
  obtain ⟨us, h1, h2, _, h4⟩ := foot_ok h f
  exact ⟨by rw [g.h _ _ h1, h1], g.n a (by rw [h1]; simp) h2 fun vs z => h4 vs (Option.some.inj (h1.symm.trans z))⟩
theorem SlotOk.grow {K : PySem.W.Frag} {B H F H' F' : Hp} (g : Gr F H F' H') {s : Slot} {y : Option V} (h : SlotOk K B H F s y) : SlotOk K B H' F' s y := h.frame g.f (g.foot h)
theorem SR.slot {K : PySem.W.Frag} {F0 B : Hp} {r : Env} {σ : L2.St} {H F : Hp} (S : SR K F0 B r σ H F) {i : Nat} {s : Slot} {y : Option V} (hs : r[i]? = some s) (hy : σ[i]? = some y) : SlotOk K B H F s y := by
  obtain ⟨z, h1, h2⟩ := S.ok i s hs
  rw [hy] at h1
  cases h1
  exact h2
theorem SR.grow {K : PySem.W.Frag} {F0 B : Hp} {r : Env} {σ : L2.St} {H F H' F' : Hp} (S : SR K F0 B r σ H F) (g : Gr F H F' H') : SR K F0 B r σ H' F' :=
  ⟨S.gr.trans g, S.len, fun i s e => let ⟨y, h1, h2⟩ := S.ok i s e; ⟨y, h1, h2.grow g⟩,
    fun i j s t y z a hij e1 e2 e3 e4 f1 f2 => S.sep i j s t y z a hij e1 e2 e3 e4 (f1.back (S.slot e1 e3) fun b f => (g.foot (S.slot e1 e3) b f).1) (f2.back (S.slot e2 e4) fun b f => (g.foot (S.slot e2 e4) b f).1), S.tag.grow g.f⟩
theorem SR.sub {K : PySem.W.Frag} {F0 B : Hp} {r : Env} {σ : L2.St} {H F : Hp} (S : SR K F0 B r σ H F) : Same F H := S.gr.i
theorem set_get {α : Type} {l : List α} {i j : Nat} {x y : α} (h : (l.set i x)[j]? = some y) : (j = i ∧ y = x) ∨ (j ≠ i ∧ l[j]? = some y) := by
  rw [List.getElem?_set] at h
  by_cases c : i = j
  · rw [if_pos c] at h
    split at h
    · exact .inl ⟨c.symm, (Option.some.inj h).symm⟩
    · cases h
  · rw [if_neg c] at h
    exact .inr ⟨fun z => c z.symm, h⟩
theorem TagOk.set {K : PySem.W.Frag} {r : Env} {σ : L2.St} {F : Hp} {i : Nat} {s : Slot} {y : Option V} (hs : ∀ xs, s ≠ .tg xs) : TagOk K r σ F → TagOk K (r.set i s) (σ.set i y) F
  | ⟨us, hu, h⟩ => ⟨us, hu, fun j xs q => by
    rcases set_get q with ⟨_, z⟩ | ⟨c, q⟩
    · exact absurd z.symm (hs xs)
    · rw [List.getElem?_set_ne (Ne.symm c)]
      exact h j xs q⟩
theorem TagOk.setE {K : PySem.W.Frag} {r : Env} {σ : L2.St} {F : Hp} {i : Nat} {s : Slot} (hs : ∀ xs, s ≠ .tg xs) : TagOk K r σ F → TagOk K (r.set i s) σ F
  | ⟨us, hu, h⟩ => ⟨us, hu, fun j xs q => by
    rcases set_get q with ⟨_, z⟩ | ⟨c, q⟩
    · exact absurd z.symm (hs xs)
    · exact h j xs q⟩
theorem get_lt {α : Type} {l : List α} {i : Nat} {y : α} (h : l[i]? = some y) : i < l.length := (List.getElem?_eq_some_iff.mp h).1
/-- a slot gets another value, with new lists at most -/
theorem SR.put {K : PySem.W.Frag} {F0 B : Hp} {r : Env} {σ : L2.St} {H F H1 F1 : Hp} (S : SR K F0 B r σ H F) (g : Gr F H F1 H1) {i : Nat} {s : Slot} {y : Option V} (h : SlotOk K B H1 F1 s y) (hf : ∀ a, Foot H1 s y a → H a = none) (hs : ∀ xs, s ≠ .tg xs) : SR K F0 B (r.set i s) (σ.set i y) H1 F1 := by
  have S1 := S.grow g
  have nod : ∀ (j : Nat) (t : Slot) (z : Option V) (a : Addr), r[j]? = some t → σ[j]? = some z → Foot H1 s y a → Foot H1 t z a → False := fun j t z a e1 e2 f1 f2 => by
    obtain ⟨us, h1, _⟩ := foot_ok (S.slot e1 e2) (f2.back (S.slot e1 e2) fun b f => (g.foot (S.slot e1 e2) b f).1)
    rw [hf a f1] at h1
    cases h1
  refine ⟨S1.gr, by rw [List.length_set, List.length_set]; exact S.len, fun j t e => ?_, fun j k t u z w a hjk e1 e2 e3 e4 f1 f2 => ?_, S1.tag.set hs⟩
  · rcases set_get e with ⟨rfl, rfl⟩ | ⟨c, e⟩
    · have hl := get_lt e
      rw [List.length_set, S.len] at hl
      exact ⟨y, by rw [List.getElem?_set_self hl], h⟩
    · obtain ⟨z, h1, h2⟩ := S1.ok j t e
      exact ⟨z, by rw [List.getElem?_set_ne (Ne.symm c)]; exact h1, h2⟩
  · rcases set_get e1 with ⟨c1, q1⟩ | ⟨c1, g1⟩
    · rcases set_get e3 with ⟨_, q3⟩ | ⟨c, _⟩
      · rcases set_get e2 with ⟨c2, _⟩ | ⟨c2, g2⟩
        · exact hjk (c1.trans c2.symm)
        · rw [List.getElem?_set_ne (Ne.symm c2)] at e4
          exact nod k u w a g2 e4 (by rw [← q1, ← q3]; exact f1) f2
      · exact c c1
    · rw [List.getElem?_set_ne (Ne.symm c1)] at e3
      rcases set_get e2 with ⟨c2, q2⟩ | ⟨c2, g2⟩
      · rcases set_get e4 with ⟨_, q4⟩ | ⟨c, _⟩
        · exact nod j t z a g1 e3 (by rw [← q2, ← q4]; exact f2) f1
        · exact c c2
      · rw [List.getElem?_set_ne (Ne.symm c2)] at e4
        exact S1.sep j k t u z w a hjk g1 g2 e3 e4 f1 f2
/-- a datum is stored -/
theorem SR.set {K : PySem.W.Frag} {F0 B : Hp} {r : Env} {σ : L2.St} {H F : Hp} (S : SR K F0 B r σ H F) {i : Nat} {x : D} {v : V} (h : Rep K F x v) : SR K F0 B (r.set i (.d x)) (σ.set i (some v)) H F :=
  S.put (Gr.refl S.gr.i) (s := .d x) ⟨v, rfl, h⟩ (fun _ f => False.elim f) fun _ z => nomatch z
/-- a slot is forgotten -/
theorem SR.unset {K : PySem.W.Frag} {F0 B : Hp} {r : Env} {σ : L2.St} {H F : Hp} (S : SR K F0 B r σ H F) {i : Nat} {y0 : Option V} : SR K F0 B (r.set i .un) (σ.set i y0) H F :=
  S.put (Gr.refl S.gr.i) (s := .un) trivial (fun _ f => False.elim f) fun _ z => nomatch z
/-- a new own list is stored -/
theorem SR.setOwn {K : PySem.W.Frag} {F0 B : Hp} {r : Env} {σ : L2.St} {H F : Hp} (S : SR K F0 B r σ H F) {i : Nat} {p : Addr} {xs : List D} {vs : List V} (hp : H p = none) (h : RepL K F xs vs) :
    SR K F0 B (r.set i (.own xs)) (σ.set i (some (.ref p))) (upd H p (.lst vs)) F :=
  S.put (Gr.own S.gr.i hp (.lst vs)) (s := .own xs) ⟨p, vs, rfl, upd_same, S.gr.i.free hp, S.gr.h.free hp, h⟩ (fun a f => by
    have f' : some (V.ref p) = some (V.ref a) := f
    cases f'
    exact hp) fun _ z => nomatch z
/-- own lists become a datum -/
theorem SR.frzS {K : PySem.W.Frag} {F0 B : Hp} {r : Env} {σ : L2.St} {H F F' : Hp} (S : SR K F0 B r σ H F) {i : Nat} {s : Slot} {y : Option V} {x : D} (hi : r[i]? = some s) (hy : σ[i]? = some y) (sf : Same F F') (si : Same F' H) (hn : ∀ a, F' a ≠ none → F a ≠ none ∨ Foot H s y a) (h : SlotOk K B H F' (.d x) y) :
    SR K F0 B (r.set i (.d x)) σ H F' := by
  refine ⟨⟨S.gr.f.trans sf, S.gr.h, si, fun b hb q t => Classical.byContradiction fun c => ?_⟩, by rw [List.length_set]; exact S.len, fun j t e => ?_, fun j k t u z w a hjk e1 e2 e3 e4 f1 f2 => ?_, (S.tag.grow sf).setE fun _ z => nomatch z⟩
  · rcases hn b c with d | d
    · exact d (S.gr.n b hb q t)
    · obtain ⟨_, _, _, h3, _⟩ := foot_ok (S.slot hi hy) d
      exact hb h3
  · rcases set_get e with ⟨rfl, rfl⟩ | ⟨c, e⟩
    · exact ⟨y, hy, h⟩
    · obtain ⟨z, g1, g2⟩ := S.ok j t e
      refine ⟨z, g1, g2.frame sf fun a f => ⟨rfl, Classical.byContradiction fun d => ?_⟩⟩
      rcases hn a d with d | d
      · obtain ⟨_, _, h2, _⟩ := foot_ok g2 f
        exact d h2
      · exact S.sep j i t s z y a c e hi g1 hy f d
  · rcases set_get e1 with ⟨_, q1⟩ | ⟨c1, g1⟩
    · rw [q1] at f1; exact f1
    rcases set_get e2 with ⟨_, q2⟩ | ⟨c2, g2⟩
    · rw [q2] at f2; exact f2
    exact S.sep j k t u z w a hjk g1 g2 e3 e4 f1 f2
/-- an own list becomes a datum -/
theorem SR.freeze {K : PySem.W.Frag} {F0 B : Hp} {r : Env} {σ : L2.St} {H F : Hp} (S : SR K F0 B r σ H F) {i : Nat} {xs : List D} (hi : r[i]? = some (.own xs)) :
    ∃ F', Same F F' ∧ SR K F0 B (r.set i (.d (.list xs))) σ H F' := by
  obtain ⟨y, h1, a, vs, rfl, h3, h4, h5, h6⟩ := S.ok i _ hi
  have sf : Same F (upd F a (.lst vs)) := fun b x q => by rw [upd_ne (ne_of_none q h4)]; exact q
  refine ⟨upd F a (.lst vs), sf, S.frzS hi h1 sf (fun b x q => ?_) (fun b q => ?_) ⟨.ref a, rfl, a, vs, rfl, .inl (.inl upd_same), h6.mono sf⟩⟩
  · by_cases c : b = a
    · subst c; rw [upd_same] at q; rw [h3]; exact q
    · rw [upd_ne c] at q; exact S.gr.i b x q
  · by_cases c : b = a
    · subst c; exact .inr rfl
    · rw [upd_ne c] at q; exact .inl q
/-- the own lists of a slot are changed -/
theorem SR.wr {K : PySem.W.Frag} {F0 B : Hp} {r : Env} {σ : L2.St} {H F H' : Hp} (S : SR K F0 B r σ H F) {i : Nat} {s s' : Slot} {y : Option V} (hi : r[i]? = some s) (hy : σ[i]? = some y) (hk : ∀ b, ¬ Foot H s y b → H' b = H b) (h : SlotOk K B H' F s' y) (hf : ∀ b, Foot H' s' y b → Foot H s y b) (hs : ∀ xs, s' ≠ .tg xs) :
    SR K F0 B (r.set i s') σ H' F := by
  have ho := S.slot hi hy
  have fr : ∀ {j : Nat} {t : Slot} {z : Option V}, j ≠ i → r[j]? = some t → σ[j]? = some z → ∀ a, Foot H t z a → H' a = H a := fun c e1 e2 a f => hk a fun d => S.sep _ _ _ _ _ _ a c e1 hi e2 hy f d
  refine ⟨⟨S.gr.f, fun b x q => ?_, fun b x q => ?_, S.gr.n⟩, by rw [List.length_set]; exact S.len, fun j t e => ?_, fun j k t u z w a hjk e1 e2 e3 e4 f1 f2 => ?_, S.tag.setE hs⟩
  · rw [hk b fun d => ?_]
    · exact S.gr.h b x q
    · obtain ⟨_, _, _, h3, _⟩ := foot_ok ho d
      rw [h3] at q; cases q
  · rw [hk b fun d => ?_]
    · exact S.gr.i b x q
    · obtain ⟨_, _, h3, _⟩ := foot_ok ho d
      rw [h3] at q; cases q
  · rcases set_get e with ⟨rfl, rfl⟩ | ⟨c, e⟩
    · exact ⟨y, hy, h⟩
    · obtain ⟨z, g1, g2⟩ := S.ok j t e
      exact ⟨z, g1, g2.frame (Same.refl _) fun a f => ⟨fr c e g1 a f, by obtain ⟨_, _, h3, _⟩ := foot_ok g2 f; exact h3⟩⟩
  · have b1 : ∃ t', r[j]? = some t' ∧ Foot H t' z a := by
      rcases set_get e1 with ⟨c, q1⟩ | ⟨c, g1⟩
      · rw [c] at e3 ⊢
        rw [hy] at e3
        cases e3
        rw [q1] at f1
        exact ⟨s, hi, hf a f1⟩
      · exact ⟨t, g1, f1.back (S.slot g1 e3) (fr c g1 e3)⟩
    have b2 : ∃ u', r[k]? = some u' ∧ Foot H u' w a := by
      rcases set_get e2 with ⟨c, q2⟩ | ⟨c, g2⟩
      · rw [c] at e4 ⊢
        rw [hy] at e4
        cases e4
        rw [q2] at f2
        exact ⟨s, hi, hf a f2⟩
      · exact ⟨u, g2, f2.back (S.slot g2 e4) (fr c g2 e4)⟩
    obtain ⟨t', e5, f5⟩ := b1
    obtain ⟨u', e6, f6⟩ := b2
    exact S.sep j k t' u' z w a hjk e5 e6 e3 e4 f5 f6
/-- an own list is changed -/
theorem SR.write {K : PySem.W.Frag} {F0 B : Hp} {r : Env} {σ : L2.St} {H F : Hp} (S : SR K F0 B r σ H F) {i : Nat} {xs ys : List D} {a : Addr} {us : List V} (hi : r[i]? = some (.own xs)) (ha : σ[i]? = some (some (.ref a))) (h : RepL K F ys us) :
    SR K F0 B (r.set i (.own ys)) σ (upd H a (.lst us)) F := by
  obtain ⟨a', vs, e, h3, h4, h5, h6⟩ := S.slot hi ha
  cases e
  exact S.wr hi ha (fun b c => upd_ne fun z => c (by subst z; rfl)) ⟨a, us, rfl, upd_same, h4, h5, h⟩ (fun b f => f) fun _ z => nomatch z
/-- a list that was passed is changed -/
theorem SR.writeIo {K : PySem.W.Frag} {F0 B : Hp} {r : Env} {σ : L2.St} {H F : Hp} (S : SR K F0 B r σ H F) {i : Nat} {xs ys : List D} {b a : Addr} {us : List V} (hi : r[i]? = some (.io b xs)) (ha : σ[i]? = some (some (.ref a))) (h : RepL K F ys us) :
    SR K F0 B (r.set i (.io b ys)) σ (upd H a (.lst us)) F := by
  obtain ⟨vs, e, h3, h4, h5, h6⟩ := S.slot hi ha
  cases e
  exact S.wr hi ha (fun b c => upd_ne fun z => c (by subst z; rfl)) ⟨us, rfl, upd_same, h4, h5, h⟩ (fun b f => f) fun _ z => nomatch z
/-- new lists of new lists are stored -/
theorem SR.setNest {K : PySem.W.Frag} {F0 B : Hp} {r : Env} {σ : L2.St} {H F H1 F1 : Hp} (S : SR K F0 B r σ H F) (g : Gr F H F1 H1) {i : Nat} {p : Addr} {xss : List (List D)} {vs : List V} (hp : H p = none) (h1 : H1 p = some (.lst vs)) (hv : V.ref p ∉ vs) (hn : ∀ a, V.ref a ∈ vs → H a = none) (f1 : F1 p = none) (h : NestOk K B H1 F1 xss vs) :
    SR K F0 B (r.set i (.nest xss)) (σ.set i (some (.ref p))) H1 F1 :=
  S.put g (s := .nest xss) ⟨p, vs, rfl, h1, f1, S.gr.h.free hp, hv, h⟩ (fun a f => by
    obtain ⟨q, ws, e1, e2, e3⟩ := f
    cases e1
    rw [h1] at e2
    cases e2
    rcases e3 with rfl | m
    · exact hp
    · exact hn a m) fun _ z => nomatch z
theorem nest_rep {K : PySem.W.Frag} {B H F : Hp} : ∀ {xss : List (List D)} {vs : List V}, NestOk K B H F xss vs → ∃ F', Same F F' ∧ (Same F H → Same F' H) ∧ (∀ a, F' a ≠ none → F a ≠ none ∨ V.ref a ∈ vs) ∧ RepL K F' (xss.map PyData.list) vs
  | [], vs, h => ⟨F, Same.refl _, fun e => e, fun _ q => .inl q, h⟩
  | xs :: xss, vs, ⟨b, us, r, q, h1, h2, h3, h4, h5, h6⟩ => by
    obtain ⟨F', e1, e2, e3, e4⟩ := nest_rep h6
    have fb : F' b = none := Classical.byContradiction fun c => by
      rcases e3 b c with d | d
      · exact d h2
      · exact h5 d
    have sf : Same F' (upd F' b (.lst us)) := fun a x q => by rw [upd_ne (ne_of_none q fb)]; exact q
    refine ⟨upd F' b (.lst us), e1.trans sf, fun e a x q => ?_, fun a c => ?_, _, r, q, ⟨b, us, rfl, .inl (.inl upd_same), (h4.mono e1).mono sf⟩, e4.mono sf⟩
    · by_cases c : a = b
      · subst c; rw [upd_same] at q; rw [h1]; exact q
      · rw [upd_ne c] at q; exact e2 e a x q
    · by_cases d : a = b
      · subst d; exact .inr (by rw [q]; exact List.mem_cons_self)
      · rw [upd_ne d] at c
        rcases e3 a c with d | d
        · exact .inl d
        · exact .inr (by rw [q]; exact List.mem_cons_of_mem _ d)
theorem SR.freezeN {K : PySem.W.Frag} {F0 B : Hp} {r : Env} {σ : L2.St} {H F : Hp} (S : SR K F0 B r σ H F) {i : Nat} {xss : List (List D)} (hi : r[i]? = some (.nest xss)) :
    ∃ F', Same F F' ∧ SR K F0 B (r.set i (.d (.list (xss.map PyData.list)))) σ H F' := by
  obtain ⟨y, h1, a, vs, rfl, h3, h4, h5, h6, h7⟩ := S.ok i _ hi
  obtain ⟨F', e1, e2, e3, e4⟩ := nest_rep h7
  have fa : F' a = none := Classical.byContradiction fun c => by
    rcases e3 a c with d | d
    · exact d h4
    · exact h6 d
  have sf : Same F' (upd F' a (.lst vs)) := fun b x q => by rw [upd_ne (ne_of_none q fa)]; exact q
  refine ⟨upd F' a (.lst vs), e1.trans sf, S.frzS hi h1 (e1.trans sf) (fun b x q => ?_) (fun b q => ?_) ⟨.ref a, rfl, a, vs, rfl, .inl (.inl upd_same), e4.mono sf⟩⟩
  · by_cases c : b = a
    · subst c; rw [upd_same] at q; rw [h3]; exact q
    · rw [upd_ne c] at q; exact e2 S.gr.i b x q
  · by_cases c : b = a
    · subst c; exact .inr ⟨b, vs, rfl, h3, .inl rfl⟩
    · rw [upd_ne c] at q
      rcases e3 b q with d | d
      · exact .inl d
      · exact .inr ⟨a, vs, rfl, h3, .inr d⟩
theorem nest_at {K : PySem.W.Frag} {B H F : Hp} : ∀ {xss : List (List D)} {vs : List V} {n : Nat} {xs : List D}, NestOk K B H F xss vs → xss[n]? = some xs → ∃ b us, vs[n]? = some (.ref b) ∧ H b = some (.lst us) ∧ RepL K F xs us
  | [], _, _, _, _, e => by cases e
  | xs :: xss, vs, 0, ys, ⟨b, us, r, q, h1, _, _, h4, _⟩, e => by
    have e' : xs = ys := by simpa using e
    subst e'
    exact ⟨b, us, by rw [q]; rfl, h1, h4⟩
  | _ :: xss, vs, n + 1, ys, ⟨b, us, r, q, _, _, _, _, _, h6⟩, e => by
    obtain ⟨b', us', e1, e2⟩ := nest_at (n := n) h6 (by simpa using e)
    exact ⟨b', us', by rw [q]; simpa using e1, e2⟩
theorem nest_set {K : PySem.W.Frag} {B H F : Hp} {ys : List D} {us : List V} (h : RepL K F ys us) : ∀ {xss : List (List D)} {vs : List V} {n : Nat} {b : Addr}, NestOk K B H F xss vs → vs[n]? = some (.ref b) → NestOk K B (upd H b (.lst us)) F (xss.set n ys) vs
  | [], vs, n, b, q, e => by
    have q' : vs = [] := q
    rw [q'] at e; cases e
  | xs :: xss, vs, 0, b, ⟨c, ws, r, q, h1, h2, h3, h4, h5, h6⟩, e => by
    rw [q] at e
    have e' : c = b := by simpa using e
    subst e'
    exact ⟨c, us, r, q, upd_same, h2, h3, h, h5, nest_frame (Same.refl _) (fun a m => ⟨upd_ne fun z => h5 (by rw [← z]; exact m), by obtain ⟨_, _, z, _⟩ := nest_foot h6 m; exact z⟩) h6⟩
  | xs :: xss, vs, n + 1, b, ⟨c, ws, r, q, h1, h2, h3, h4, h5, h6⟩, e => by
    rw [q] at e
    have e' : r[n]? = some (.ref b) := by simpa using e
    have mb : V.ref b ∈ r := List.mem_of_getElem? e'
    exact ⟨c, ws, r, q, by rw [upd_ne fun z => h5 (by rw [z]; exact mb)]; exact h1, h2, h3, h4, h5, nest_set h h6 e'⟩
theorem nest_len {K : PySem.W.Frag} {B H F : Hp} : ∀ {xss : List (List D)} {vs : List V}, NestOk K B H F xss vs → vs.length = xss.length
  | [], vs, q => by
    have q' : vs = [] := q
    rw [q']; rfl
  | xs :: xss, vs, ⟨c, ws, r, q, h1, h2, h3, h4, h5, h6⟩ => by rw [q, List.length_cons, List.length_cons, nest_len h6]
/-- a row of own rows is changed -/
theorem SR.writeN {K : PySem.W.Frag} {F0 B : Hp} {r : Env} {σ : L2.St} {H F : Hp} (S : SR K F0 B r σ H F) {i n : Nat} {xss : List (List D)} {ys : List D} {a b : Addr} {vs us : List V} (hi : r[i]? = some (.nest xss)) (ha : σ[i]? = some (some (.ref a))) (hv : H a = some (.lst vs)) (hn : vs[n]? = some (.ref b)) (h : RepL K F ys us) :
    SR K F0 B (r.set i (.nest (xss.set n ys))) σ (upd H b (.lst us)) F := by
  obtain ⟨a', vs', e, h3, h4, h5, h6, h7⟩ := S.slot hi ha
  cases e
  rw [hv] at h3
  cases h3
  have mb : V.ref b ∈ vs := List.mem_of_getElem? hn
  have ab : a ≠ b := fun z => h6 (by rw [z]; exact mb)
  have ha' : upd H b (.lst us) a = some (.lst vs) := by rw [upd_ne ab]; exact hv
  refine S.wr hi ha (fun c d => upd_ne fun z => d ?_) ⟨a, vs, rfl, ha', h4, h5, h6, nest_set h h7 hn⟩ (fun c f => ?_) fun _ z => nomatch z
  · subst z; exact ⟨a, vs, rfl, hv, .inr mb⟩
  · obtain ⟨p, ws, e1, e2, e3⟩ := f
    cases e1
    rw [ha'] at e2
    cases e2
    exact ⟨a, vs, rfl, hv, e3⟩
end DL
/-! Readings by data; expressions. -/
namespace DL
open PySem PySem.Spec PyProof.Rows L2

abbrev EC := String → Addr
def ErrOk (K : PySem.W.Frag) (F H : Hp) (e : Err) (dx : Option Addr) : Prop := match e.fld with
  | none => dx = none
  | some (f, x) => ∃ dd v, dx = some dd ∧ F dd = some (.xd [(f, v)]) ∧ Rep K F x v
/-- what is wanted of x, reckoned at the slots σ over F and H -/
def Thn {α : Type} (K : PySem.W.Frag) (ec : EC) (W : WX) (x : R α) (σ : L2.St) (F H : Hp) (P : α → Hp → Hp → Prop) : Prop := match x with
  | none => False
  | some (.error e) => ∀ dx F' H', Gr F H F' H' → ErrOk K F' H' e dx → W (.ref (ec e.cls)) dx σ H'
  | some (.ok a) => ∀ F' H', Gr F H F' H' → P a F' H'
section
variable {α β : Type} {K : PySem.W.Frag} {ec : EC} {W : WX} {σ : L2.St} {F H F1 H1 : Hp} {P P' : α → Hp → Hp → Prop}
theorem Thn.grow {x : R α} (g : Gr F H F1 H1) (h : Thn K ec W x σ F H P) : Thn K ec W x σ F1 H1 P := by
  match x with
  | none => exact h
  | some (.error e) => exact fun dx F' H' g' => h dx F' H' (g.trans g')
  | some (.ok a) => exact fun F' H' g' => h F' H' (g.trans g')
theorem Thn.imp {x : R α} (h : Thn K ec W x σ F H P) (f : ∀ a F' H', x = ok a → Gr F H F' H' → P a F' H' → P' a F' H') : Thn K ec W x σ F H P' := by
  match x with
  | none => exact h
  | some (.error e) => exact h
  | some (.ok a) => exact fun F' H' g' => f a F' H' rfl g' (h F' H' g')
theorem Thn.bind {x : R β} {f : β → R α} (h : Thn K ec W (rb x f) σ F H P) : Thn K ec W x σ F H (fun a F' H' => Thn K ec W (f a) σ F' H' P) := by
  match x with
  | none => exact h
  | some (.error e) => exact h
  | some (.ok a) => exact fun F' H' g' => Thn.grow g' (show Thn K ec W (f a) σ F H P from h)
theorem Thn.ok {a : α} (e : Same F H) (h : Thn K ec W (DL.ok a) σ F H P) : P a F H := h F H (Gr.refl e)
theorem Thn.po {x : Option α} (h : Thn K ec W (po x) σ F H P) : ∃ a, x = some a ∧ ∀ F' H', Gr F H F' H' → P a F' H' := by
  match x with
  | none => exact False.elim h
  | some a => exact ⟨a, rfl, h⟩
end

/-- a datum, an own list too; a datum; a test; a new list; arguments -/
def tX (K : PySem.W.Frag) (ec : EC) (W : WX) (a : EX) : TE := fun σ H Q => ∃ r F F0 B, SR K F0 B r σ H F ∧ Thn K ec W (a r) σ F H fun d F' H' => ∀ v, RepX K F' H' d v → Q v H'
def tD (K : PySem.W.Frag) (ec : EC) (W : WX) (a : EX) : TE := fun σ H Q => ∃ r F F0 B, SR K F0 B r σ H F ∧ Thn K ec W (a r) σ F H fun d F' H' => ∀ v, Rep K F' d v → Q v H'
def tT (K : PySem.W.Frag) (ec : EC) (W : WX) (a : EB) : TT := fun σ H Q => ∃ r F F0 B, SR K F0 B r σ H F ∧ Thn K ec W (a r) σ F H fun b _ H' => Q b H'
def tL (K : PySem.W.Frag) (ec : EC) (W : WX) (a : EL) : TE := fun σ H Q => ∃ r F F0 B, SR K F0 B r σ H F ∧ Thn K ec W (a r) σ F H fun xs F' H' => ∀ p vs, H' p = none → RepL K F' xs vs → Q (.ref p) (upd H' p (.lst vs))
def tAs (K : PySem.W.Frag) (ec : EC) (W : WX) (a : Env → R (List D)) : TA := fun σ H Q => ∃ r F F0 B, SR K F0 B r σ H F ∧ Thn K ec W (a r) σ F H fun ds F' H' => ∀ vs, RepL K F' ds vs → Q vs H'
/-- the same for what is only read -/
def tAsX (K : PySem.W.Frag) (ec : EC) (W : WX) (a : EX) : TA := fun σ H Q => ∃ r F F0 B, SR K F0 B r σ H F ∧ Thn K ec W (a r) σ F H fun d F' H' => ∀ v, RepX K F' H' d v → Q [v] H'

theorem peImp {X : Cx} {e : Expr} {t t' : TE} (h : PE X e t) (f : ∀ σ H Q, t' σ H Q → t σ H Q) : PE X e t' := ⟨fun pins s σ H Q I q => h.run pins s σ H Q I (f σ H Q q)⟩
theorem ptImp {X : Cx} {e : Expr} {t t' : TT} (h : PT X e t) (f : ∀ σ H Q, t' σ H Q → t σ H Q) : PT X e t' := ⟨fun pins s σ H Q I q => h.run pins s σ H Q I (f σ H Q q)⟩
theorem paImp {X : Cx} {e : List Expr} {t t' : TA} (h : PA X e t) (f : ∀ σ H Q, t' σ H Q → t σ H Q) : PA X e t' := ⟨fun pos pins s σ H Q I q => h.run pos pins s σ H Q I (f σ H Q q)⟩

abbrev DX (X : Cx) (ec : EC) (W : WX) (e : Expr) (a : EX) : Prop := PE X e (tX X.K ec W a)
abbrev DE (X : Cx) (ec : EC) (W : WX) (e : Expr) (a : EX) : Prop := PE X e (tD X.K ec W a)
abbrev DB (X : Cx) (ec : EC) (W : WX) (e : Expr) (a : EB) : Prop := PE X e (tD X.K ec W (vB a))
abbrev DT (X : Cx) (ec : EC) (W : WX) (e : Expr) (a : EB) : Prop := PT X e (tT X.K ec W a)
abbrev DLi (X : Cx) (ec : EC) (W : WX) (e : Expr) (a : EL) : Prop := PE X e (tL X.K ec W a)
abbrev DA (X : Cx) (ec : EC) (W : WX) (es : List Expr) (a : Env → R (List D)) : Prop := PA X es (tAs X.K ec W a)

section
variable {X : Cx} {ec : EC} {W : WX} {e b : Expr} {es : List Expr} {pos : Pos} {φ ψ : EX}
/-- a datum may be read -/
theorem DE.x (h : DE X ec W e φ) : DX X ec W e φ := peImp h fun σ H Q ⟨r, F, F0, B, S, q⟩ =>
  ⟨r, F, F0, B, S, q.imp fun d F' H' _ g k v rv => k v (rv.x g.i)⟩
/-- a new list is a datum at once -/
theorem DLi.d {a : EL} (h : DLi X ec W e a) : DE X ec W e (vL a) := peImp h fun σ H Q ⟨r, F, F0, B, S, q⟩ =>
  ⟨r, F, F0, B, S, (Thn.bind (f := fun xs => ok (PyData.list xs)) q).imp fun xs F' H' _ g k p vs hp hv => by
    have g' := Gr.new g.i hp (.lst vs)
    exact k _ _ g' (.ref p) ⟨p, vs, rfl, .inl (.inl upd_same), hv.mono g'.f⟩⟩
/-! ### names, constants -/
theorem de_var (i : Nat) {x : Str} (hN : X.N[i]? = some x := by rfl) (hv : Vis X.env.scope x := by first | exact Or.inl rfl | exact Or.inr (Or.inl rfl) | exact Or.inr (Or.inr rfl)) (hd : (x == ("__debug__" : Str)) = false := by decide)
    (hcd : (x == ("__classdict__" : Str)) = false := by decide) : DE X ec W (.Name x pos) (vVar i) := peImp (pe_var hN hv hd hcd) fun σ H Q ⟨r, F, F0, B, S, q⟩ => by
  unfold vVar at q
  split at q
  · rename_i x' hx
    obtain ⟨y, h1, v, rfl, h2⟩ := S.ok i _ hx
    exact ⟨v, h1, q.ok S.sub v h2⟩
  · rename_i x' hx
    obtain ⟨y, h1, v, rfl, h2⟩ := S.ok i _ hx
    exact ⟨v, h1, q.ok S.sub v h2⟩
  · exact False.elim q
theorem dx_var (i : Nat) {x : Str} (hN : X.N[i]? = some x := by rfl) (hv : Vis X.env.scope x := by first | exact Or.inl rfl | exact Or.inr (Or.inl rfl) | exact Or.inr (Or.inr rfl)) (hd : (x == ("__debug__" : Str)) = false := by decide)
    (hcd : (x == ("__classdict__" : Str)) = false := by decide) : DX X ec W (.Name x pos) (vRd i) := peImp (pe_var hN hv hd hcd) fun σ H Q ⟨r, F, F0, B, S, q⟩ => by
  unfold vRd at q
  split at q
  · rename_i x' hx
    obtain ⟨y, h1, v, rfl, h2⟩ := S.ok i _ hx
    exact ⟨v, h1, q.ok S.sub v (h2.x S.sub)⟩
  · rename_i xs hx
    obtain ⟨y, h1, a, vs, rfl, h2, h3, h4, h5⟩ := S.ok i _ hx
    exact ⟨_, h1, q.ok S.sub _ ⟨a, vs, rfl, .inl (.inl h2), h5⟩⟩
  · rename_i x' hx
    obtain ⟨y, h1, v, rfl, h2⟩ := S.ok i _ hx
    exact ⟨v, h1, q.ok S.sub v (h2.x S.sub)⟩
  · rename_i b xs hx
    obtain ⟨y, h1, vs, rfl, h2, h3, h4, h5⟩ := S.ok i _ hx
    exact ⟨_, h1, q.ok S.sub _ ⟨b, vs, rfl, .inl (.inl h2), h5⟩⟩
  · exact False.elim q
theorem de_int {i j} : DE X ec W (.Constant (.int i) j pos) (vC (.int i)) := peImp pe_int fun σ H Q ⟨r, F, F0, B, S, q⟩ => Thn.ok S.sub (a := PyData.int i) q _ rfl
theorem de_bl {b j} : DE X ec W (.Constant (.bool b) j pos) (vC (.bool b)) := peImp pe_bl fun σ H Q ⟨r, F, F0, B, S, q⟩ => Thn.ok S.sub (a := PyData.bool b) q _ rfl
theorem de_non {j} : DE X ec W (.Constant .none j pos) (vC .none) := peImp pe_non fun σ H Q ⟨r, F, F0, B, S, q⟩ => Thn.ok S.sub (a := PyData.none) q _ rfl
theorem de_str {x j} : DE X ec W (.Constant (.str x) j pos) (vC (.str x)) := peImp pe_str fun σ H Q ⟨r, F, F0, B, S, q⟩ => Thn.ok S.sub (a := PyData.str x) q _ rfl
/-- a module's constant that is a scalar -/
def scalD : V → Option D
  | .non => some .none
  | .bl b => some (.bool b)
  | .int i => some (.int i)
  | .str x => some (.str x)
  | _ => none
theorem scalD_rep {K : PySem.W.Frag} {F : Hp} {v : V} {d : D} (h : scalD v = some d) : Rep K F d v := by
  cases v <;> simp only [scalD] at h <;> first | cases h <;> rfl | cases h
theorem de_glob {x : Str} {v : V} {u : Value} {d : D} (hg : Gl X x) (hm : X.mg x = some u) (r : RelV v u) (hd : scalD v = some d) (hdb : (x == ("__debug__" : Str)) = false := by decide) : DE X ec W (.Name x pos) (vC d) :=
  peImp (pe_glob hg hm r hdb) fun σ H Q ⟨r, F, F0, B, S, q⟩ => Thn.ok S.sub (a := d) q _ (scalD_rep hd)
/-! ### operators -/
def Op1 (K : PySem.W.Frag) (f : D → Option D) (t : V → Hp → VK → Prop) : Prop := ∀ (x d : D) (F H : Hp) (v : V) (Q : VK), f x = some d → Same F H → RepX K F H x v →
  (∀ w F' H', Gr F H F' H' → Rep K F' d w → Q w H') → t v H Q
def Op2 (K : PySem.W.Frag) (f : D → D → Option D) (t : R2) : Prop := ∀ (x y d : D) (F H : Hp) (v u : V) (Q : VK), f x y = some d → Same F H → RepX K F H x v → RepX K F H y u →
  (∀ w F' H', Gr F H F' H' → Rep K F' d w → Q w H') → t v u H Q
def Op2B (K : PySem.W.Frag) (f : D → D → Option Bool) (t : R2) : Prop := ∀ (x y : D) (c : Bool) (F H : Hp) (v u : V) (Q : VK), f x y = some c → Same F H → RepX K F H x v → RepX K F H y u →
  Q (.bl c) H → t v u H Q
def Op2L (K : PySem.W.Frag) (f : D → D → Option (List D)) (t : R2) : Prop := ∀ (x y : D) (xs : List D) (F H : Hp) (v u : V) (Q : VK), f x y = some xs → Same F H → RepX K F H x v → RepX K F H y u →
  (∀ p vs, H p = none → RepL K F xs vs → Q (.ref p) (upd H p (.lst vs))) → t v u H Q
theorem use2 {K : PySem.W.Frag} {t : R2} {f : D → D → Option D} (hs : Op2 K f t) {σ : L2.St} {H : Hp} {Q : VK} (h : tD K ec W (v2 f φ ψ) σ H Q) : tOp t (tX K ec W φ) (tX K ec W ψ) σ H Q := by
  obtain ⟨r, F, F0, B, S, q⟩ := h
  refine ⟨r, F, F0, B, S, (Thn.bind q).imp fun x F1 H1 _ g1 h1 v rv => ⟨r, F1, F0, B, S.grow g1, (Thn.bind h1).imp fun y F2 H2 _ g2 h2 u ru => ?_⟩⟩
  obtain ⟨d, ed, k⟩ := h2.po
  exact hs x y d F2 H2 v u Q ed g2.i (rv.mono g2) ru fun w F' H' g' rw' => k F' H' g' w rw'
theorem de_op {op : Operator} {t : R2} {f : D → D → Option D} (ho : OpR X (binaryOp op) t) (hs : Op2 X.K f t) (ha : DX X ec W e φ) (hb : DX X ec W b ψ) : DE X ec W (.BinOp e op b pos) (v2 f φ ψ) :=
  peImp (pe_op ho ha hb) fun _ _ _ h => use2 hs h
theorem dl_op {op : Operator} {t : R2} {f : D → D → Option (List D)} (ho : OpR X (binaryOp op) t) (hs : Op2L X.K f t) (ha : DX X ec W e φ) (hb : DX X ec W b ψ) : DLi X ec W (.BinOp e op b pos) (l2 f φ ψ) :=
  peImp (pe_op ho ha hb) fun _ _ _ h => by
    obtain ⟨r, F, F0, B, S, q⟩ := h
    refine ⟨r, F, F0, B, S, (Thn.bind q).imp fun x F1 H1 _ g1 h1 v rv => ⟨r, F1, F0, B, S.grow g1, (Thn.bind h1).imp fun y F2 H2 _ g2 h2 u ru => ?_⟩⟩
    obtain ⟨d, ed, k⟩ := h2.po
    exact hs x y d F2 H2 v u _ ed g2.i (rv.mono g2) ru fun p vs hp hv => k F2 H2 (Gr.refl g2.i) p vs hp hv
theorem de_un {op : UnaryOp} {t : V → Hp → VK → Prop} {f : D → Option D} (ho : UnR X (unaryOp op) t) (hs : Op1 X.K f t) (ha : DX X ec W e φ) : DE X ec W (.UnaryOp op e pos) (v1 f φ) :=
  peImp (pe_un ho ha) fun _ _ _ h => by
    obtain ⟨r, F, F0, B, S, q⟩ := h
    refine ⟨r, F, F0, B, S, (Thn.bind q).imp fun x F1 H1 _ g1 h1 v rv => ?_⟩
    obtain ⟨d, ed, k⟩ := h1.po
    exact hs x d F1 H1 v _ ed g1.i rv fun w F' H' g' rw' => k F' H' g' w rw'
theorem useB {K : PySem.W.Frag} {t : R2} {f : D → D → Option Bool} (hs : Op2B K f t) {σ : L2.St} {H : Hp} {Q : Bool → Hp → Prop} (h : tT K ec W (c2 f φ ψ) σ H Q) :
    tOp t (tX K ec W φ) (tX K ec W ψ) σ H (fun x H' => ∃ c, x = .bl c ∧ Q c H') := by
  obtain ⟨r, F, F0, B, S, q⟩ := h
  refine ⟨r, F, F0, B, S, (Thn.bind q).imp fun x F1 H1 _ g1 h1 v rv => ⟨r, F1, F0, B, S.grow g1, (Thn.bind h1).imp fun y F2 H2 _ g2 h2 u ru => ?_⟩⟩
  obtain ⟨d, ed, k⟩ := h2.po
  exact hs x y d F2 H2 v u _ ed g2.i (rv.mono g2) ru ⟨d, rfl, k F2 H2 (Gr.refl g2.i)⟩
theorem db_cmp {op : CmpOp} {t : R2} {f : D → D → Option Bool} (ho : OpR X (compareOp op) t) (hs : Op2B X.K f t) (ha : DX X ec W e φ) (hb : DX X ec W b ψ) (hm : behindInMarks op b = false) : DB X ec W (.Compare e [op] [b] pos) (c2 f φ ψ) :=
  peImp (pe_cmpR ho ha hb hm) fun σ H Q h => by
    obtain ⟨r, F, F0, B, S, q⟩ := h
    refine ⟨r, F, F0, B, S, (Thn.bind (Thn.bind q)).imp fun x F1 H1 _ g1 h1 v rv => ⟨r, F1, F0, B, S.grow g1, ?_⟩⟩
    have h1' : Thn X.K ec W (rb (ψ r) fun y => po (f x y)) σ F1 H1 _ := h1
    refine (Thn.bind h1').imp fun y F2 H2 _ g2 h2 u ru => ?_
    obtain ⟨d, ed, k⟩ := h2.po
    exact hs x y d F2 H2 v u _ ed g2.i (rv.mono g2) ru (Thn.ok g2.i (a := PyData.bool d) (k F2 H2 (Gr.refl g2.i)) _ rfl)
theorem dt_cmp {op : CmpOp} {t : R2} {f : D → D → Option Bool} (ho : OpR X (compareOp op) t) (hs : Op2B X.K f t) (ha : DX X ec W e φ) (hb : DX X ec W b ψ) (hm : behindInMarks op b = false) : DT X ec W (.Compare e [op] [b] pos) (c2 f φ ψ) :=
  ptImp (pt_cmpR ho ha hb hm) fun _ _ _ h => useB hs h
end
end DL
/-! Tests, arguments, calls, the operators on data. -/
namespace DL
open PySem PySem.Spec PyProof.Rows L2

section
variable {X : Cx} {ec : EC} {W : WX} {e b c : Expr} {es rest : List Expr} {pos : Pos} {φ ψ χ : EX} {α β : EB}
/-! ### truth -/
theorem boolOf {K : PySem.W.Frag} {σ : L2.St} {F H : Hp} {P : Bool → Hp → Hp → Prop} {x : R D} (q : Thn K ec W (rb x fun d => po (dTr d)) σ F H P) : Thn K ec W x σ F H fun d F' H' => ∃ k, d = .bool k ∧ P k F' H' := by
  match x with
  | none => exact q
  | some (.error _) => exact q
  | some (.ok d) =>
    intro F' H' g
    cases d with
    | bool k => exact ⟨k, rfl, (show Thn K ec W (ok k) σ F H P from q) F' H' g⟩
    | _ => exact False.elim q
theorem DE.tr (h : DE X ec W e φ) : DB X ec W e (bTr φ) := peImp h fun σ H Q ⟨r, F, F0, B, S, q⟩ => by
  refine ⟨r, F, F0, B, S, (boolOf (Thn.bind q)).imp fun d F1 H1 _ g1 ⟨k, e, h1⟩ v rv => ?_⟩
  subst e
  exact Thn.ok g1.i (a := PyData.bool k) h1 v rv
theorem DE.test (h : DE X ec W e φ) (he : ∀ whole, isTrue e X.env whole = (do let v ← whole; standAt e.pos; holding [v] (truthy v)) := by intro _; rfl) : DT X ec W e (bTr φ) :=
  ptImp (pt_val h he) fun σ H Q ⟨r, F, F0, B, S, q⟩ => by
    refine ⟨r, F, F0, B, S, (boolOf q).imp fun d F1 H1 _ g1 ⟨k, e, h1⟩ v rv => ?_⟩
    subst e
    exact ⟨k, rv, h1⟩
theorem DB.test (h : DB X ec W e α) (he : ∀ whole, isTrue e X.env whole = (do let v ← whole; standAt e.pos; holding [v] (truthy v)) := by intro _; rfl) : DT X ec W e α :=
  ptImp (pt_val h he) fun σ H Q ⟨r, F, F0, B, S, q⟩ => by
    refine ⟨r, F, F0, B, S, ?_⟩
    have q' : Thn X.K ec W (α r) σ F H fun b _ H' => Q b H' := q
    revert q'
    show Thn _ _ _ (α r) _ _ _ _ → Thn _ _ _ (rb (α r) fun b => ok (PyData.bool b)) _ _ _ _
    match α r with
    | none => exact fun z => z
    | some (.error _) => exact fun z => z
    | some (.ok k) => exact fun z F' H' g v rv => ⟨k, rv, z F' H' g⟩
theorem dt_not (h : DT X ec W e α) : DT X ec W (.UnaryOp .Not e pos) (bNot α) := ptImp (pt_not h) fun σ H Q ⟨r, F, F0, B, S, q⟩ =>
  ⟨r, F, F0, B, S, (Thn.bind q).imp fun k F1 H1 _ g1 h1 => Thn.ok g1.i h1⟩
abbrev DW (X : Cx) (ec : EC) (W : WX) (e : Expr) (a : EB) : Prop := PW X e (tT X.K ec W a)
theorem pwImp {X : Cx} {e : Expr} {t t' : TT} (h : PW X e t) (f : ∀ σ H Q, t' σ H Q → t σ H Q) : PW X e t' := ⟨fun wh pins s σ H Q I q => h.run wh pins s σ H Q I (f σ H Q q)⟩
theorem DW.t (h : DW X ec W e α) : DT X ec W e α := PW.pt h
theorem dw_and1 (h : DT X ec W e α) : DW X ec W (.BoolOp .And [e] pos) α := pw_and1 h
theorem dw_or1 (h : DT X ec W e α) : DW X ec W (.BoolOp .Or [e] pos) α := pw_or1 h
theorem dw_and (ha : DT X ec W e α) (hb : DW X ec W (.BoolOp .And (b :: rest) pos) β) : DW X ec W (.BoolOp .And (e :: b :: rest) pos) (bAnd α β) := pwImp (pw_and ha hb) fun σ H Q ⟨r, F, F0, B, S, q⟩ => by
  refine ⟨r, F, F0, B, S, (Thn.bind q).imp fun k F1 H1 _ g1 h1 => ?_⟩
  cases k with
  | true => exact iteT ⟨r, F1, F0, B, S.grow g1, h1⟩
  | false => exact iteF (Thn.ok g1.i h1)
theorem dw_or (ha : DT X ec W e α) (hb : DW X ec W (.BoolOp .Or (b :: rest) pos) β) : DW X ec W (.BoolOp .Or (e :: b :: rest) pos) (bOr α β) := pwImp (pw_or ha hb) fun σ H Q ⟨r, F, F0, B, S, q⟩ => by
  refine ⟨r, F, F0, B, S, (Thn.bind q).imp fun k F1 H1 _ g1 h1 => ?_⟩
  cases k with
  | true => exact iteT (Thn.ok g1.i h1)
  | false => exact iteF ⟨r, F1, F0, B, S.grow g1, h1⟩
/-! ### truth values -/
theorem db_bind {K : PySem.W.Frag} {σ : L2.St} {F H : Hp} {r : Env} {f : Bool → R Bool} {P : D → Hp → Hp → Prop} (q : Thn K ec W (vB (fun r => rb (α r) f) r) σ F H P) : Thn K ec W (vB α r) σ F H fun d F' H' => ∃ k, d = .bool k ∧ Thn K ec W (rb (f k) fun b => ok (.bool b)) σ F' H' P := by
  revert q
  show Thn _ _ _ (rb (rb (α r) f) fun b => ok (PyData.bool b)) _ _ _ _ → Thn _ _ _ (rb (α r) fun b => ok (PyData.bool b)) _ _ _ _
  match α r with
  | none => exact fun z => z
  | some (.error _) => exact fun z => z
  | some (.ok k) => exact fun z F' H' g => ⟨k, rfl, Thn.grow g z⟩
theorem db_not (h : DB X ec W e α) : DB X ec W (.UnaryOp .Not e pos) (bNot α) := peImp (pe_not h) fun σ H Q ⟨r, F, F0, B, S, q⟩ =>
  ⟨r, F, F0, B, S, (db_bind q).imp fun d F1 H1 _ g1 ⟨k, e, h1⟩ v rv => by
    subst e
    exact ⟨k, rv, Thn.ok g1.i h1 _ rfl⟩⟩
theorem db_one {op : BoolOp} (h : DB X ec W e α) : DB X ec W (.BoolOp op [e] pos) α := pe_one h
theorem db_and (ha : DB X ec W e α) (hb : DB X ec W (.BoolOp .And (b :: rest) pos) β) : DB X ec W (.BoolOp .And (e :: b :: rest) pos) (bAnd α β) := peImp (pe_and ha hb) fun σ H Q ⟨r, F, F0, B, S, q⟩ =>
  ⟨r, F, F0, B, S, (db_bind q).imp fun d F1 H1 _ g1 ⟨k, e, h1⟩ v rv => by
    subst e
    refine ⟨k, rv, ?_⟩
    cases k with
    | true => exact iteT ⟨r, F1, F0, B, S.grow g1, h1⟩
    | false => exact iteF (Thn.ok g1.i (a := PyData.bool false) h1 _ rfl)⟩
theorem db_or (ha : DB X ec W e α) (hb : DB X ec W (.BoolOp .Or (b :: rest) pos) β) : DB X ec W (.BoolOp .Or (e :: b :: rest) pos) (bOr α β) := peImp (pe_or ha hb) fun σ H Q ⟨r, F, F0, B, S, q⟩ =>
  ⟨r, F, F0, B, S, (db_bind q).imp fun d F1 H1 _ g1 ⟨k, e, h1⟩ v rv => by
    subst e
    refine ⟨k, rv, ?_⟩
    cases k with
    | true => exact iteT (Thn.ok g1.i (a := PyData.bool true) h1 _ rfl)
    | false => exact iteF ⟨r, F1, F0, B, S.grow g1, h1⟩⟩
/-- x if c else y -/
theorem de_if (hc : DT X ec W c α) (ha : DE X ec W e φ) (hb : DE X ec W b ψ) : DE X ec W (.IfExp c e b pos) (vIf α φ ψ) := peImp (pe_ifExp hc ha hb) fun σ H Q ⟨r, F, F0, B, S, q⟩ =>
  ⟨r, F, F0, B, S, (Thn.bind q).imp fun k F1 H1 _ g1 h1 => by
    cases k with
    | true => exact iteT ⟨r, F1, F0, B, S.grow g1, h1⟩
    | false => exact iteF ⟨r, F1, F0, B, S.grow g1, h1⟩⟩
theorem db_chain {op op' : CmpOp} {t t' : R2} {f g : D → D → Option Bool} (ho : OpR X (compareOp op) t) (ho' : OpR X (compareOp op') t') (hs : Op2B X.K f t) (hs' : Op2B X.K g t') (ha : DX X ec W e φ) (hb : DX X ec W b ψ) (hc : DX X ec W c χ)
    (hm : lastMarks [op, op'] [b, c] = false := by with_unfolding_all rfl) : DB X ec W (.Compare e [op, op'] [b, c] pos) (bChain f g φ ψ χ) := peImp (pe_chain ho ho' ha hb hc hm) fun σ H Q ⟨r, F, F0, B, S, q⟩ => by
  have q1 : Thn X.K ec W (rb (φ r) fun x => rb (rb (ψ r) fun y => rb (po (f x y)) fun k => if k = true then rb (χ r) fun z => po (g y z) else ok false) fun b => ok (PyData.bool b)) σ F H fun d F' H' => ∀ v, Rep X.K F' d v → Q v H' := by
    have q0 : Thn X.K ec W (rb (rb (φ r) fun x => rb (ψ r) fun y => rb (po (f x y)) fun k => if k = true then rb (χ r) fun z => po (g y z) else ok false) fun b => ok (PyData.bool b)) σ F H fun d F' H' => ∀ v, Rep X.K F' d v → Q v H' := q
    revert q0
    match φ r with
    | none => exact fun z => z
    | some (.error _) => exact fun z => z
    | some (.ok k) => exact fun z => z
  refine ⟨r, F, F0, B, S, (Thn.bind q1).imp fun x F1 H1 _ g1 h1 v rv => ⟨r, F1, F0, B, S.grow g1, ?_⟩⟩
  have h1' : Thn X.K ec W (rb (ψ r) fun y => rb (rb (po (f x y)) fun k => if k = true then rb (χ r) fun z => po (g y z) else ok false) fun b => ok (PyData.bool b)) σ F1 H1 fun d F' H' => ∀ v, Rep X.K F' d v → Q v H' := by
    revert h1
    match ψ r with
    | none => exact fun z => z
    | some (.error _) => exact fun z => z
    | some (.ok k) => exact fun z => z
  refine (Thn.bind h1').imp fun y F2 H2 _ g2 h2 u ru => ?_
  match ef : f x y with
  | none =>
    rw [ef] at h2
    exact False.elim h2
  | some k =>
    rw [ef] at h2
    refine hs x y k F2 H2 v u _ ef g2.i (rv.mono g2) ru ⟨k, rfl, ?_⟩
    cases k with
    | false => exact iteF (Thn.ok g2.i (a := PyData.bool false) h2 _ rfl)
    | true =>
      refine iteT ⟨r, F2, F0, B, (S.grow g1).grow g2, ?_⟩
      have h3 : Thn X.K ec W (rb (rb (χ r) fun z => po (g y z)) fun b => ok (PyData.bool b)) σ F2 H2 fun d F' H' => ∀ v, Rep X.K F' d v → Q v H' := h2
      have h4 : Thn X.K ec W (rb (χ r) fun z => rb (po (g y z)) fun b => ok (PyData.bool b)) σ F2 H2 fun d F' H' => ∀ v, Rep X.K F' d v → Q v H' := by
        revert h3
        match χ r with
        | none => exact fun z => z
        | some (.error _) => exact fun z => z
        | some (.ok k) => exact fun z => z
      refine (Thn.bind h4).imp fun z F3 H3 _ g3 h5 w rw' => ?_
      match eg : g y z with
      | none =>
        rw [eg] at h5
        exact False.elim h5
      | some k =>
        rw [eg] at h5
        exact hs' y z k F3 H3 u w Q eg g3.i (ru.mono g3) rw' (Thn.ok g3.i (a := PyData.bool k) h5 _ rfl)
/-! ### arguments, displays -/
theorem da_nil : DA X ec W [] (vArgs []) := paImp pa_nil fun σ H Q ⟨r, F, F0, B, S, q⟩ => Thn.ok S.sub q [] rfl
theorem da_cons {as : List EX} (ha : DE X ec W e φ) (hr : DA X ec W es (vArgs as)) (hs : starEach (e :: es) X.env = (false, eval e X.env) :: starEach es X.env := by rfl) : DA X ec W (e :: es) (vArgs (φ :: as)) :=
  paImp (pa_cons ha hr hs) fun σ H Q ⟨r, F, F0, B, S, q⟩ =>
    ⟨r, F, F0, B, S, (Thn.bind q).imp fun x F1 H1 _ g1 h1 v rv => ⟨r, F1, F0, B, S.grow g1, (Thn.bind h1).imp fun xs F2 H2 _ g2 h2 vs rs =>
      Thn.ok g2.i h2 (v :: vs) ⟨v, vs, rfl, rv.mono g2.f, rs⟩⟩⟩
theorem vArgs_len {as : List EX} {r : Env} {xs : List D} (h : vArgs as r = ok xs) : xs.length = as.length := by
  induction as generalizing xs with
  | nil =>
    have e : xs = [] := by
      have h' : ok ([] : List D) = ok xs := h
      unfold ok at h'
      simpa using h'.symm
    subst e; rfl
  | cons a as ih =>
    obtain ⟨x, h1, h2⟩ := rb_eq_ok (f := fun x => rb (vArgs as r) fun xs => ok (x :: xs)) h
    obtain ⟨ys, h3, h4⟩ := rb_eq_ok h2
    have e : xs = x :: ys := by
      unfold ok at h4
      simpa using h4.symm
    subst e
    rw [List.length_cons, List.length_cons, ih h3]
theorem de_tup {as : List EX} {x1} (h : DA X ec W es (vArgs as)) (hl : as.length ≤ sizeLine := by decide) : DE X ec W (.Tuple es x1 pos) (vTup as) := peImp (pe_tup h) fun σ H Q ⟨r, F, F0, B, S, q⟩ =>
  ⟨r, F, F0, B, S, (Thn.bind q).imp fun xs F1 H1 ex g1 h1 vs rs => ⟨by rw [rs.length, vArgs_len ex]; exact hl, fun p hp => by
    have g' := Gr.new g1.i hp (.tup vs)
    exact h1 _ _ g' (.ref p) ⟨p, vs, rfl, upd_same, rs.mono g'.f⟩⟩⟩
theorem dl_lst {as : List EX} (h : DA X ec W es (vArgs as)) (hl : as.length ≤ sizeLine := by decide) : DLi X ec W (.List es pos) (vArgs as) := peImp (pe_lst h) fun σ H Q ⟨r, F, F0, B, S, q⟩ =>
  ⟨r, F, F0, B, S, q.imp fun xs F1 H1 ex g1 h1 vs rs => ⟨by rw [rs.length, vArgs_len ex]; exact hl, fun p hp => h1 p vs hp rs⟩⟩
/-! ### a def's promise by data, its call -/
/-- called with data ds it gives f ds, and leaves all that was -/
def spD (K : PySem.W.Frag) (ec : EC) (n : Nat) (f : List D → R D) : Sp := fun vs H Q E => ∃ ds F, ds.length = n ∧ Same F H ∧ RepL K F ds vs ∧
  Thn K ec (fun c d _ H => E c d H) (f ds) [] F H fun d F' H' => ∀ v, Rep K F' d v → Q v H'
theorem spD_len {K : PySem.W.Frag} {n : Nat} {f : List D → R D} {vs : List V} {H : Hp} {Q : VK} {E : XK} (h : spD K ec n f vs H Q E) : vs.length = n := by
  obtain ⟨ds, F, h1, _, h2, _⟩ := h
  rw [h2.length, h1]
theorem de_call {k : Nat} {f : Addr} {fd : FuncData} {ps : List Str} {g : List D → R D} {x : Str} {p : Pos} {as : List EX} {n : Nat} {CX : CXT} (F : FnOk X.prog X.w X.K X.mg X.base CX k f fd ps (spD X.K ec n g)) (hr : Room k X.A) (hg : Gl X x) (hm : X.mg x = some (.ref f)) (hk : PySem.W.keepIn X.K (.ref f) = true) (hb : Binds X.K fd ps [])
    (hx : ∀ σ, PassesAt CX X σ (WE W σ)) (ha : DA X ec W (e :: es) (vArgs as)) (hn : as.length = n := by rfl) (hdb : (x == ("__debug__" : Str)) = false := by decide)
    (he : starEach (e :: es) X.env = (false, eval e X.env) :: starEach es X.env := by rfl) (hpl : (backTo pos (starEach es X.env)).any (·.1) = false := by rfl) : DE X ec W (.Call (.Name x p) (e :: es) [] pos) (vCall g as) :=
  peImp (pe_callS F hr hg hm hk hb hx ha hdb he hpl) fun σ H Q ⟨r, F, F0, B, S, q⟩ =>
    ⟨r, F, F0, B, S, (Thn.bind q).imp fun ds F1 H1 ex g1 h1 vs rs => ⟨ds, F1, by rw [vArgs_len ex]; exact hn, g1.i, rs, by
      revert h1
      match g ds with
      | none => exact fun z => z
      | some (.error _) => exact fun z => z
      | some (.ok k) => exact fun z => z⟩⟩
end
end DL
/-! The operators, the built-ins, subscripts, slices. -/
namespace DL
open PySem PySem.Spec PyProof.Rows L2
def CMulV (i j : Int) : Prop := CMul i j ∨ CMulW i j
theorem op_mulV {X : Cx} : OpR X (binaryOp .Mult) (rI CMulV fun i j => .int (i * j)) := opI fun _ _ _ _ _ _ _ hc q => mul_int q (hc.elim (·.ok) (·.ok))

theorem lim_line {n : Nat} (h : n ≤ lim) : n ≤ sizeLine := h
theorem lim_lt {n : Nat} (h : n < lim) : n < sizeLine := h
section
variable {K : PySem.W.Frag}
/-! ### reading -/
theorem RepX.int {F H : Hp} {i : Int} {v : V} (h : RepX K F H (.int i) v) : v = .int i := h
theorem RepX.bool {F H : Hp} {i : Bool} {v : V} (h : RepX K F H (.bool i) v) : v = .bl i := h
/-- a list or a tuple -/
theorem RepX.seq {F H : Hp} (e : Same F H) {x : D} {ds : List D} {v : V} (h : RepX K F H x v) (hs : seqOf x = some ds) : ∃ a vs, v = .ref a ∧ (SqL K H a vs ∨ SqT K H a vs) ∧ RepL K F ds vs := by
  cases x with
  | list xs =>
    cases hs
    obtain ⟨a, vs, q, h1, h2⟩ := h
    exact ⟨a, vs, q, .inl h1, h2⟩
  | tuple xs =>
    cases hs
    obtain ⟨a, vs, q, h1, h2⟩ := h
    exact ⟨a, vs, q, .inr (tupT e h1), h2⟩
  | _ => cases hs
/-! ### data of the library -/
mutual
theorem Rep.dp {H : Hp} : ∀ {d : D} {v : V}, Rep K H d v → PyData.canLay0 d = true → Dp K H v d
  | .none, _, h, _ => by cases h; exact .non
  | .bool b, _, h, _ => by cases h; exact .bl b
  | .int i, _, h, _ => by cases h; exact .int i
  | .str x, _, h, _ => by cases h; exact .str x
  | .list ds, _, ⟨a, vs, q, h1, h2⟩, c => by
    subst q
    exact .lst h1 (RepL.dp h2 (by simpa [PyData.canLay0] using c))
  | .tuple ds, _, ⟨a, vs, q, h1, h2⟩, c => by
    subst q
    exact .tup (.inl (.inl h1)) (RepL.dp h2 (by simpa [PyData.canLay0] using c))
  | .dict _, _, _, c => by simp [PyData.canLay0] at c
theorem RepL.dp {H : Hp} : ∀ {ds : List D} {vs : List V}, RepL K H ds vs → PyData.canLayAll0 ds = true → DpAll K H vs ds
  | [], _, h, _ => by
    have h' : _ = [] := h
    rw [h']; exact .nil
  | d :: ds, _, ⟨v, r, q, h1, h2⟩, c => by
    have c' : PyData.canLay0 d = true ∧ PyData.canLayAll0 ds = true := by simpa [PyData.canLayAll0] using c
    rw [q]
    exact .cons (Rep.dp h1 c'.1) (RepL.dp h2 c'.2)
end
theorem RepX.dp {F H : Hp} (e : Same F H) {d : D} {v : V} (h : RepX K F H d v) (c : SeqAt.shaped d = true) : Dp K H v d := (h.rep e).dp (SeqAt.canLay_of_shaped c)
/-! ### ints -/
theorem o_sub : Op2 K dSub (fun x y H Q => rI0 (fun i j => .int (i - j)) x y H Q ∨ ∃ b j, x = .bl b ∧ y = .int j ∧ Q (.int ((if b then 1 else 0) - j)) H) := by
  intro x y d F H v u Q hf e rx ry k
  unfold dSub at hf
  split at hf
  · cases hf; exact .inl ⟨_, _, rx, ry, k _ F H (Gr.refl e) rfl⟩
  · cases hf; exact .inr ⟨_, _, rx, ry, k _ F H (Gr.refl e) rfl⟩
  · cases hf
theorem o_mul : Op2 K dMul (rI CMulV fun i j => .int (i * j)) := by
  intro x y d F H v u Q hf e rx ry k
  unfold dMul at hf
  split at hf
  · split at hf
    · rename_i c
      cases hf
      refine ⟨_, _, rx, ry, ?_, k _ F H (Gr.refl e) rfl⟩
      unfold small64 at c
      simp only [Bool.or_eq_true, Bool.and_eq_true, decide_eq_true_eq] at c
      exact .inl c
    · split at hf
      · rename_i c
        cases hf
        exact ⟨_, _, rx, ry, .inr (wide_mul c.1 c.2 (by decide) (by decide) (by decide)), k _ F H (Gr.refl e) rfl⟩
      · cases hf
  · cases hf
theorem o_mod : Op2 K dMod (rI (fun _ j => 0 < j) fun i j => .int (i % j)) := by
  intro x y d F H v u Q hf e rx ry k
  unfold dMod at hf
  split at hf
  · split at hf
    · cases hf; exact ⟨_, _, rx, ry, by assumption, k _ F H (Gr.refl e) rfl⟩
    · cases hf
  · cases hf
theorem o_div : Op2 K dDiv (rI CDiv fun i j => .int (i / j)) := by
  intro x y d F H v u Q hf e rx ry k
  unfold dDiv at hf
  split at hf
  · split at hf
    · cases hf; exact ⟨_, _, rx, ry, by assumption, k _ F H (Gr.refl e) rfl⟩
    · cases hf
  · cases hf
theorem o_pow : Op2 K dPow (rI CPow fun i j => .int (i ^ j.toNat)) := by
  intro x y d F H v u Q hf e rx ry k
  unfold dPow at hf
  split at hf
  · split at hf
    · rename_i c
      cases hf; exact ⟨_, _, rx, ry, ⟨c.1, Int.le_trans c.2.1 (by decide), c.2.2⟩, k _ F H (Gr.refl e) rfl⟩
    · cases hf
  · cases hf
theorem o_neg : Op1 K dNeg (rU fun i => .int (-i)) := by
  intro x d F H v Q hf e rx k
  unfold dNeg at hf
  split at hf
  · cases hf; exact ⟨_, rx, k _ F H (Gr.refl e) rfl⟩
  · cases hf
/-! ### comparisons of ints -/
theorem o_lt : Op2B K cLt (rI0 fun i j => .bl (decide (i < j))) := by
  intro x y c F H v u Q hf e rx ry k
  unfold cLt at hf
  split at hf
  · cases hf; exact ⟨_, _, rx, ry, k⟩
  · cases hf
theorem o_le : Op2B K cLe (rI0 fun i j => .bl (decide (i ≤ j))) := by
  intro x y c F H v u Q hf e rx ry k
  unfold cLe at hf
  split at hf
  · cases hf; exact ⟨_, _, rx, ry, k⟩
  · cases hf
theorem o_gt : Op2B K cGt (rI0 fun i j => .bl (decide (j < i))) := by
  intro x y c F H v u Q hf e rx ry k
  unfold cGt at hf
  split at hf
  · cases hf; exact ⟨_, _, rx, ry, k⟩
  · cases hf
theorem o_ge : Op2B K cGe (rI0 fun i j => .bl (decide (j ≤ i))) := by
  intro x y c F H v u Q hf e rx ry k
  unfold cGe at hf
  split at hf
  · cases hf; exact ⟨_, _, rx, ry, k⟩
  · cases hf
/-! ### == of data -/
/-- two lists that are told apart by their lengths alone, or are both empty -/
def rEqLen (K : PySem.W.Frag) (neg : Bool) : R2 := fun x y H Q => ∃ a b xs ys, x = .ref a ∧ y = .ref b ∧ SqL K H a xs ∧ SqL K H b ys ∧ ((xs.length ≠ ys.length ∧ Q (.bl neg) H) ∨ (xs = [] ∧ ys = [] ∧ Q (.bl (!neg)) H))
theorem op_eqLen {X : Cx} (hu : X.A.units + 65 < cLine) : OpR X (compareOp .Eq) (rEqLen X.K false) := by
  intro pins s σ H x y v u Q I rx ry h
  obtain ⟨a, b, xs, ys, rfl, rfl, ha, hb, h⟩ := h
  cases rx
  cases ry
  obtain ⟨us, r1, p1, _⟩ := I.list ha
  obtain ⟨ws, r2, p2, _⟩ := I.list hb
  have l1 := r1.length
  have l2 := r2.length
  rcases h with ⟨hne, q⟩ | ⟨e1, e2, q⟩
  · exact SeqAt.RcAt.lists_lengths (A := X.A) p1.isList p2.isList (by
      rw [List.size_toArray, List.size_toArray, ← l1, ← l2]
      simpa using hne) (by omega) _ _ _ _ ⟨.bl false, H, I, rfl, q⟩
  · subst e1 e2
    have z1 : us = [] := List.eq_nil_of_length_eq_zero l1.symm
    have z2 : ws = [] := List.eq_nil_of_length_eq_zero l2.symm
    subst z1 z2
    exact SeqAt.RcAt.lists (A := X.A) (e := fun _ => true) p1.isList p2.isList rfl (by omega) (fun j h1 h2 => absurd h1 (Nat.not_lt_zero j)) _ _ _ _ ⟨.bl true, H, I, rfl, q⟩
theorem op_neLen {X : Cx} (hu : X.A.units + 65 < cLine) : OpR X (compareOp .NotEq) (rEqLen X.K true) := by
  intro pins s σ H x y v u Q I rx ry h
  obtain ⟨a, b, xs, ys, rfl, rfl, ha, hb, h⟩ := h
  cases rx
  cases ry
  obtain ⟨us, r1, p1, _⟩ := I.list ha
  obtain ⟨ws, r2, p2, _⟩ := I.list hb
  have l1 := r1.length
  have l2 := r2.length
  rcases h with ⟨hne, q⟩ | ⟨e1, e2, q⟩
  · exact SeqAt.RcNeAt.lists_lengths (A := X.A) p1.isList p2.isList (by
      rw [List.size_toArray, List.size_toArray, ← l1, ← l2]
      simpa using hne) (by omega) _ _ _ _ ⟨.bl true, H, I, rfl, q⟩
  · subst e1 e2
    have z1 : us = [] := List.eq_nil_of_length_eq_zero l1.symm
    have z2 : ws = [] := List.eq_nil_of_length_eq_zero l2.symm
    subst z1 z2
    exact SeqAt.RcNeAt.lists (A := X.A) (e := fun _ => true) p1.isList p2.isList rfl (by omega) (fun j h1 h2 => absurd h1 (Nat.not_lt_zero j)) _ _ _ _ ⟨.bl false, H, I, rfl, q⟩
def rEqQ (K : PySem.W.Frag) : R2 := fun x y H Q => rEqLen K false x y H Q ∨ rEqD K x y H Q
def rNeQ (K : PySem.W.Frag) : R2 := fun x y H Q => rEqLen K true x y H Q ∨ rNeD K x y H Q
theorem op_eqQ {X : Cx} (hu : X.A.units + 65 < cLine) : OpR X (compareOp .Eq) (rEqQ X.K) := (op_eqLen hu).or (op_eqD (by omega))
theorem op_neQ {X : Cx} (hu : X.A.units + 65 < cLine) : OpR X (compareOp .NotEq) (rNeQ X.K) := (op_neLen hu).or (op_neD (by omega))
theorem eqS_dp {x y : D} {c : Bool} {F H : Hp} {v u : V} (hf : eqS x y = some c) (e : Same F H) (rx : RepX K F H x v) (ry : RepX K F H y u) : Dp K H v x ∧ Dp K H u y ∧ SeqAt.shaped x = true ∧ SeqAt.shaped y = true ∧ c = PyData.eqv x y := by
  unfold eqS at hf
  split at hf
  · rename_i h
    cases hf
    rw [Bool.and_eq_true] at h
    exact ⟨rx.dp e h.1, ry.dp e h.2, h.1, h.2, rfl⟩
  · cases hf
theorem eq_any {x y : D} {c : Bool} {F H : Hp} {v u : V} (hf : cEq x y = some c) (e : Same F H) (rx : RepX K F H x v) (ry : RepX K F H y u) :
    (∃ a b xs ys, v = .ref a ∧ u = .ref b ∧ SqL K H a xs ∧ SqL K H b ys ∧ ((xs.length ≠ ys.length ∧ c = false) ∨ (xs = [] ∧ ys = [] ∧ c = true))) ∨ (Dp K H v x ∧ Dp K H u y ∧ SeqAt.shaped x = true ∧ SeqAt.shaped y = true ∧ c = PyData.eqv x y) := by
  unfold cEq at hf
  split at hf
  · rename_i xs ys
    obtain ⟨a, vs, rfl, h1, h2⟩ := id rx
    obtain ⟨b, us, rfl, h3, h4⟩ := id ry
    split at hf
    · rename_i hl
      split at hf
      · rename_i hz
        cases hf
        have z1 : vs = [] := List.eq_nil_of_length_eq_zero (by rw [h2.length, hz])
        have z2 : us = [] := List.eq_nil_of_length_eq_zero (by rw [h4.length, ← hl, hz])
        exact .inl ⟨a, b, vs, us, rfl, rfl, h1, h3, .inr ⟨z1, z2, rfl⟩⟩
      · exact .inr (eqS_dp hf e rx ry)
    · rename_i hl
      cases hf
      exact .inl ⟨a, b, vs, us, rfl, rfl, h1, h3, .inl ⟨by rw [h2.length, h4.length]; exact hl, rfl⟩⟩
  · exact .inr (eqS_dp hf e rx ry)
theorem o_eqQ : Op2B K cEq (rEqQ K) := by
  intro x y c F H v u Q hf e rx ry k
  rcases eq_any hf e rx ry with ⟨a, b, xs, ys, e1, e2, h1, h2, h⟩ | ⟨h1, h2, h3, h4, rfl⟩
  · refine .inl ⟨a, b, xs, ys, e1, e2, h1, h2, ?_⟩
    rcases h with ⟨h, rfl⟩ | ⟨h, h', rfl⟩
    · exact .inl ⟨h, k⟩
    · exact .inr ⟨h, h', k⟩
  · exact .inr ⟨x, y, h1, h2, h3, h4, k⟩
theorem o_neQ : Op2B K cNe (rNeQ K) := by
  intro x y c F H v u Q hf e rx ry k
  unfold cNe at hf
  obtain ⟨c', hc, rfl⟩ := Option.map_eq_some_iff.mp hf
  rcases eq_any hc e rx ry with ⟨a, b, xs, ys, e1, e2, h1, h2, h⟩ | ⟨h1, h2, h3, h4, rfl⟩
  · refine .inl ⟨a, b, xs, ys, e1, e2, h1, h2, ?_⟩
    rcases h with ⟨h, rfl⟩ | ⟨h, h', rfl⟩
    · exact .inl ⟨h, k⟩
    · exact .inr ⟨h, h', k⟩
  · exact .inr ⟨x, y, h1, h2, h3, h4, k⟩
/-! ### in, not in -/
def rInS (K : PySem.W.Frag) (neg : Bool) : R2 := fun x y H Q => ∃ d e ds, Dp K H x d ∧ Dp K H y e ∧ seqOf e = some ds ∧ SeqAt.shaped d = true ∧ SeqAt.shaped e = true ∧ Q (.bl (if neg then !(ds.any fun z => PyData.eqv z d) else ds.any fun z => PyData.eqv z d)) H
theorem op_inS2 {X : Cx} (hu : X.A.units + 65 < cLine) : OpR X (compareOp .In) (rInS X.K false) := by
  intro pins s σ H x y v u Q I rx ry h
  obtain ⟨d, e, ds, hd, he, hs, sd, se, q⟩ := h
  obtain ⟨as, r1⟩ := Dp.reads I d x v hd rx
  cases e with
  | list es =>
    cases hs
    obtain ⟨bs, r2⟩ := Dp.reads I _ y u he ry
    exact SeqAt.in_list_reads r2 r1 (SeqAt.canLay_of_shaped se) (SeqAt.canLay_of_shaped sd) (room_in_shaped sd hu) ⟨.bl _, H, I, rfl, q⟩
  | tuple es =>
    cases hs
    obtain ⟨bs, r2⟩ := Dp.reads I _ y u he ry
    exact SeqAt.in_tuple_reads r2 r1 (SeqAt.canLay_of_shaped se) (SeqAt.canLay_of_shaped sd) (room_in_shaped sd hu) ⟨.bl _, H, I, rfl, q⟩
  | _ => cases hs
theorem op_notInS2 {X : Cx} (hu : X.A.units + 65 < cLine) : OpR X (compareOp .NotIn) (rInS X.K true) := by
  intro pins s σ H x y v u Q I rx ry h
  obtain ⟨d, e, ds, hd, he, hs, sd, se, q⟩ := h
  obtain ⟨as, r1⟩ := Dp.reads I d x v hd rx
  cases e with
  | list es =>
    cases hs
    obtain ⟨bs, r2⟩ := Dp.reads I _ y u he ry
    exact SeqAt.notIn_list_reads r2 r1 (SeqAt.canLay_of_shaped se) (SeqAt.canLay_of_shaped sd) (room_in_shaped sd hu) ⟨.bl _, H, I, rfl, q⟩
  | tuple es =>
    cases hs
    obtain ⟨bs, r2⟩ := Dp.reads I _ y u he ry
    exact SeqAt.notIn_tuple_reads r2 r1 (SeqAt.canLay_of_shaped se) (SeqAt.canLay_of_shaped sd) (room_in_shaped sd hu) ⟨.bl _, H, I, rfl, q⟩
  | _ => cases hs
theorem o_in : Op2B K cIn (rInS K false) := by
  intro x y c F H v u Q hf e rx ry k
  unfold cIn at hf
  split at hf
  · rename_i ds hs
    split at hf
    · rename_i h
      cases hf
      rw [Bool.and_eq_true] at h
      exact ⟨x, y, ds, rx.dp e h.1, ry.dp e h.2, hs, h.1, h.2, k⟩
    · cases hf
  · cases hf
theorem o_notIn : Op2B K cNotIn (rInS K true) := by
  intro x y c F H v u Q hf e rx ry k
  unfold cNotIn at hf
  split at hf
  · rename_i ds hs
    split at hf
    · rename_i h
      cases hf
      rw [Bool.and_eq_true] at h
      exact ⟨x, y, ds, rx.dp e h.1, ry.dp e h.2, hs, h.1, h.2, k⟩
    · cases hf
  · cases hf
/-! ### is: against a bool or None -/
theorem cIsNone_v {F H : Hp} {x : D} {v : V} (rx : RepX K F H x v) : cIsNone x = some (decide (v = .non)) := by
  cases x with
  | none => rw [show v = V.non from rx]; rfl
  | bool b => rw [show v = V.bl b from rx]; rfl
  | int i => rw [show v = V.int i from rx]; rfl
  | str z => rw [show v = V.str z from rx]; rfl
  | list ds => obtain ⟨a, vs, q, _⟩ := rx; rw [q]; rfl
  | tuple ds => obtain ⟨a, vs, q, _⟩ := rx; rw [q]; rfl
  | dict ks => obtain ⟨a, q, _⟩ := rx; rw [q]; rfl
def rIsA : R2 := fun x y H Q => (y = .non ∧ Q (.bl (decide (x = .non))) H) ∨ rIsB x y H Q
def rIsNotA : R2 := fun x y H Q => (y = .non ∧ Q (.bl (!decide (x = .non))) H) ∨ rNotB x y H Q
theorem op_isA {X : Cx} : OpR X (compareOp .Is) rIsA := op_isN.or op_isBl
theorem op_isNotA {X : Cx} : OpR X (compareOp .IsNot) rIsNotA := op_notN.or op_notBl
theorem o_is : Op2B K cIs rIsA := by
  intro x y c F H v u Q hf e rx ry k
  unfold cIs at hf
  split at hf
  · rename_i b
    refine .inr ?_
    unfold cIsB at hf
    split at hf
    · cases hf; exact ⟨_, _, rx, ry, k⟩
    · cases hf
  · rw [cIsNone_v rx] at hf
    cases hf
    exact .inl ⟨ry, k⟩
  · cases hf
theorem o_isNot : Op2B K cIsNot rIsNotA := by
  intro x y c F H v u Q hf e rx ry k
  unfold cIsNot cIs at hf
  split at hf
  · rename_i b
    refine .inr ?_
    unfold cIsB at hf
    split at hf
    · cases hf; exact ⟨_, _, rx, ry, k⟩
    · cases hf
  · rw [cIsNone_v rx] at hf
    cases hf
    exact .inl ⟨ry, k⟩
  · cases hf
/-! ### + -/
def rAddB : R2 := fun x y H Q => ∃ b j, x = .bl b ∧ y = .int j ∧ Q (.int ((if b then 1 else 0) + j)) H
def rSubB : R2 := fun x y H Q => ∃ b j, x = .bl b ∧ y = .int j ∧ Q (.int ((if b then 1 else 0) - j)) H
theorem op_addB {X : Cx} : OpR X (binaryOp .Add) rAddB := by
  intro pins s σ H x y v u Q I rx ry h
  obtain ⟨b, j, rfl, rfl, q⟩ := h
  cases (show v = Value.bool b from rx)
  obtain ⟨t, rfl⟩ := ry
  exact IntBool.add_bool_int ⟨.int _, H, I.tok _, ⟨_, rfl⟩, q⟩
theorem op_subB {X : Cx} : OpR X (binaryOp .Sub) rSubB := by
  intro pins s σ H x y v u Q I rx ry h
  obtain ⟨b, j, rfl, rfl, q⟩ := h
  cases (show v = Value.bool b from rx)
  obtain ⟨t, rfl⟩ := ry
  exact IntBool.sub_bool_int ⟨.int _, H, I.tok _, ⟨_, rfl⟩, q⟩
/-- list + list, any two that are read -/
theorem list_add_any (l : Addr) (items : Array Value) (n : Nat) (b : Addr) (items2 : Array Value) (n2 : Nat) (sl sl2 : Array (Option Value)) (hc0 : items.size + items2.size ≤ sizeLine) :
    Meets (Builtin.«list.__add__» ⟨[.ref l, .ref b], []⟩) (fun _ R s => s.heap.get? l = some { cls := .type "list", dict := none, data := .seq items n, slots := sl } ∧ s.heap.get? b = some { cls := .type "list", dict := none, data := .seq items2 n2, slots := sl2 } ∧ R (.ok (.ret (Value.ref s.heap.objs.size))) { s with heap := s.heap.push { cls := Value.type "list", data := Data.seq (items ++ items2) }, toks := s.toks }) :=
  .of_wp fun prog w A R s h => by obtain ⟨hp, g, d, tk, os⟩ := s; obtain ⟨hl, hb, h⟩ := h; have f1 := AutoSeq1.idx_int; have f2 := AutoSeq1.sub_tuple_tuple; have f3 := AutoSeq1.sub_list_list; have f4 := AutoSeq1.sub_tuple_list; have f5 := AutoSeq1.sub_list_tuple; wp_walk using AutoSeq1.wpAny_loadPart' hl, AutoSeq1.wpAny_loadPart' hb; exact ⟨_, rfl, h⟩
def rCatL (K : PySem.W.Frag) : R2 := fun x y H Q => ∃ l b xs zs, x = .ref l ∧ y = .ref b ∧ SqL K H l xs ∧ SqL K H b zs ∧ xs.length + zs.length ≤ sizeLine ∧ ∀ p, H p = none → Q (.ref p) (upd H p (.lst (xs ++ zs)))
theorem op_catL {X : Cx} : OpR X (binaryOp .Add) (rCatL X.K) := by
  intro pins s σ H x y v u Q I rx ry h
  obtain ⟨l, b, xs, zs, rfl, rfl, hA, hB, hz, q⟩ := h
  cases rx
  cases ry
  obtain ⟨its, r, ⟨o, n, ho, hc, hd, hs⟩, hl⟩ := I.list hA
  obtain ⟨its2, r2, ⟨o2, n2, ho2, hc2, hd2, hs2⟩, hl2⟩ := I.list hB
  obtain ⟨oc, od, odt, osl⟩ := o
  obtain ⟨oc2, od2, odt2, osl2⟩ := o2
  simp only at hc hd hs hc2 hd2 hs2
  subst hc hd hs hc2 hd2 hs2
  have e1 := r.length
  have e2 := r2.length
  refine concat_meets ⟨_, ho, rfl⟩ ⟨_, ho2, rfl⟩ noFill_list_add seq_list_add PySem.F.slot_list_add PySem.F.entry_list_add (PySem.F.args_list_add_2 _ _) (list_add_any l its.toArray n b its2.toArray n2 osl osl2 (by rw [List.size_toArray, List.size_toArray]; omega)) ⟨ho, ho2, ?_⟩
  have ea : its.toArray ++ its2.toArray = (its ++ its2).toArray := by simp
  rw [ea]
  exact ⟨.ref _, _, I.lnew (t' := s.toks) (r.append r2) (by rw [List.length_append]; omega), rfl, q _ I.fresh⟩
def rAddA (K : PySem.W.Frag) : R2 := fun x y H Q => rI0 (fun i j => .int (i + j)) x y H Q ∨ rAddB x y H Q ∨ rCatL K x y H Q ∨ rCatA K x y H Q
theorem op_addA {X : Cx} : OpR X (binaryOp .Add) (rAddA X.K) := op_add.or (op_addB.or (op_catL.or op_catA))
theorem o_add : Op2 K dAdd (rAddA K) := by
  intro x y d F H v u Q hf e rx ry k
  unfold dAdd at hf
  split at hf
  · cases hf; exact .inl ⟨_, _, rx, ry, k _ F H (Gr.refl e) rfl⟩
  · cases hf; exact .inr (.inl ⟨_, _, rx, ry, k _ F H (Gr.refl e) rfl⟩)
  · rename_i xs ys
    unfold asList at hf
    split at hf
    · rename_i hl
      cases hf
      obtain ⟨a, vs, rfl, h1, h2⟩ := rx
      obtain ⟨b, us, rfl, h3, h4⟩ := ry
      have hlen : vs.length + us.length ≤ sizeLine := by
        rw [h2.length, h4.length, ← List.length_append]; exact hl
      refine .inr (.inr (.inr ⟨a, b, vs, us, rfl, rfl, tupT e h1, tupT e h3, hlen, fun z => ?_, fun _ z => ?_, fun _ _ p hp => ?_⟩))
      · have z' : xs = [] := by
          have l := h2.length
          rw [z] at l
          exact List.eq_nil_of_length_eq_zero l.symm
        subst z'
        exact k _ F H (Gr.refl e) ⟨b, us, rfl, h3, h4⟩
      · have z' : ys = [] := by
          have l := h4.length
          rw [z] at l
          exact List.eq_nil_of_length_eq_zero l.symm
        subst z'
        rw [List.append_nil] at k
        exact k _ F H (Gr.refl e) ⟨a, vs, rfl, h1, h2⟩
      · have g' := Gr.new e hp (.tup (vs ++ us))
        exact k _ _ _ g' ⟨p, vs ++ us, rfl, upd_same, (h2.append h4).mono g'.f⟩
    · cases hf
  · rename_i xs ys
    unfold asList at hf
    split at hf
    · rename_i hl
      cases hf
      obtain ⟨a, vs, rfl, h1, h2⟩ := rx
      obtain ⟨b, us, rfl, h3, h4⟩ := ry
      have hlen : vs.length + us.length ≤ sizeLine := by
        rw [h2.length, h4.length, ← List.length_append]; exact hl
      refine .inr (.inr (.inl ⟨a, b, vs, us, rfl, rfl, h1, h3, hlen, fun p hp => ?_⟩))
      have g' := Gr.new e hp (.lst (vs ++ us))
      exact k _ _ _ g' ⟨p, vs ++ us, rfl, .inl (.inl upd_same), (h2.append h4).mono g'.f⟩
    · cases hf
  · cases hf
theorem o_cat : Op2L K lCat (rAddA K) := by
  intro x y zs F H v u Q hf e rx ry k
  unfold lCat at hf
  split at hf
  · rename_i xs ys
    split at hf
    · rename_i hl
      cases hf
      obtain ⟨a, vs, rfl, h1, h2⟩ := rx
      obtain ⟨b, us, rfl, h3, h4⟩ := ry
      have hlen : vs.length + us.length ≤ sizeLine := by
        rw [h2.length, h4.length, ← List.length_append]; exact hl
      exact .inr (.inr (.inl ⟨a, b, vs, us, rfl, rfl, h1, h3, hlen, fun p hp => k p _ hp (h2.append h4)⟩))
    · cases hf
  · cases hf
theorem op_subA {X : Cx} : OpR X (binaryOp .Sub) (fun x y H Q => rI0 (fun i j => .int (i - j)) x y H Q ∨ rSubB x y H Q) := op_sub.or op_subB
/-! ### subscripts -/
theorem ixAt_N (n : Nat) (i : Int) : ixAt n i = ixN n i := rfl
theorem atD_get {xs : List D} {i : Int} {d : D} (h : atD xs i = some d) : ∃ j, ixN xs.length i = some j ∧ xs[j]? = some d := by
  unfold atD at h
  split at h
  · rename_i j hj
    split at h
    · rename_i x hx
      cases h
      exact ⟨j, hj, hx⟩
    · cases h
  · cases h
theorem RepL.atI {F : Hp} {xs : List D} {vs : List V} {i : Int} {d : D} (h : RepL K F xs vs) (hd : atD xs i = some d) : ∃ v, L2.atI vs i = some v ∧ Rep K F d v := by
  obtain ⟨j, h1, h2⟩ := atD_get hd
  obtain ⟨v, h3, h4⟩ := h.get h2
  refine ⟨v, ?_, h4⟩
  unfold L2.atI
  rw [h.length, h1]
  exact h3
theorem o_ix : Op2 K dIx (fun x y H Q => rIxL K x y H Q ∨ rIxT K x y H Q) := by
  intro x y d F H v u Q hf e rx ry k
  unfold dIx at hf
  split at hf
  · rename_i xs i
    obtain ⟨a, vs, rfl, h1, h2⟩ := rx
    obtain ⟨w, h3, h4⟩ := h2.atI hf
    exact .inl ⟨a, vs, i, w, rfl, ry, h1, h3, k _ F H (Gr.refl e) h4⟩
  · rename_i xs i
    obtain ⟨a, vs, rfl, h1, h2⟩ := rx
    obtain ⟨w, h3, h4⟩ := h2.atI hf
    exact .inr ⟨a, vs, i, w, rfl, ry, tupT e h1, h3, k _ F H (Gr.refl e) h4⟩
  · cases hf
  · cases hf
end
section
variable {X : Cx} {ec : EC} {W : WX} {e b c : Expr} {es rest : List Expr} {pos : Pos} {φ ψ χ : EX} {α β : EB}
theorem de_ix (ha : DX X ec W e φ) (hb : DX X ec W b ψ) (hs : PlainIx b := by exact fun _ _ => rfl) : DE X ec W (.Subscript e b pos) (v2 dIx φ ψ) := peImp (pe_ix (ix_list.or ix_tup) ha hb hs) fun _ _ _ h => use2 o_ix h
/-! ### slices -/
def oPart : Option Expr → Option EX → Prop := fun a b => a.isSome = b.isSome
theorem po_part {K : PySem.W.Frag} {σ : L2.St} {F H : Hp} {P : Option Int → Hp → Hp → Prop} {r : Env} {a : EX} (q : Thn K ec W (vOpt (some a) r) σ F H P) : Thn K ec W (a r) σ F H fun d F' H' => ∃ i, d = .int i ∧ P (some i) F' H' := by
  have q' : Thn K ec W (rb (a r) fun x => match x with | .int i => ok (some i) | _ => none) σ F H P := q
  revert q'
  match a r with
  | none => exact fun z => z
  | some (.error _) => exact fun z => z
  | some (.ok d) =>
    intro z F' H' g
    cases d with
    | int i => exact ⟨i, rfl, (show Thn K ec W (ok (some i)) σ F H P from z) F' H' g⟩
    | _ => exact False.elim z
/-- a part of a slice: none, or an int -/
inductive DO (X : Cx) (ec : EC) (W : WX) : Option Expr → Option EX → Prop where
  | non : DO X ec W none none
  | som {e : Expr} {a : EX} (h : DX X ec W e a) : DO X ec W (some e) (some a)
def tO (K : PySem.W.Frag) (ec : EC) (W : WX) (a : Option EX) : TO := fun σ H Q => ∃ r F F0 B, SR K F0 B r σ H F ∧ Thn K ec W (vOpt a r) σ F H fun o F' H' => Q o H'
theorem DO.po {o : Option Expr} {a : Option EX} (h : DO X ec W o a) : PO X o (tO X.K ec W a) := by
  cases h with
  | non => exact ⟨fun pins s σ H Q I ⟨r, F, F0, B, S, q⟩ => po_none.run pins s σ H Q I (Thn.ok S.sub q)⟩
  | som h => exact ⟨fun pins s σ H Q I ⟨r, F, F0, B, S, q⟩ => (po_some h).run pins s σ H Q I ⟨r, F, F0, B, S, (po_part q).imp fun d F1 H1 _ g1 ⟨i, ei, h1⟩ v rv => by
      subst ei
      exact ⟨i, rv, h1⟩⟩⟩
end
end DL
/-! Slices, built-ins. -/
namespace DL
open PySem PySem.Spec PyProof.Rows L2

theorem cutAt_sIx (n d : Nat) (i : Option Int) : cutAt n d i = HT.sIx n d i := by cases i <;> rfl
section
variable {X : Cx} {ec : EC} {W : WX} {e b c : Expr} {es rest : List Expr} {pos p2 : Pos} {φ ψ χ : EX} {α β : EB} {lo hi : Option Expr} {ol oh : Option EX}
theorem de_cut (ha : DX X ec W e φ) (hl : DO X ec W lo ol) (hh : DO X ec W hi oh) : DE X ec W (.Subscript e (.Slice lo hi none p2) pos) (vCut φ ol oh) := peImp (pe_slice (sl_list.or sl_tupA) ha hl.po hh.po) fun σ H Q ⟨r, F, F0, B, S, q⟩ => by
  refine ⟨r, F, F0, B, S, (Thn.bind q).imp fun x F1 H1 ex1 g1 h1 v rv => ⟨r, F1, F0, B, S.grow g1, (Thn.bind h1).imp fun i F2 H2 ex2 g2 h2 => ⟨r, F2, F0, B, (S.grow g1).grow g2, (Thn.bind h2).imp fun j F3 H3 ex3 g3 h3 => ?_⟩⟩⟩
  obtain ⟨d, ed, k⟩ := h3.po
  have rv3 := (rv.mono g2).mono g3
  unfold dCut at ed
  split at ed
  · cases ed
    obtain ⟨a, vs, rfl, h4, h5⟩ := rv3
    refine .inl ⟨a, vs, rfl, h4, fun p hp => ?_⟩
    have g' := Gr.new g3.i hp (.lst (cutV vs i j))
    exact k _ _ g' _ ⟨p, _, rfl, .inl (.inl upd_same), (h5.cut i j).mono g'.f⟩
  · rename_i xs
    cases ed
    obtain ⟨a, vs, rfl, h4, h5⟩ := rv3
    refine .inr ⟨a, vs, rfl, tupT g3.i h4, fun z => ?_, fun _ p hp => ?_⟩
    · have e1 : cutV vs i j = vs := by
        unfold cutV
        rw [z.1, z.2, List.drop_zero, Nat.sub_zero, List.take_length]
      have e2 : cutD xs i j = xs := by
        unfold cutD
        rw [cutAt_sIx, cutAt_sIx, ← h5.length, z.1, z.2, List.drop_zero, Nat.sub_zero, h5.length, List.take_length]
      rw [e2] at k
      exact k F3 H3 (Gr.refl g3.i) _ ⟨a, vs, rfl, h4, h5⟩
    · have g' := Gr.new g3.i hp (.tup (cutV vs i j))
      exact k _ _ g' _ ⟨p, _, rfl, upd_same, (h5.cut i j).mono g'.f⟩
  · cases ed
theorem dl_cut (ha : DX X ec W e φ) (hl : DO X ec W lo ol) (hh : DO X ec W hi oh) : DLi X ec W (.Subscript e (.Slice lo hi none p2) pos) (lCutE φ ol oh) := peImp (pe_slice sl_list ha hl.po hh.po) fun σ H Q ⟨r, F, F0, B, S, q⟩ => by
  refine ⟨r, F, F0, B, S, (Thn.bind q).imp fun x F1 H1 ex1 g1 h1 v rv => ⟨r, F1, F0, B, S.grow g1, (Thn.bind h1).imp fun i F2 H2 ex2 g2 h2 => ⟨r, F2, F0, B, (S.grow g1).grow g2, (Thn.bind h2).imp fun j F3 H3 ex3 g3 h3 => ?_⟩⟩⟩
  obtain ⟨d, ed, k⟩ := h3.po
  have rv3 := (rv.mono g2).mono g3
  unfold lCut at ed
  split at ed
  · cases ed
    obtain ⟨a, vs, rfl, h4, h5⟩ := rv3
    exact ⟨a, vs, rfl, h4, fun p hp => k F3 H3 (Gr.refl g3.i) p _ hp (h5.cut i j)⟩
  · cases ed
/-! ### calls of built-ins -/
theorem pa1 (ha : DX X ec W e φ) (hs : starEach [e] X.env = (false, eval e X.env) :: starEach [] X.env := by rfl) : PA X [e] (tAsX X.K ec W φ) := paImp (pa_cons ha pa_nil hs) fun σ H Q ⟨r, F, F0, B, S, q⟩ => ⟨r, F, F0, B, S, q⟩
def tAsX2 (K : PySem.W.Frag) (ec : EC) (W : WX) (a b : EX) : TA := fun σ H Q => ∃ r F F0 B, SR K F0 B r σ H F ∧ Thn K ec W (rb (a r) fun x => rb (b r) fun y => ok (x, y)) σ F H fun d F' H' => ∀ v u, RepX K F' H' d.1 v → RepX K F' H' d.2 u → Q [v, u] H'
theorem pa2 (ha : DX X ec W e φ) (hb : DX X ec W b ψ) (hs : starEach [e, b] X.env = (false, eval e X.env) :: starEach [b] X.env := by rfl) (hs2 : starEach [b] X.env = (false, eval b X.env) :: starEach [] X.env := by rfl) : PA X [e, b] (tAsX2 X.K ec W φ ψ) :=
  paImp (pa_cons ha (pa_cons hb pa_nil hs2) hs) fun σ H Q ⟨r, F, F0, B, S, q⟩ =>
    ⟨r, F, F0, B, S, (Thn.bind q).imp fun x F1 H1 _ g1 h1 v rv => ⟨r, F1, F0, B, S.grow g1, (Thn.bind h1).imp fun y F2 H2 _ g2 h2 u ru => Thn.ok g2.i (a := (x, y)) h2 v u (rv.mono g2) ru⟩⟩
abbrev RV := List V → Hp → VK → Prop
def B1 (K : PySem.W.Frag) (f : D → Option D) (t : RV) : Prop := ∀ (x d : D) (F H : Hp) (v : V) (Q : VK), f x = some d → Same F H → RepX K F H x v → (∀ w F' H', Gr F H F' H' → Rep K F' d w → Q w H') → t [v] H Q
def B1B (K : PySem.W.Frag) (f : D → Option Bool) (t : RV) : Prop := ∀ (x : D) (c : Bool) (F H : Hp) (v : V) (Q : VK), f x = some c → Same F H → RepX K F H x v → Q (.bl c) H → t [v] H Q
def B1L (K : PySem.W.Frag) (f : D → Option (List D)) (t : RV) : Prop := ∀ (x : D) (xs : List D) (F H : Hp) (v : V) (Q : VK), f x = some xs → Same F H → RepX K F H x v → (∀ p vs, H p = none → RepL K F xs vs → Q (.ref p) (upd H p (.lst vs))) → t [v] H Q
def B2 (K : PySem.W.Frag) (f : D → D → Option D) (t : RV) : Prop := ∀ (x y d : D) (F H : Hp) (v u : V) (Q : VK), f x y = some d → Same F H → RepX K F H x v → RepX K F H y u → (∀ w F' H', Gr F H F' H' → Rep K F' d w → Q w H') → t [v, u] H Q
section
variable {x : Str} {id T : String} {t : RV} {p : Pos}
theorem b1_use {K : PySem.W.Frag} {f : D → Option D} (hs : B1 K f t) {σ : L2.St} {H : Hp} {Q : VK} (h : tD K ec W (v1 f φ) σ H Q) : tCB t (tAsX K ec W φ) σ H Q := by
  obtain ⟨r, F, F0, B, S, q⟩ := h
  refine ⟨r, F, F0, B, S, (Thn.bind q).imp fun x F1 H1 _ g1 h1 v rv => ?_⟩
  obtain ⟨d, ed, k⟩ := h1.po
  exact hs x d F1 H1 v Q ed g1.i rv fun w F' H' g' rw' => k F' H' g' w rw'
theorem b1B_use {K : PySem.W.Frag} {f : D → Option Bool} (hs : B1B K f t) {σ : L2.St} {H : Hp} {Q : VK} (h : tD K ec W (vB (c1 f φ)) σ H Q) : tCB t (tAsX K ec W φ) σ H Q := by
  obtain ⟨r, F, F0, B, S, q⟩ := h
  have q1 : Thn K ec W (rb (φ r) fun x => rb (po (f x)) fun b => ok (PyData.bool b)) σ F H fun d F' H' => ∀ v, Rep K F' d v → Q v H' := by
    have q0 : Thn K ec W (rb (rb (φ r) fun x => po (f x)) fun b => ok (PyData.bool b)) σ F H fun d F' H' => ∀ v, Rep K F' d v → Q v H' := q
    revert q0
    match φ r with
    | none => exact fun z => z
    | some (.error _) => exact fun z => z
    | some (.ok k) => exact fun z => z
  refine ⟨r, F, F0, B, S, (Thn.bind q1).imp fun x F1 H1 _ g1 h1 v rv => ?_⟩
  match ef : f x with
  | none =>
    rw [ef] at h1
    exact False.elim h1
  | some d =>
    rw [ef] at h1
    exact hs x d F1 H1 v Q ef g1.i rv (Thn.ok g1.i (a := PyData.bool d) h1 _ rfl)
theorem b1L_use {K : PySem.W.Frag} {f : D → Option (List D)} (hs : B1L K f t) {σ : L2.St} {H : Hp} {Q : VK} (h : tL K ec W (l1 f φ) σ H Q) : tCB t (tAsX K ec W φ) σ H Q := by
  obtain ⟨r, F, F0, B, S, q⟩ := h
  refine ⟨r, F, F0, B, S, (Thn.bind q).imp fun x F1 H1 _ g1 h1 v rv => ?_⟩
  obtain ⟨d, ed, k⟩ := h1.po
  exact hs x d F1 H1 v Q ed g1.i rv fun p vs hp hv => k F1 H1 (Gr.refl g1.i) p vs hp hv
theorem b2_use {K : PySem.W.Frag} {f : D → D → Option D} (hs : B2 K f t) {σ : L2.St} {H : Hp} {Q : VK} (h : tD K ec W (v2 f φ ψ) σ H Q) : tCB t (tAsX2 K ec W φ ψ) σ H Q := by
  obtain ⟨r, F, F0, B, S, q⟩ := h
  have q1 : Thn K ec W (rb (rb (φ r) fun x => rb (ψ r) fun y => ok (x, y)) fun z => po (f z.1 z.2)) σ F H fun d F' H' => ∀ v, Rep K F' d v → Q v H' := by
    have q0 : Thn K ec W (rb (φ r) fun x => rb (ψ r) fun y => po (f x y)) σ F H fun d F' H' => ∀ v, Rep K F' d v → Q v H' := q
    revert q0
    match φ r with
    | none => exact fun z => z
    | some (.error _) => exact fun z => z
    | some (.ok k) =>
      match ψ r with
      | none => exact fun z => z
      | some (.error _) => exact fun z => z
      | some (.ok k) => exact fun z => z
  refine ⟨r, F, F0, B, S, (Thn.bind q1).imp fun z F1 H1 _ g1 h1 v u rv ru => ?_⟩
  obtain ⟨d, ed, k⟩ := h1.po
  exact hs z.1 z.2 d F1 H1 v u Q ed g1.i rv ru fun w F' H' g' rw' => k F' H' g' w rw'
variable (hg : Gl X x) (hm : X.mg x = none)
theorem de_b1 {f : D → Option D} (hc : CallR X (.builtin id) t) (hs : B1 X.K f t) (hg : Gl X x) (hm : X.mg x = none) (ha : DX X ec W e φ) (hv : bootBuiltins x = some (.builtin id)) (hn : x ≠ "__name__" := by decide) (hdb : (x == ("__debug__" : Str)) = false := by decide)
    (he : starEach [e] X.env = (false, eval e X.env) :: starEach [] X.env := by rfl) : DE X ec W (.Call (.Name x p) [e] [] pos) (v1 f φ) := peImp (pe_callB hc hg hm hv (pa1 ha he) hn hdb he (by rfl)) fun _ _ _ h => b1_use hs h
theorem db_b1 {f : D → Option Bool} (hc : CallR X (.builtin id) t) (hs : B1B X.K f t) (hg : Gl X x) (hm : X.mg x = none) (ha : DX X ec W e φ) (hv : bootBuiltins x = some (.builtin id)) (hn : x ≠ "__name__" := by decide) (hdb : (x == ("__debug__" : Str)) = false := by decide)
    (he : starEach [e] X.env = (false, eval e X.env) :: starEach [] X.env := by rfl) : DB X ec W (.Call (.Name x p) [e] [] pos) (c1 f φ) := peImp (pe_callB hc hg hm hv (pa1 ha he) hn hdb he (by rfl)) fun _ _ _ h => b1B_use hs h
theorem dl_b1 {f : D → Option (List D)} (hc : CallR X (.builtin id) t) (hs : B1L X.K f t) (hg : Gl X x) (hm : X.mg x = none) (ha : DX X ec W e φ) (hv : bootBuiltins x = some (.builtin id)) (hn : x ≠ "__name__" := by decide) (hdb : (x == ("__debug__" : Str)) = false := by decide)
    (he : starEach [e] X.env = (false, eval e X.env) :: starEach [] X.env := by rfl) : DLi X ec W (.Call (.Name x p) [e] [] pos) (l1 f φ) := peImp (pe_callB hc hg hm hv (pa1 ha he) hn hdb he (by rfl)) fun _ _ _ h => b1L_use hs h
theorem de_t1 {f : D → Option D} (hc : CallR X (.type T) t) (hs : B1 X.K f t) (hg : Gl X x) (hm : X.mg x = none) (ha : DX X ec W e φ) (hv : bootBuiltins x = some (.type T)) (hn : x ≠ "__name__" := by decide) (hdb : (x == ("__debug__" : Str)) = false := by decide)
    (he : starEach [e] X.env = (false, eval e X.env) :: starEach [] X.env := by rfl) : DE X ec W (.Call (.Name x p) [e] [] pos) (v1 f φ) := peImp (pe_callTy hc hg hm hv (pa1 ha he) hn hdb he (by rfl)) fun _ _ _ h => b1_use hs h
theorem dl_t1 {f : D → Option (List D)} (hc : CallR X (.type T) t) (hs : B1L X.K f t) (hg : Gl X x) (hm : X.mg x = none) (ha : DX X ec W e φ) (hv : bootBuiltins x = some (.type T)) (hn : x ≠ "__name__" := by decide) (hdb : (x == ("__debug__" : Str)) = false := by decide)
    (he : starEach [e] X.env = (false, eval e X.env) :: starEach [] X.env := by rfl) : DLi X ec W (.Call (.Name x p) [e] [] pos) (l1 f φ) := peImp (pe_callTy hc hg hm hv (pa1 ha he) hn hdb he (by rfl)) fun _ _ _ h => b1L_use hs h
theorem de_b2 {f : D → D → Option D} (hc : CallR X (.builtin id) t) (hs : B2 X.K f t) (hg : Gl X x) (hm : X.mg x = none) (ha : DX X ec W e φ) (hb : DX X ec W b ψ) (hv : bootBuiltins x = some (.builtin id)) (hn : x ≠ "__name__" := by decide) (hdb : (x == ("__debug__" : Str)) = false := by decide)
    (he : starEach [e, b] X.env = (false, eval e X.env) :: starEach [b] X.env := by rfl) (he2 : starEach [b] X.env = (false, eval b X.env) :: starEach [] X.env := by rfl) (hpl : (backTo pos (starEach [b] X.env)).any (·.1) = false := by rfl) :
    DE X ec W (.Call (.Name x p) [e, b] [] pos) (v2 f φ ψ) := peImp (pe_callB hc hg hm hv (pa2 ha hb he he2) hn hdb he hpl) fun _ _ _ h => b2_use hs h
end
end
section
variable {K : PySem.W.Frag}
def rLen (K : PySem.W.Frag) : RV := fun xs H Q => ∃ p ys, xs = [.ref p] ∧ (SqL K H p ys ∨ SqT K H p ys) ∧ Q (.int ys.length) H
theorem b_len : B1 K dLen (rLen K) := by
  intro x d F H v Q hf e rx k
  unfold dLen at hf
  split at hf
  · cases hf
    obtain ⟨a, vs, rfl, h1, h2⟩ := rx
    exact ⟨a, vs, rfl, .inl h1, by rw [h2.length]; exact k _ F H (Gr.refl e) rfl⟩
  · cases hf
    obtain ⟨a, vs, rfl, h1, h2⟩ := rx
    exact ⟨a, vs, rfl, .inr (tupT e h1), by rw [h2.length]; exact k _ F H (Gr.refl e) rfl⟩
  · cases hf
def rInt1 : RV := fun xs H Q => (∃ i, xs = [.int i] ∧ Q (.int i) H) ∨ ∃ k, xs = [.bl k] ∧ Q (.int (if k then 1 else 0)) H
theorem b_int : B1 K dInt rInt1 := by
  intro x d F H v Q hf e rx k
  unfold dInt at hf
  split at hf
  · cases hf; exact .inl ⟨_, by rw [show v = _ from rx], k _ F H (Gr.refl e) rfl⟩
  · cases hf; exact .inr ⟨_, by rw [show v = _ from rx], k _ F H (Gr.refl e) rfl⟩
  · cases hf
def rMax2 : RV := fun xs H Q => ∃ i j, xs = [.int i, .int j] ∧ Q (.int (if j > i then j else i)) H
def rMin2 : RV := fun xs H Q => ∃ i j, xs = [.int i, .int j] ∧ Q (.int (if j < i then j else i)) H
theorem b_max : B2 K dMax rMax2 := by
  intro x y d F H v u Q hf e rx ry k
  unfold dMax at hf
  split at hf
  · cases hf; exact ⟨_, _, by rw [show v = _ from rx, show u = _ from ry], k _ F H (Gr.refl e) rfl⟩
  · cases hf
theorem b_min : B2 K dMin rMin2 := by
  intro x y d F H v u Q hf e rx ry k
  unfold dMin at hf
  split at hf
  · cases hf; exact ⟨_, _, by rw [show v = _ from rx, show u = _ from ry], k _ F H (Gr.refl e) rfl⟩
  · cases hf
def rListOf (K : PySem.W.Frag) : RV := fun xs H Q => ∃ p ys, xs = [.ref p] ∧ (SqL K H p ys ∨ SqT K H p ys) ∧ ∀ l, H l = none → Q (.ref l) (upd H l (.lst ys))
theorem b_list : B1L K lOf (rListOf K) := by
  intro x xs F H v Q hf e rx k
  unfold lOf at hf
  split at hf
  · cases hf
    obtain ⟨a, vs, rfl, h1, h2⟩ := rx
    exact ⟨a, vs, rfl, .inl h1, fun l hl => k l vs hl h2⟩
  · cases hf
    obtain ⟨a, vs, rfl, h1, h2⟩ := rx
    exact ⟨a, vs, rfl, .inr (tupT e h1), fun l hl => k l vs hl h2⟩
  · cases hf
def rTupOf (K : PySem.W.Frag) : RV := fun xs H Q => ∃ p ys, xs = [.ref p] ∧ ((SqL K H p ys ∧ ∀ l, H l = none → Q (.ref l) (upd H l (.tup ys))) ∨ (SqT K H p ys ∧ Q (.ref p) H))
theorem b_tup : B1 K dTup (rTupOf K) := by
  intro x d F H v Q hf e rx k
  unfold dTup at hf
  split at hf
  · cases hf
    obtain ⟨a, vs, rfl, h1, h2⟩ := rx
    refine ⟨a, vs, rfl, .inl ⟨h1, fun l hl => ?_⟩⟩
    have g' := Gr.new e hl (.tup vs)
    exact k _ _ _ g' ⟨l, vs, rfl, upd_same, h2.mono g'.f⟩
  · cases hf
    obtain ⟨a, vs, rfl, h1, h2⟩ := rx
    exact ⟨a, vs, rfl, .inr ⟨tupT e h1, k _ F H (Gr.refl e) ⟨a, vs, rfl, h1, h2⟩⟩⟩
  · cases hf
theorem bools_rep {F : Hp} : ∀ {ds : List D} {vs : List V} {bs : List Bool}, RepL K F ds vs → bools ds = some bs → vs = bs.map V.bl
  | [], _, _, h, hb => by
    cases hb
    exact h
  | .bool b :: ds, _, bs, ⟨v, r, q, h1, h2⟩, hb => by
    unfold bools at hb
    cases eb : bools ds with
    | none => rw [eb] at hb; cases hb
    | some cs =>
      rw [eb] at hb
      cases hb
      rw [q, show v = V.bl b from h1, bools_rep h2 eb]
      rfl
  | .none :: _, _, _, _, hb => by cases hb
  | .int _ :: _, _, _, _, hb => by cases hb
  | .str _ :: _, _, _, _, hb => by cases hb
  | .list _ :: _, _, _, _, hb => by cases hb
  | .tuple _ :: _, _, _, _, hb => by cases hb
  | .dict _ :: _, _, _, _, hb => by cases hb
theorem b_all : B1B K cAll (rAll K) := by
  intro x c F H v Q hf e rx k
  unfold cAll at hf
  split at hf
  · rename_i xs
    split at hf
    · rename_i bs hb
      cases hf
      obtain ⟨a, vs, rfl, h1, h2⟩ := rx
      exact ⟨a, bs, rfl, (by rw [← bools_rep h2 hb]; exact h1), k⟩
    · cases hf
  · cases hf
theorem b_any : B1B K cAny (rAny K) := by
  intro x c F H v Q hf e rx k
  unfold cAny at hf
  split at hf
  · rename_i xs
    split at hf
    · rename_i bs hb
      cases hf
      obtain ⟨a, vs, rfl, h1, h2⟩ := rx
      exact ⟨a, bs, rfl, (by rw [← bools_rep h2 hb]; exact h1), k⟩
    · cases hf
  · cases hf
/-! ### isinstance -/
theorem RepX.ty {F H : Hp} (e : Same F H) {x : D} {v : V} (rx : RepX K F H x v) : TyX K H v (.type (tyName x)) := by
  cases x with
  | none => rw [show v = V.non from rx]; exact .base .non
  | bool b => rw [show v = V.bl b from rx]; exact .base (.bl b)
  | int i => rw [show v = V.int i from rx]; exact .base (.int i)
  | str z => rw [show v = V.str z from rx]; exact .base (.str z)
  | list ds =>
    obtain ⟨a, vs, rfl, h1, h2⟩ := rx
    rcases h1 with (h | ⟨o, h⟩) | ⟨o, its, n, hk, hc, _⟩
    · exact .base (.lst h)
    · exact .base (.frz h)
    · exact .kList hk hc
  | tuple ds =>
    obtain ⟨a, vs, rfl, h1, h2⟩ := rx
    exact .base (.tup (e _ _ h1))
  | dict ks =>
    obtain ⟨a, rfl, ⟨_, ks, h1⟩ | ⟨ks, h1, _⟩⟩ := rx
    · exact .base (.dK (e _ _ h1))
    · exact .base (.dT (e _ _ h1))
def isKind (T : String) : Prop := ∀ x : D, kitB (tyName x) T = some (isInst T x)
theorem kind_of {T : String} (h : (["NoneType", "bool", "int", "str", "list", "tuple", "dict"].all fun n => kitB n T == some (n == T || (T == "int" && n == "bool"))) = true) : isKind T := by
  intro x
  have h' := List.all_eq_true.mp h
  cases x with
  | none => exact eq_of_beq (h' "NoneType" (by decide))
  | bool b => exact eq_of_beq (h' "bool" (by decide))
  | int i => exact eq_of_beq (h' "int" (by decide))
  | str z => exact eq_of_beq (h' "str" (by decide))
  | list ds => exact eq_of_beq (h' "list" (by decide))
  | tuple ds => exact eq_of_beq (h' "tuple" (by decide))
  | dict ks => exact eq_of_beq (h' "dict" (by decide))
theorem kind_int : isKind "int" := kind_of (by decide +kernel)
theorem kind_bool : isKind "bool" := kind_of (by decide +kernel)
theorem kind_str : isKind "str" := kind_of (by decide +kernel)
theorem kind_list : isKind "list" := kind_of (by decide +kernel)
theorem kind_tuple : isKind "tuple" := kind_of (by decide +kernel)
theorem kind_dict : isKind "dict" := kind_of (by decide +kernel)
end
section
variable {X : Cx} {ec : EC} {W : WX} {e : Expr} {pos p p2 : Pos} {φ : EX}
theorem db_isi {T : String} {tn : Str} (kT : isKind T) (hg : Gl X "isinstance") (hm : X.mg "isinstance" = none) (hg2 : Gl X tn) (hm2 : X.mg tn = none) (hv2 : bootBuiltins tn = some (.type T)) (ha : DX X ec W e φ) (hn2 : tn ≠ "__name__" := by decide) (hdb2 : (tn == ("__debug__" : Str)) = false := by decide)
    (he : starEach [e, .Name tn p2] X.env = (false, eval e X.env) :: starEach [.Name tn p2] X.env := by rfl) (he2 : starEach [.Name tn p2] X.env = (false, eval (.Name tn p2) X.env) :: starEach [] X.env := by rfl) (hpl : (backTo pos (starEach [.Name tn p2] X.env)).any (·.1) = false := by rfl) :
    DB X ec W (.Call (.Name "isinstance" p) [e, .Name tn p2] [] pos) (c1 (cIsi T) φ) :=
  peImp (pe_callB call_isi hg hm boot_isinstance (pa_cons ha (pa_cons (pe_bltn (v := .ty T) hg2 hm2 hv2 rfl hn2 hdb2) pa_nil he2) he) (by decide) (by decide) he hpl) fun σ H Q h => by
    obtain ⟨r, F, F0, B, S, q⟩ := h
    have q1 : Thn X.K ec W (rb (φ r) fun x => ok (PyData.bool (isInst T x))) σ F H fun d F' H' => ∀ v, Rep X.K F' d v → Q v H' := by
      have q0 : Thn X.K ec W (rb (rb (φ r) fun x => po (cIsi T x)) fun b => ok (PyData.bool b)) σ F H fun d F' H' => ∀ v, Rep X.K F' d v → Q v H' := q
      revert q0
      match φ r with
      | none => exact fun z => z
      | some (.error _) => exact fun z => z
      | some (.ok k) => exact fun z => z
    exact ⟨r, F, F0, B, S, (Thn.bind q1).imp fun x F1 H1 _ g1 h1 v rv =>
      ⟨v, .ty T, .type (tyName x), .type T, isInst T x, rfl, .ty T, rv.ty g1.i, kit_ty (kT x), Thn.ok g1.i (a := PyData.bool (isInst T x)) h1 _ rfl⟩⟩
end
end DL
/-! What is walked; targets; comprehensions. -/
namespace DL
open PySem PySem.Spec PyProof.Rows L2

/-- J gives the data xs, as long as what stands in Bh stands; the items lie in Fb -/
def IterOk (K : PySem.W.Frag) (Bh Fb : Hp) (J : It) (xs : List D) : Prop := ∃ (G : Hp → Prop) (Y : Nat → Hp → V → Hp → Prop), Walk J xs.length G Y ∧ (∀ H, Same Bh H → G H) ∧
  ∀ (i : Nat) (d : D) (H : Hp) (x : V) (H' F : Hp), xs[i]? = some d → Same Bh H → Same Fb F → Same F H → Y i H x H' → ∃ F', Gr F H F' H' ∧ Rep K F' d x
theorem IterOk.weak {K : PySem.W.Frag} {B1 B2 Fb : Hp} {J : It} {xs : List D} (e : Same B1 B2) (h : IterOk K B1 Fb J xs) : IterOk K B2 Fb J xs := by
  obtain ⟨G, Y, w, h1, h2⟩ := h
  exact ⟨G, Y, w, fun H q => h1 H (e.trans q), fun i d H x H' F hd q => h2 i d H x H' F hd (e.trans q)⟩
def tI (K : PySem.W.Frag) (ec : EC) (W : WX) (a : EL) : TI := fun σ H R => ∃ r F F0 B, SR K F0 B r σ H F ∧ Thn K ec W (a r) σ F H fun xs F' H' => ∀ J, IterOk K F' F' J xs → R J H'
/-- within an expression: an own list may be walked -/
def tIX (K : PySem.W.Frag) (ec : EC) (W : WX) (a : EL) : TI := fun σ H R => ∃ r F F0 B, SR K F0 B r σ H F ∧ Thn K ec W (a r) σ F H fun xs F' H' => ∀ J, IterOk K H' F' J xs → R J H'
theorem piImp {X : Cx} {tg e : Expr} {t t' : TI} (h : PI X tg e t) (f : ∀ σ H R, t' σ H R → t σ H R) : PI X tg e t' := ⟨fun pins s σ H R I q => h.run pins s σ H R I (f σ H R q)⟩
abbrev DI (X : Cx) (ec : EC) (W : WX) (tg e : Expr) (a : EL) : Prop := PI X tg e (tI X.K ec W a)
abbrev DIX (X : Cx) (ec : EC) (W : WX) (tg e : Expr) (a : EL) : Prop := PI X tg e (tIX X.K ec W a)
theorem DI.x {X : Cx} {ec : EC} {W : WX} {tg e : Expr} {a : EL} (h : DI X ec W tg e a) : DIX X ec W tg e a := piImp h fun σ H R ⟨r, F, F0, B, S, q⟩ =>
  ⟨r, F, F0, B, S, q.imp fun xs F1 H1 _ g1 k J hJ => k J (hJ.weak g1.i)⟩
theorem iter_list {K : PySem.W.Frag} {Bh Fb : Hp} {a : Addr} {vs : List V} {xs : List D} (h : SqL K Bh a vs) (hr : RepL K Fb xs vs) : IterOk K Bh Fb (Itl K a) xs := by
  refine ⟨_, _, hr.length ▸ walk_list (xs := vs), fun H q => q.seq h, fun i d H x H' F hd _ f e y => ?_⟩
  obtain ⟨rfl, hx⟩ := y
  obtain ⟨v, h1, h2⟩ := hr.get hd
  rw [h1] at hx
  cases hx
  exact ⟨F, Gr.refl e, h2.mono f⟩
theorem iter_tup {K : PySem.W.Frag} {Bh Fb : Hp} {a : Addr} {vs : List V} {xs : List D} (h : SqT K Bh a vs) (hr : RepL K Fb xs vs) : IterOk K Bh Fb (Itt K a) xs := by
  refine ⟨_, _, hr.length ▸ walk_tup (xs := vs), fun H q => seqT q h, fun i d H x H' F hd _ f e y => ?_⟩
  obtain ⟨rfl, hx⟩ := y
  obtain ⟨v, h1, h2⟩ := hr.get hd
  rw [h1] at hx
  cases hx
  exact ⟨F, Gr.refl e, h2.mono f⟩
theorem rng_get {lo : Int} {n i : Nat} {d : D} (h : (rng lo n)[i]? = some d) : d = .int (lo + i) := by
  unfold rng at h
  rw [List.getElem?_map] at h
  cases e : (List.range n)[i]? with
  | none => rw [e] at h; cases h
  | some k =>
    rw [e] at h
    have hk : k = i := by
      have h2 := List.getElem?_eq_some_iff.mp e
      obtain ⟨h3, h4⟩ := h2
      simpa using h4.symm
    subst hk
    exact (Option.some.inj h).symm
theorem rng_len (lo : Int) (n : Nat) : (rng lo n).length = n := by
  unfold rng
  rw [List.length_map, List.length_range]
theorem iter_rng {K : PySem.W.Frag} {Bh Fb : Hp} {lo : Int} {n : Nat} : IterOk K Bh Fb (Itr lo n) (rng lo n) := by
  refine ⟨fun _ => True, YFn fun i => .int (lo + i), by rw [rng_len]; exact walk_range, fun _ _ => trivial, fun i d H x H' F hd _ f e y => ?_⟩
  obtain ⟨rfl, rfl⟩ := y
  rw [rng_get hd]
  exact ⟨F, Gr.refl e, rfl⟩
section
variable {X : Cx} {ec : EC} {W : WX} {tg e b : Expr} {pos p : Pos} {φ ψ : EX}
/-- what a list or a tuple gives when it is walked -/
theorem pi_seq {tl : TE} (hl : PE X e tl) : PI X tg e (fun σ H R => tl σ H fun x H1 => (∃ a xs, x = .ref a ∧ SqL X.K H1 a xs ∧ R (Itl X.K a) H1) ∨ ∃ a xs, x = .ref a ∧ SqT X.K H1 a xs ∧ R (Itt X.K a) H1) := by
  refine ⟨fun pins s σ H R I h => ?_⟩
  refine thn (hl.run pins s σ H _ I h) fun v s1 ⟨x, H1, I1, r1, q1⟩ => ?_
  rcases q1 with ⟨a, xs, e, hq, q⟩ | ⟨a, xs, e, hq, q⟩
  · subst e
    cases r1
    obtain ⟨its, rv, p, hz⟩ := I1.list hq
    refine wpAny_pyIter_list p.isList ?_
    refine ⟨s1.heap.objs.size, [s1.heap.objs.size], _, _, H1, rfl, I1.kept (t' := s1.toks) fun b o e => Heap.get?_push_of_some _ e, turn_list a _, ⟨_, Heap.get?_push_size _ rfl, rfl, rfl⟩, fun b hb => ?_, q⟩
    have e : b = s1.heap.objs.size := by simpa using hb
    subst e
    exact I1.fpOk (Nat.le_refl _) (I1.hok.fresh (Nat.le_refl _))
  · subst e
    cases r1
    obtain ⟨its, rv, p, hz⟩ := I1.tuple hq
    refine wpAny_pyIter_tuple (show s1.heap.IsTuple a its.toArray from p) ?_
    refine ⟨s1.heap.objs.size, [s1.heap.objs.size], _, _, H1, rfl, I1.kept (t' := s1.toks) fun b o e => Heap.get?_push_of_some _ e, turn_tuple a _, ⟨_, Heap.get?_push_size _ rfl, rfl, rfl⟩, fun b hb => ?_, q⟩
    have e : b = s1.heap.objs.size := by simpa using hb
    subst e
    exact I1.fpOk (Nat.le_refl _) (I1.hok.fresh (Nat.le_refl _))
theorem di_seq (h : DE X ec W e φ) : DI X ec W tg e (iSeq φ) := piImp (pi_seq h) fun σ H R ⟨r, F, F0, B, S, q⟩ => by
  refine ⟨r, F, F0, B, S, (Thn.bind q).imp fun x F1 H1 _ g1 h1 v rv => ?_⟩
  obtain ⟨xs, ex, k⟩ := h1.po
  have k' := k F1 H1 (Gr.refl g1.i)
  cases x with
  | list ys =>
    cases ex
    obtain ⟨a, vs, rfl, h2, h3⟩ := rv
    exact .inl ⟨a, vs, rfl, g1.i.seq h2, k' _ (iter_list h2 h3)⟩
  | tuple ys =>
    cases ex
    obtain ⟨a, vs, rfl, h2, h3⟩ := rv
    exact .inr ⟨a, vs, rfl, tupT g1.i h2, k' _ (iter_tup (.inl (.inl h2)) h3)⟩
  | _ => cases ex
theorem dix_seq (h : DX X ec W e φ) : DIX X ec W tg e (iSeq φ) := piImp (pi_seq h) fun σ H R ⟨r, F, F0, B, S, q⟩ => by
  refine ⟨r, F, F0, B, S, (Thn.bind q).imp fun x F1 H1 _ g1 h1 v rv => ?_⟩
  obtain ⟨xs, ex, k⟩ := h1.po
  have k' := k F1 H1 (Gr.refl g1.i)
  cases x with
  | list ys =>
    cases ex
    obtain ⟨a, vs, rfl, h2, h3⟩ := rv
    exact .inl ⟨a, vs, rfl, h2, k' _ (iter_list h2 h3)⟩
  | tuple ys =>
    cases ex
    obtain ⟨a, vs, rfl, h2, h3⟩ := rv
    exact .inr ⟨a, vs, rfl, tupT g1.i h2, k' _ (iter_tup (tupT g1.i h2) h3)⟩
  | _ => cases ex
theorem di_range1 (hg : Gl X "range") (hm : X.mg "range" = none) (ha : DX X ec W e φ) (hs : starEach [e] X.env = [(false, eval e X.env)] := by rfl) : DI X ec W tg (.Call (.Name "range" p) [e] [] pos) (iRange1 φ) :=
  piImp (pi_range1 hg hm (pa1 ha hs) hs) fun σ H R ⟨r, F, F0, B, S, q⟩ => by
    refine ⟨r, F, F0, B, S, (Thn.bind q).imp fun x F1 H1 ex1 g1 h1 v rv => ?_⟩
    obtain ⟨xs, ex, k⟩ := h1.po
    unfold rng1 at ex
    split at ex
    · rename_i j
      split at ex
      · rename_i hj
        cases ex
        unfold small62 at hj
        simp only [Bool.and_eq_true, decide_eq_true_eq] at hj
        exact ⟨j, by rw [show v = _ from rv], hj.1, hj.2, k F1 H1 (Gr.refl g1.i) _ iter_rng⟩
      · cases ex
    · cases ex
theorem di_range2 (hg : Gl X "range") (hm : X.mg "range" = none) (ha : DX X ec W e φ) (hb : DX X ec W b ψ) (hs : starEach [e, b] X.env = [(false, eval e X.env), (false, eval b X.env)] := by rfl) (hs2 : starEach [b] X.env = [(false, eval b X.env)] := by rfl) :
    DI X ec W tg (.Call (.Name "range" p) [e, b] [] pos) (iRange2 φ ψ) :=
  piImp (pi_range2 hg hm (pa2 ha hb (by rw [hs, hs2]) hs2) hs hs2) fun σ H R ⟨r, F, F0, B, S, q⟩ => by
    have q1 : Thn X.K ec W (rb (rb (φ r) fun x => rb (ψ r) fun y => ok (x, y)) fun z => po (rng2 z.1 z.2)) σ F H fun xs F' H' => ∀ J, IterOk X.K F' F' J xs → R J H' := by
      have q0 : Thn X.K ec W (rb (φ r) fun x => rb (ψ r) fun y => po (rng2 x y)) σ F H fun xs F' H' => ∀ J, IterOk X.K F' F' J xs → R J H' := q
      revert q0
      match φ r with
      | none => exact fun z => z
      | some (.error _) => exact fun z => z
      | some (.ok k) =>
        match ψ r with
        | none => exact fun z => z
        | some (.error _) => exact fun z => z
        | some (.ok k) => exact fun z => z
    refine ⟨r, F, F0, B, S, (Thn.bind q1).imp fun z F1 H1 ez g1 h1 v u rv ru => ?_⟩
    obtain ⟨x, y⟩ := z
    obtain ⟨xs, ex, k⟩ := h1.po
    unfold rng2 at ex
    split at ex
    · rename_i i j ei ej
      split at ex
      · rename_i hj
        cases ex
        have ei' : x = .int i := ei
        have ej' : y = .int j := ej
        subst ei' ej'
        unfold small62 at hj
        simp only [Bool.and_eq_true, decide_eq_true_eq] at hj
        exact ⟨i, j, by rw [show v = _ from rv, show u = _ from ru], ⟨hj.1.1, hj.1.2, hj.2.1, hj.2.2⟩, k F1 H1 (Gr.refl g1.i) _ iter_rng⟩
      · cases ex
    · cases ex
end
/-! ### targets -/
def gMany : List Nat → TGs
  | [] => gNil
  | i :: is => gCons (gName i) (gMany is)
def gNst (K : PySem.W.Frag) : List (Nat ⊕ List Nat) → TGs
  | [] => gNil
  | .inl i :: gs => gCons (gName i) (gNst K gs)
  | .inr is :: gs => gCons (gTup K is.length (gMany is)) (gNst K gs)
def tgT (K : PySem.W.Frag) : Tg → TG
  | .one i => gName i
  | .many is => gTup K is.length (gMany is)
  | .nst gs => gTup K gs.length (gNst K gs)
theorem wipe_get (σ : L2.St) : ∀ (vs : List Nat) (j : Nat), (wipe σ vs)[j]? = if j ∈ vs then (if j < σ.length then some none else none) else σ[j]?
  | [], j => by simp [wipe]
  | v :: vs, j => by
    have ih := wipe_get σ vs j
    show ((wipe σ vs).set v none)[j]? = _
    by_cases c : j = v
    · subst c
      rw [if_pos List.mem_cons_self]
      by_cases hl : j < σ.length
      · rw [if_pos hl, List.getElem?_set_self (by rw [wipe_length]; exact hl)]
      · rw [if_neg hl]
        exact List.getElem?_eq_none (by rw [List.length_set, wipe_length]; omega)
    · rw [List.getElem?_set_ne (Ne.symm c), ih]
      by_cases hm : j ∈ vs
      · rw [if_pos hm, if_pos (List.mem_cons_of_mem _ hm)]
      · rw [if_neg hm, if_neg (fun z => (List.mem_cons.mp z).elim c hm)]
theorem wipe_set (σ : L2.St) (vs : List Nat) {i : Nat} {y : Option V} (hi : i ∈ vs) : wipe (σ.set i y) vs = wipe σ vs := by
  apply List.ext_getElem?
  intro j
  rw [wipe_get, wipe_get, List.length_set]
  by_cases hm : j ∈ vs
  · rw [if_pos hm, if_pos hm]
  · rw [if_neg hm, if_neg hm, List.getElem?_set_ne (fun z => hm (by rw [← z]; exact hi))]
theorem wipe_wipe (σ : L2.St) (vs : List Nat) : wipe (wipe σ vs) vs = wipe σ vs := by
  apply List.ext_getElem?
  intro j
  rw [wipe_get (wipe σ vs), wipe_length, wipe_get σ]
  by_cases hm : j ∈ vs
  · rw [if_pos hm, if_pos hm]
  · rw [if_neg hm, if_neg hm]
theorem SR.wipe {K : PySem.W.Frag} {F0 B : Hp} {σ : L2.St} {H F : Hp} : ∀ (vs : List Nat) {r : Env}, SR K F0 B r σ H F → SR K F0 B (unSlots vs r) (L2.wipe σ vs) H F
  | [], _, S => S
  | v :: vs, _, S => (SR.wipe vs S).unset
section
variable {K : PySem.W.Frag} {F0 B : Hp} {H F : Hp}
theorem many_ok : ∀ (is : List Nat) {xs : List D} {vs : List V} {r r1 : Env} {σ : L2.St} {Q : L2.St → Hp → Prop}, SR K F0 B r σ H F → RepL K F xs vs → putMany is xs r = some r1 →
    (∀ σ2, SR K F0 B r1 σ2 H F → (∀ ws : List Nat, (∀ i ∈ is, i ∈ ws) → L2.wipe σ2 ws = L2.wipe σ ws) → Q σ2 H) → gMany is vs σ H Q
  | [], [], vs, r, r1, σ, Q, S, h, hp, k => by
    have e : vs = [] := h
    have e2 : r = r1 := Option.some.inj hp
    subst e e2
    exact ⟨rfl, k σ S fun _ _ => rfl⟩
  | [], _ :: _, _, _, _, _, _, _, _, hp, _ => by cases hp
  | _ :: _, [], _, _, _, _, _, _, _, hp, _ => by cases hp
  | i :: is, x :: xs, vs, r, r1, σ, Q, S, ⟨v, vr, e, h1, h2⟩, hp, k => by
    subst e
    refine ⟨v, vr, rfl, ?_⟩
    show gMany is vr (σ.set i (some v)) H Q
    exact many_ok is (S.set h1) h2 hp fun σ2 S2 w => k σ2 S2 fun ws hw => by
      rw [w ws (fun j hj => hw j (List.mem_cons_of_mem _ hj)), wipe_set σ ws (hw i List.mem_cons_self)]
theorem putMany_len : ∀ (is : List Nat) {xs : List D} {r r1 : Env}, putMany is xs r = some r1 → xs.length = is.length
  | [], [], _, _, _ => rfl
  | [], _ :: _, _, _, h => by cases h
  | _ :: _, [], _, _, h => by cases h
  | _ :: is, _ :: xs, _, _, h => by rw [List.length_cons, List.length_cons, putMany_len is h]
theorem putN_len : ∀ (gs : List (Nat ⊕ List Nat)) {xs : List D} {r r1 : Env}, putN gs xs r = some r1 → xs.length = gs.length
  | [], [], _, _, _ => rfl
  | [], _ :: _, _, _, h => by cases h
  | .inl _ :: _, [], _, _, h => by cases h
  | .inr _ :: _, [], _, _, h => by cases h
  | .inl _ :: gs, _ :: xs, _, _, h => by rw [List.length_cons, List.length_cons, putN_len gs h]
  | .inr is :: gs, x :: xs, r, r1, h => by
    cases x with
    | tuple ys =>
      have h' : (match putMany is ys r with | some r1 => putN gs xs r1 | none => none) = some r1 := h
      cases e : putMany is ys r with
      | none => rw [e] at h'; cases h'
      | some r2 =>
        rw [e] at h'
        rw [List.length_cons, List.length_cons, putN_len gs h']
    | _ => cases h
theorem nst_ok : ∀ (gs : List (Nat ⊕ List Nat)) {xs : List D} {vs : List V} {r r1 : Env} {σ : L2.St} {Q : L2.St → Hp → Prop}, SR K F0 B r σ H F → RepL K F xs vs → putN gs xs r = some r1 →
    (∀ σ2, SR K F0 B r1 σ2 H F → (∀ ws : List Nat, (∀ i ∈ slotsN gs, i ∈ ws) → L2.wipe σ2 ws = L2.wipe σ ws) → Q σ2 H) → gNst K gs vs σ H Q
  | [], [], vs, r, r1, σ, Q, S, h, hp, k => by
    have e : vs = [] := h
    have e2 : r = r1 := Option.some.inj hp
    subst e e2
    exact ⟨rfl, k σ S fun _ _ => rfl⟩
  | [], _ :: _, _, _, _, _, _, _, _, hp, _ => by cases hp
  | .inl _ :: _, [], _, _, _, _, _, _, _, hp, _ => by cases hp
  | .inr _ :: _, [], _, _, _, _, _, _, _, hp, _ => by cases hp
  | .inl i :: gs, x :: xs, vs, r, r1, σ, Q, S, ⟨v, vr, e, h1, h2⟩, hp, k => by
    subst e
    refine ⟨v, vr, rfl, ?_⟩
    show gNst K gs vr (σ.set i (some v)) H Q
    exact nst_ok gs (S.set h1) h2 hp fun σ2 S2 w => k σ2 S2 fun ws hw => by
      rw [w ws (fun j hj => hw j (List.mem_cons_of_mem _ hj)), wipe_set σ ws (hw i List.mem_cons_self)]
  | .inr is :: gs, x :: xs, vs, r, r1, σ, Q, S, ⟨v, vr, e, h1, h2⟩, hp, k => by
    subst e
    cases x with
    | tuple ys =>
      have h' : (match putMany is ys r with | some r1 => putN gs xs r1 | none => none) = some r1 := hp
      cases e : putMany is ys r with
      | none => rw [e] at h'; cases h'
      | some r2 =>
        rw [e] at h'
        obtain ⟨a, us, rfl, k1, k2⟩ := h1
        refine ⟨.ref a, vr, rfl, a, us, rfl, tupT S.gr.i k1, by rw [k2.length, putMany_len is e], ?_⟩
        exact many_ok is S k2 e fun σ2 S2 w => nst_ok gs S2 h2 h' fun σ3 S3 w3 => k σ3 S3 fun ws hw => by
          rw [w3 ws (fun j hj => hw j (List.mem_append_right _ hj)), w ws (fun j hj => hw j (List.mem_append_left _ hj))]
    | _ => cases hp
theorem put_ok {g : Tg} {x : D} {v : V} {r r1 : Env} {σ : L2.St} {Q : L2.St → Hp → Prop} (S : SR K F0 B r σ H F) (h : Rep K F x v) (hp : g.put x r = some r1)
    (k : ∀ σ2, SR K F0 B r1 σ2 H F → L2.wipe σ2 g.slots = L2.wipe σ g.slots → Q σ2 H) : tgT K g v σ H Q := by
  cases g with
  | one i =>
    have e : r.set i (.d x) = r1 := Option.some.inj hp
    subst e
    exact k _ (S.set h) (wipe_set σ [i] List.mem_cons_self)
  | many is =>
    cases x with
    | tuple xs =>
      obtain ⟨a, vs, rfl, h1, h2⟩ := h
      have hp' : putMany is xs r = some r1 := hp
      exact ⟨a, vs, rfl, tupT S.gr.i h1, by rw [h2.length, putMany_len is hp'], many_ok is S h2 hp' fun σ2 S2 w => k σ2 S2 (w _ fun _ hi => hi)⟩
    | _ => cases hp
  | nst gs =>
    cases x with
    | tuple xs =>
      obtain ⟨a, vs, rfl, h1, h2⟩ := h
      have hp' : putN gs xs r = some r1 := hp
      exact ⟨a, vs, rfl, tupT S.gr.i h1, by rw [h2.length, putN_len gs hp'], nst_ok gs S h2 hp' fun σ2 S2 w => k σ2 S2 (w _ fun _ hi => hi)⟩
    | _ => cases hp
end
/-! ### comprehensions -/
def del (H : Hp) (a : Addr) : Hp := fun b => if b = a then none else H b
theorem upd_del {H : Hp} {a : Addr} {o : HO} (h : H a = some o) : upd (del H a) a o = H := by
  funext b
  unfold upd del
  by_cases c : b = a
  · rw [if_pos c, c, h]
  · rw [if_neg c, if_neg c]
theorem del_self {H : Hp} {a : Addr} : del H a a = none := if_pos rfl
theorem del_ne {H : Hp} {a b : Addr} (h : b ≠ a) : del H a b = H b := if_neg h
theorem Gr.del {F Hm F4 H4 : Hp} {a : Addr} {o : HO} (g : Gr F (upd Hm a o) F4 H4) (hm : Hm a = none) (hf : F a = none) (ho : ∀ vs, o ≠ .tup vs := by exact fun _ z => nomatch z) : Gr F Hm F4 (DL.del H4 a) := by
  have f4 : F4 a = none := g.nu upd_same ho hf
  refine ⟨g.f, fun b x q => ?_, fun b x q => ?_, fun b hb q t => ?_⟩
  · have c := ne_of_none q hm
    rw [del_ne c]
    exact g.h b x (by rw [upd_ne c]; exact q)
  · rw [del_ne (ne_of_none q f4)]
    exact g.i b x q
  · have c : b ≠ a := fun z => hb (by rw [z]; exact hm)
    exact g.n b (by rw [upd_ne c]; exact hb) q fun vs z => t vs (by rw [upd_ne c] at z; exact z)
abbrev W0 : WX := fun _ _ _ _ => False
theorem Thn.ok0 {α : Type} {K : PySem.W.Frag} {ec : EC} {W : WX} {x : R α} {σ : L2.St} {F H : Hp} {P : α → Hp → Hp → Prop} {a : α} (h : x = DL.ok a) (k : ∀ F' H', Gr F H F' H' → P a F' H') : Thn K ec W x σ F H P := by
  subst h
  exact k
theorem noEr_ok {α : Type} {x : R α} {a : α} (h : noEr x = ok a) : x = ok a := by
  unfold noEr at h
  split at h
  · exact h
  · cases h
theorem lc_use {K : PySem.W.Frag} {ec : EC} {W : WX} {ι : EL} {g : Tg} {β : EB} {φ : EX} {vs : List Nat} (hvs : vs = g.slots) {σ : L2.St} {H : Hp} {Q : VK} (h : tL K ec W (lComp ι g β φ) σ H Q) :
    tLc (tIX K ec W ι) (tgT K g) (tT K ec W0 β) (tD K ec W0 φ) vs σ H Q := by
  subst hvs
  obtain ⟨r, F, F0, B, S, q⟩ := h
  refine ⟨r, F, F0, B, S, (Thn.bind q).imp fun xs F1 H1 _ g1 h1 J hJ D hD => ?_⟩
  by_cases hlim : xs.length ≤ lim
  · rw [if_pos hlim] at h1
    match ec1 : noEr (compL g β φ (unSlots g.slots r) xs) with
    | none => rw [ec1] at h1; exact False.elim h1
    | some (.error _) =>
      exfalso
      unfold noEr at ec1
      split at ec1
      · cases ec1
      · cases ec1
    | some (.ok ys) =>
      rw [ec1] at h1
      have hc : compL g β φ (unSlots g.slots r) xs = ok ys := noEr_ok ec1
      have S1 := SR.wipe g.slots (S.grow g1)
      obtain ⟨G, Y, w, hG, hY⟩ := hJ
      refine lc_it w (fun i Hc => ∃ done rest us F2 Hm, i ≤ xs.length ∧ compL g β φ (unSlots g.slots r) (xs.drop i) = ok rest ∧ done ++ rest = ys ∧ done.length ≤ i ∧ Hc = upd Hm D (.lst us) ∧ Hm D = none ∧ RepL K F2 done us ∧ Gr F1 H1 F2 Hm)
        ⟨[], ys, [], F1, H1, Nat.zero_le _, hc, rfl, Nat.le_refl _, rfl, hD, rfl, Gr.refl g1.i⟩ ?_ ?_ ?_
      · rintro i Hc hi ⟨done, rest, us, F2, Hm, _, _, _, _, rfl, hm, _, g2⟩
        exact hG _ (g2.h.trans (Gr.own g2.i hm _).h)
      · rintro i x Hc H' hi ⟨done, rest, us, F2, Hm, _, er, ed, hl, rfl, hm, hu, g2⟩ y
        have go := Gr.own g2.i hm (.lst us)
        obtain ⟨d, hd⟩ : ∃ d, xs[i]? = some d := ⟨xs[i], List.getElem?_eq_getElem hi⟩
        have hdrop : xs.drop i = d :: xs.drop (i + 1) := by
          rw [List.drop_eq_getElem_cons hi]
          congr 1
          have := List.getElem?_eq_getElem hi
          rw [hd] at this
          exact (Option.some.inj this).symm
        obtain ⟨F3, g3, r3⟩ := hY i d _ x H' F2 hd (g2.h.trans go.h) g2.f go.i y
        have S3 := (S1.grow g2).grow (go.trans g3)
        rw [hdrop] at er
        unfold compL at er
        split at er
        · cases er
        · rename_i r1 hput
          obtain ⟨k, ek, er1⟩ := rb_eq_ok er
          refine put_ok S3 r3 hput fun σ2 S4 hw => ⟨by rw [hw, wipe_wipe], ⟨r1, F3, F0, B, S4, Thn.ok0 ek fun F4 H4 g4 => ?_⟩⟩
          have f2D : F2 D = none := g2.i.free hm
          cases k with
          | true =>
            rw [if_pos rfl] at er1
            obtain ⟨z, ez, er2⟩ := rb_eq_ok er1
            obtain ⟨rest', er3, er4⟩ := rb_eq_ok er2
            have e5 : rest = z :: rest' := by
              have e6 : ok (z :: rest') = ok rest := er4
              unfold ok at e6
              simpa using e6.symm
            refine iteT ⟨r1, F4, F0, B, S4.grow g4, Thn.ok0 ez fun F5 H5 g5 v rv => ?_⟩
            have g6 : Gr F2 (upd Hm D (.lst us)) F5 H5 := (g3.trans g4).trans g5
            have hD5 : H5 D = some (.lst us) := g6.h _ _ upd_same
            refine ⟨us, hD5, ?_, done ++ [z], rest', us ++ [v], F5, DL.del H5 D, hi, er3, by rw [← ed, e5]; simp, by rw [List.length_append]; simpa using hl, ?_, del_self, (hu.mono g6.f).append ⟨v, [], rfl, rv, rfl⟩, g2.trans (g6.del hm f2D)⟩
            · rw [hu.length]
              exact Nat.lt_of_lt_of_le (Nat.lt_of_le_of_lt hl hi) (lim_line hlim)
            · funext b
              unfold upd DL.del
              by_cases c : b = D
              · rw [if_pos c, if_pos c]
              · rw [if_neg c, if_neg c, if_neg c]
          | false =>
            rw [if_neg (by simp)] at er1
            have g6 : Gr F2 (upd Hm D (.lst us)) F4 H4 := g3.trans g4
            have hD5 : H4 D = some (.lst us) := g6.h _ _ upd_same
            exact iteF ⟨done, rest, us, F4, DL.del H4 D, hi, er1, ed, Nat.le_succ_of_le hl, (upd_del hD5).symm, del_self, hu.mono g6.f, g2.trans (g6.del hm f2D)⟩
      · rintro Hc ⟨done, rest, us, F2, Hm, _, er, ed, hl, rfl, hm, hu, g2⟩
        rw [List.drop_length] at er
        have e5 : rest = [] := by
          have e6 : ok ([] : List DL.D) = ok rest := er
          unfold ok at e6
          simpa using e6.symm
        rw [e5, List.append_nil] at ed
        subst ed
        exact h1 F2 Hm g2 D us hm hu
  · rw [if_neg hlim] at h1
    exact False.elim h1
section
variable {X : Cx} {ec : EC} {W : WX} {elt tg iter : Expr} {ifs : List Expr} {scope : Scope} {own : List (Str × Nat)} {pos : Pos} {ι : EL} {g : Tg} {β : EB} {φ : EX}
theorem dl_comp (hc : X.calm = true) (hN : X.N.Nodup) (hi : DIX X ec W tg iter ι) (ok : BlkOk X.N X.env.scope scope own) (hv : own.map (·.2) = g.slots)
    (hg : ∀ (s : Shared) (H : Hp) (C : Addr) (cl : List (Str × Addr)) (fp : List Addr), PG (X.blk s H scope (compEnvC scope cl C X.env) fp) tg (tgT X.K g)) (ht : ∀ (s : Shared) (H : Hp) (C : Addr) (cl : List (Str × Addr)) (fp : List Addr), PTs (X.blk s H scope (compEnvC scope cl C X.env) fp) ifs (tT X.K ec W0 β))
    (he : ∀ (s : Shared) (H : Hp) (C : Addr) (cl : List (Str × Addr)) (fp : List Addr), DE (X.blk s H scope (compEnvC scope cl C X.env) fp) ec W0 elt φ) (hs : ∀ x, foldedSetIterable iter X.env x = pure x := by intro _; rfl) :
    DLi X ec W (.ListComp elt [⟨tg, iter, ifs, 0⟩] scope pos) (lComp ι g β φ) := peImp (pe_lc hc hN hi ok hg ht he hs) fun _ _ _ h => lc_use hv h
theorem dts_nil : PTs X [] (tT X.K ec W0 bYes) := ⟨fun pins s σ H Q I ⟨r, F, F0, B, S, q⟩ => pts_nil.run pins s σ H Q I (Thn.ok (a := true) S.sub q)⟩
theorem dts_one {c : Expr} {β : EB} (h : DT X ec W0 c β) : PTs X [c] (tT X.K ec W0 β) := pts_one h
end
end DL
/-! Statements; a def's body; a def. -/
namespace DL
open PySem PySem.Spec PyProof.Rows L2

/-- what is wanted behind a block that does o -/
def Aft (K : PySem.W.Frag) (ec : EC) (W : WX) (F0 B F : Hp) (o : Option Out) (Dn : Ends) : Prop := match o with
  | none => False
  | some (.nx r) => ∀ σ' F' H', Same F F' → SR K F0 B r σ' H' F' → Dn.nx σ' H'
  | some (.bk r) => ∀ σ' F' H', Same F F' → SR K F0 B r σ' H' F' → Dn.bk σ' H'
  | some (.ct r) => ∀ σ' F' H', Same F F' → SR K F0 B r σ' H' F' → Dn.ct σ' H'
  | some (.rt d) => ∀ v F' H', Same F F' → Gr F0 B F' H' → Rep K F' d v → Dn.rt v H'
  | some (.er e r) => ∀ dx σ' F' H', Same F F' → SR K F0 B r σ' H' F' → ErrOk K F' H' e dx → W (.ref (ec e.cls)) dx σ' H'
  | some (.ro i r) => ∀ v σ' F' H', Same F F' → SR K F0 B r σ' H' F' → σ'[i]? = some (some v) → Dn.rt v H'
  | some (.ri d r) => ∀ v σ' F' H', Same F F' → SR K F0 B r σ' H' F' → Rep K F' d v → Dn.rt v H'
  | some (.rl xs) => ∀ p us F' H', Same F F' → Gr F0 B F' H' → H' p = some (.lst us) → F' p = none → B p = none → RepL K F' xs us → Dn.rt (.ref p) H'
def tS (K : PySem.W.Frag) (ec : EC) (W : WX) (b : SX) : TS := fun Dn σ H => ∃ r F F0 B, SR K F0 B r σ H F ∧ Aft K ec W F0 B F (b r) Dn
theorem psImp {X : Cx} {e : Stmt} {t t' : TS} (h : PS X e t) (f : ∀ D σ H, t' D σ H → t D σ H) : PS X e t' := ⟨fun pins s σ H D I q => h.run pins s σ H D I (f D σ H q)⟩
theorem pssImp {X : Cx} {e : List Stmt} {t t' : TS} (h : PSs X e t) (f : ∀ D σ H, t' D σ H → t D σ H) : PSs X e t' := ⟨fun pins s σ H D I q => h.run pins s σ H D I (f D σ H q)⟩
abbrev DS (X : Cx) (ec : EC) (W : WX) (st : Stmt) (b : SX) : Prop := PS X st (tS X.K ec W b)
abbrev DSs (X : Cx) (ec : EC) (W : WX) (st : List Stmt) (b : SX) : Prop := PSs X st (tS X.K ec W b)
section
variable {K : PySem.W.Frag} {ec : EC} {W : WX} {F0 B F F1 H : Hp} {Dn : Ends} {r : Env} {σ : L2.St}
theorem Aft.mono {o : Option Out} (e : Same F F1) (h : Aft K ec W F0 B F o Dn) : Aft K ec W F0 B F1 o Dn := by
  match o with
  | none => exact h
  | some (.nx r) => exact fun σ' F' H' q => h σ' F' H' (e.trans q)
  | some (.bk r) => exact fun σ' F' H' q => h σ' F' H' (e.trans q)
  | some (.ct r) => exact fun σ' F' H' q => h σ' F' H' (e.trans q)
  | some (.rt d) => exact fun v F' H' q => h v F' H' (e.trans q)
  | some (.er x r) => exact fun dx σ' F' H' q => h dx σ' F' H' (e.trans q)
  | some (.ro i r) => exact fun v σ' F' H' q => h v σ' F' H' (e.trans q)
  | some (.ri d r) => exact fun v σ' F' H' q => h v σ' F' H' (e.trans q)
  | some (.rl xs) => exact fun p us F' H' q => h p us F' H' (e.trans q)
theorem Aft.so {α : Type} {x : R α} {f : α → Option Out} (S : SR K F0 B r σ H F) (h : Aft K ec W F0 B F (so x r f) Dn) : Thn K ec W x σ F H fun a F' H' => Aft K ec W F0 B F' (f a) Dn := by
  match x with
  | none => exact h
  | some (.error e) => exact fun dx F' H' g q => h dx σ F' H' g.f (S.grow g) q
  | some (.ok a) => exact fun F' H' g => Aft.mono g.f (show Aft K ec W F0 B F (f a) Dn from h)
end
section
variable {X : Cx} {ec : EC} {W : WX} {st : Stmt} {sts rest es els : List Stmt} {e c tg iter : Expr} {pos : Pos} {a b : SX} {φ ψ : EX} {β : EB} {ι : EL}
theorem dss_nil : DSs X ec W [] sNx := pssImp pss_nil fun D σ H ⟨r, F, F0, B, S, q⟩ => q σ F H (Same.refl F) S
theorem seq_use {K : PySem.W.Frag} {D : Ends} {σ : L2.St} {H : Hp} (h : tS K ec W (sSeq a b) D σ H) : tSeq (tS K ec W a) (tS K ec W b) D σ H := by
  obtain ⟨r, F, F0, B, S, q⟩ := h
  refine ⟨r, F, F0, B, S, ?_⟩
  have q' : Aft K ec W F0 B F (match a r with | some (.nx r1) => b r1 | o => o) D := q
  revert q'
  match a r with
  | none => exact fun z => z
  | some (.nx r1) => exact fun z σ' F' H' q S' => ⟨r1, F', F0, B, S', Aft.mono q z⟩
  | some (.bk r1) => exact fun z => z
  | some (.ct r1) => exact fun z => z
  | some (.rt d) => exact fun z => z
  | some (.er x r1) => exact fun z => z
  | some (.ro i r1) => exact fun z => z
  | some (.ri d r1) => exact fun z => z
  | some (.rl xs) => exact fun z => z
theorem dss_cons (h1 : DS X ec W st a) (h2 : DSs X ec W rest b) : DSs X ec W (st :: rest) (sSeq a b) := pssImp (pss_cons h1 h2) fun _ _ _ h => seq_use h
theorem dss_one (h : DS X ec W st a) : DSs X ec W [st] a := pss_one h
/-- a step of the data alone -/
theorem dss_freeze (i : Nat) (h : DSs X ec W sts b) : DSs X ec W sts (sSeq (sFreeze i) b) := pssImp h fun D σ H ⟨r, F, F0, B, S, q⟩ => by
  have q' : Aft X.K ec W F0 B F (b (frz i r)) D := q
  unfold frz at q'
  split at q'
  · rename_i xs hx
    obtain ⟨F', sf, S'⟩ := S.freeze hx
    exact ⟨_, F', F0, B, S', Aft.mono sf q'⟩
  · rename_i xss hx
    obtain ⟨F', sf, S'⟩ := S.freezeN hx
    exact ⟨_, F', F0, B, S', Aft.mono sf q'⟩
  · exact ⟨_, F, F0, B, S, q'⟩
theorem ds_pass : DS X ec W (.Pass pos) sNx := psImp ps_pass fun D σ H ⟨r, F, F0, B, S, q⟩ => q σ F H (Same.refl F) S
theorem ds_break : DS X ec W (.Break pos) sBk := psImp ps_break fun D σ H ⟨r, F, F0, B, S, q⟩ => q σ F H (Same.refl F) S
theorem ds_continue : DS X ec W (.Continue pos) sCt := psImp ps_continue fun D σ H ⟨r, F, F0, B, S, q⟩ => q σ F H (Same.refl F) S
theorem ds_doc {x j p} : DS X ec W (.Expr (.Constant (.str x) j p) pos) sNx := psImp ps_doc fun D σ H ⟨r, F, F0, B, S, q⟩ => q σ F H (Same.refl F) S
theorem ds_ret (h : DE X ec W e φ) : DS X ec W (.Return (some e) pos) (sRet φ) := psImp (ps_ret h) fun D σ H ⟨r, F, F0, B, S, q⟩ =>
  ⟨r, F, F0, B, S, (Aft.so S q).imp fun d F1 H1 _ g k v rv => k v F1 H1 (Same.refl _) (S.grow g).gr rv⟩
theorem ds_retO {i : Nat} {x : Str} {xp : Pos} (hN : X.N[i]? = some x) (hv : Vis X.env.scope x) (hd : (x == ("__debug__" : Str)) = false := by decide) (hcd : (x == ("__classdict__" : Str)) = false := by decide) : DS X ec W (.Return (some (.Name x xp)) pos) (sRetO i) := psImp (ps_ret (pe_var hN hv hd hcd)) fun D σ H ⟨r, F, F0, B, S, q⟩ => by
  unfold sRetO at q
  split at q
  · rename_i xs hi
    obtain ⟨y, h1, p, vs, rfl, _⟩ := S.ok i _ hi
    exact ⟨.ref p, h1, q (.ref p) σ F H (Same.refl _) S h1⟩
  · exact False.elim q
theorem ds_retL {a : EL} (h : DLi X ec W e a) : DS X ec W (.Return (some e) pos) (sRetL a) := psImp (ps_ret h) fun D σ H ⟨r, F, F0, B, S, q⟩ =>
  ⟨r, F, F0, B, S, (Aft.so S q).imp fun xs F1 H1 _ g k p vs hp rs => k p vs F1 _ (Same.refl _) ((S.grow g).gr.trans (Gr.own g.i hp _)) upd_same (g.i.free hp) ((S.grow g).gr.h.free hp) rs⟩
theorem ds_expr (h : DE X ec W e φ) (hs : swapsWith e none pos.line X.env = pure false := by rfl) : DS X ec W (.Expr e pos) (sExpr φ) := psImp (ps_expr h hs) fun D σ H ⟨r, F, F0, B, S, q⟩ =>
  ⟨r, F, F0, B, S, (Aft.so S q).imp fun d F1 H1 _ g k v rv => k σ F1 H1 (Same.refl _) (S.grow g)⟩
theorem ds_if (hc : DT X ec W c β) (ha : DSs X ec W sts a) (hb : DSs X ec W els b) : DS X ec W (.If c sts els pos) (sIf β a b) := psImp (ps_if hc ha hb) fun D σ H ⟨r, F, F0, B, S, q⟩ =>
  ⟨r, F, F0, B, S, (Aft.so S q).imp fun k F1 H1 _ g h1 => by
    cases k with
    | true => exact iteT ⟨r, F1, F0, B, S.grow g, h1⟩
    | false => exact iteF ⟨r, F1, F0, B, S.grow g, h1⟩⟩
theorem set_use {K : PySem.W.Frag} {i : Nat} {D : Ends} {σ : L2.St} {H : Hp} (h : tS K ec W (sSet i φ) D σ H) : tAsg (tD K ec W φ) (gName i) D σ H := by
  obtain ⟨r, F, F0, B, S, q⟩ := h
  exact ⟨r, F, F0, B, S, (Aft.so S q).imp fun d F1 H1 _ g k v rv => k _ F1 H1 (Same.refl _) ((S.grow g).set rv)⟩
theorem own_use {K : PySem.W.Frag} {i : Nat} {D : Ends} {σ : L2.St} {H : Hp} (h : tS K ec W (sOwn i ι) D σ H) : tAsg (tL K ec W ι) (gName i) D σ H := by
  obtain ⟨r, F, F0, B, S, q⟩ := h
  exact ⟨r, F, F0, B, S, (Aft.so S q).imp fun d F1 H1 _ g k p vs hp hv => k _ F1 _ (Same.refl _) ((S.grow g).setOwn hp hv)⟩
theorem ds_set {i : Nat} {x : Str} {pos' : Pos} (hN : X.N.Nodup) (hi : X.N[i]? = some x) (hx : Loc X.env.scope x) (he : DE X ec W e φ) (hs : swapsWith e (some (.Name x pos')) pos.line X.env = pure false := by rfl)
    (hf : X.fn x = true ∨ X.env.scope.names.lookup x = some .local := by first | exact .inl rfl | exact .inr rfl | assumption) : DS X ec W (.Assign [.Name x pos'] e pos) (sSet i φ) := psImp (ps_set hN hi hx he hs hf) fun _ _ _ h => set_use h
theorem ds_own {i : Nat} {x : Str} {pos' : Pos} (hN : X.N.Nodup) (hi : X.N[i]? = some x) (hx : Loc X.env.scope x) (he : DLi X ec W e ι) (hs : swapsWith e (some (.Name x pos')) pos.line X.env = pure false := by rfl)
    (hf : X.fn x = true ∨ X.env.scope.names.lookup x = some .local := by first | exact .inl rfl | exact .inr rfl | assumption) : DS X ec W (.Assign [.Name x pos'] e pos) (sOwn i ι) := psImp (ps_set hN hi hx he hs hf) fun _ _ _ h => own_use h
/-- x = [.. for .. in ..] -/
theorem ds_ownC {i : Nat} {y : Str} {py : Pos} {elt tg iter : Expr} {ifs : List Expr} {scope : Scope} {own : List (Str × Nat)} {spos : Pos} {g : Tg} (hc : X.calm = true) (hN : X.N.Nodup) (hy : X.N[i]? = some y) (hyl : X.env.scope.names.lookup y = some .local)
    (hsw : swapsWith (.ListComp elt [⟨tg, iter, ifs, 0⟩] scope pos) (some (.Name y py)) spos.line X.env = pure true) (hi : DIX X ec W tg iter ι) (okB : BlkOk X.N X.env.scope scope own) (hv : own.map (·.2) = g.slots)
    (hg : ∀ (s : Shared) (H : Hp) (C : Addr) (cl : List (Str × Addr)) (fp : List Addr), PG (X.blk s H scope (compEnvC scope cl C X.env) fp) tg (tgT X.K g)) (ht : ∀ (s : Shared) (H : Hp) (C : Addr) (cl : List (Str × Addr)) (fp : List Addr), PTs (X.blk s H scope (compEnvC scope cl C X.env) fp) ifs (tT X.K ec W0 β))
    (he : ∀ (s : Shared) (H : Hp) (C : Addr) (cl : List (Str × Addr)) (fp : List Addr), DE (X.blk s H scope (compEnvC scope cl C X.env) fp) ec W0 elt φ) (hs : ∀ x, foldedSetIterable iter X.env x = pure x := by intro _; rfl) :
    DS X ec W (.Assign [.Name y py] (.ListComp elt [⟨tg, iter, ifs, 0⟩] scope pos) spos) (sOwn i (lComp ι g β φ)) := psImp (ps_setLc hc hN hy hyl hsw hi okB hg ht he hs) fun D σ H h => by
  have h' := own_use h
  exact lc_use hv h'
/-- the same, the list a datum at once -/
theorem ds_setC {i : Nat} {y : Str} {py : Pos} {elt tg iter : Expr} {ifs : List Expr} {scope : Scope} {own : List (Str × Nat)} {spos : Pos} {g : Tg} (hc : X.calm = true) (hN : X.N.Nodup) (hy : X.N[i]? = some y) (hyl : X.env.scope.names.lookup y = some .local)
    (hsw : swapsWith (.ListComp elt [⟨tg, iter, ifs, 0⟩] scope pos) (some (.Name y py)) spos.line X.env = pure true) (hi : DIX X ec W tg iter ι) (okB : BlkOk X.N X.env.scope scope own) (hv : own.map (·.2) = g.slots)
    (hg : ∀ (s : Shared) (H : Hp) (C : Addr) (cl : List (Str × Addr)) (fp : List Addr), PG (X.blk s H scope (compEnvC scope cl C X.env) fp) tg (tgT X.K g)) (ht : ∀ (s : Shared) (H : Hp) (C : Addr) (cl : List (Str × Addr)) (fp : List Addr), PTs (X.blk s H scope (compEnvC scope cl C X.env) fp) ifs (tT X.K ec W0 β))
    (he : ∀ (s : Shared) (H : Hp) (C : Addr) (cl : List (Str × Addr)) (fp : List Addr), DE (X.blk s H scope (compEnvC scope cl C X.env) fp) ec W0 elt φ) (hs : ∀ x, foldedSetIterable iter X.env x = pure x := by intro _; rfl) :
    DS X ec W (.Assign [.Name y py] (.ListComp elt [⟨tg, iter, ifs, 0⟩] scope pos) spos) (sSet i (vL (lComp ι g β φ))) := psImp (ds_ownC (ι := ι) (φ := φ) (β := β) (W := W) hc hN hy hyl hsw hi okB hv hg ht he hs) fun D σ H ⟨r, F, F0, B, S, q⟩ => by
  refine ⟨r, F, F0, B, S, ?_⟩
  have q' : Aft X.K ec W F0 B F (so (rb (lComp ι g β φ r) fun xs => ok (PyData.list xs)) r fun x => some (.nx (r.set i (.d x)))) D := q
  show Aft X.K ec W F0 B F (so (lComp ι g β φ r) r fun xs => some (.nx (r.set i (.own xs)))) D
  revert q'
  match lComp ι g β φ r with
  | none => exact fun z => z
  | some (.error _) => exact fun z => z
  | some (.ok xs) =>
    intro z σ' F' H' sf S'
    by_cases hl : i < r.length
    · have hi' : (r.set i (.own xs))[i]? = some (.own xs) := List.getElem?_set_self hl
      obtain ⟨F2, s2, S2⟩ := S'.freeze hi'
      have e : (r.set i (.own xs)).set i (.d (.list xs)) = r.set i (.d (.list xs)) := by rw [List.set_set]
      rw [e] at S2
      exact z σ' F2 H' (sf.trans s2) S2
    · have e1 : r.set i (.own xs) = r := List.set_eq_of_length_le (by omega)
      have e2 : r.set i (Slot.d (.list xs)) = r := List.set_eq_of_length_le (by omega)
      rw [e1] at S'
      exact z σ' F' H' sf (by rw [e2]; exact S')
/-- a, b = e -/
theorem ds_put {g : Tg} (he : DE X ec W e φ) (hg : PG X tg (tgT X.K g)) (hs : swapsWithSole [tg] e pos.line X.env = pure false := by rfl) (hw : swappedStores [tg] e X.env = pure none := by rfl)
    (h1 : (assignEach [tg] X.env).map (·.2) = [assign tg X.env] := by rfl) : DS X ec W (.Assign [tg] e pos) (sPut g φ) := psImp (ps_asg he hg hs hw h1) fun D σ H ⟨r, F, F0, B, S, q⟩ => by
  refine ⟨r, F, F0, B, S, (Aft.so S q).imp fun d F1 H1 _ g1 k v rv => ?_⟩
  match ep : g.put d r with
  | none => rw [ep] at k; exact False.elim k
  | some r1 =>
    rw [ep] at k
    exact put_ok (S.grow g1) rv ep fun σ2 S2 _ => k σ2 F1 H1 (Same.refl _) S2
theorem ds_par {i j : Nat} {x y : Str} {e2 : Expr} {px py pt : Pos} {kt k2 pt2} (hc : X.calm = true) (hN : X.N.Nodup) (hi : X.N[i]? = some x) (hj : X.N[j]? = some y) (hij : i ≠ j)
    (ha : DA X ec W [e, e2] (vArgs [φ, ψ])) (h : ∀ {ta : TA}, PA X [e, e2] ta → PS X (.Assign [.Tuple [.Name x px, .Name y py] kt pt] (.Tuple [e, e2] k2 pt2) pos) (tPar i j ta)) :
    DS X ec W (.Assign [.Tuple [.Name x px, .Name y py] kt pt] (.Tuple [e, e2] k2 pt2) pos) (sPar i j φ ψ) := psImp (h ha) fun D σ H ⟨r, F, F0, B, S, q⟩ => by
  refine ⟨r, F, F0, B, S, (Aft.so S q).imp fun ds F1 H1 _ g k vs rs => ?_⟩
  match ds with
  | [] => exact False.elim k
  | [_] => exact False.elim k
  | d1 :: d2 :: [] =>
    obtain ⟨v, r1, e1, r2, v2, r3, e3, r4, r5⟩ := rs
    have e6 : r3 = [] := r5
    subst e6 e3 e1
    exact ⟨v, v2, rfl, k _ F1 H1 (Same.refl _) (((S.grow g).set r2).set r4)⟩
  | _ :: _ :: _ :: _ => exact False.elim k
/-- own.append(x) -/
theorem ds_app {i : Nat} {x : Str} {xp apos cpos : Pos} (hN : X.N[i]? = some x) (hv : Vis X.env.scope x) (ha : DE X ec W e φ) (hd : (x == ("__debug__" : Str)) = false := by decide) (hcd : (x == ("__classdict__" : Str)) = false := by decide)
    (hs : swapsWith (.Call (.Attribute (.Name x xp) "append" apos) [e] [] cpos) none pos.line X.env = pure false := by rfl)
    (hbase : attributeBase (.Name x xp) "append" X.env (eval (.Name x xp) X.env) = eval (.Name x xp) X.env := by rfl)
    (hfew : ((backTo cpos (starEach [e] X.env)).all (fun x => !x.1) && (backToKw cpos (keywordEach [] X.env)).all (fun x => x.1.isSome)
      && decide ([e].length + ([] : List Keyword).length + (if ([] : List Keyword).isEmpty then 0 else 1) < 30)) = true := by rfl)
    (hline : (apos.endLine == cpos.line) = true := by rfl) (hst : starEach [e] X.env = (false, eval e X.env) :: starEach [] X.env := by rfl) (hplain : (backTo cpos (starEach [] X.env)).any (·.1) = false := by rfl) :
    DS X ec W (.Expr (.Call (.Attribute (.Name x xp) "append" apos) [e] [] cpos) pos) (sApp i φ) :=
  psImp (ps_expr (pe_bm PySem.F.plainAttrs_list PySem.F.slot_list_append PySem.F.type_list_append mt_append (pe_var hN hv hd hcd) (pa_cons ha pa_nil hst) hbase hfew hline hst hplain) hs) fun D σ H ⟨r, F, F0, B, S, q⟩ => by
    unfold sApp at q
    split at q
    · rename_i xs hi
      obtain ⟨y, h1, p, vs, rfl, h2, h3, h4, h5⟩ := S.ok i _ hi
      refine ⟨.ref p, h1, .inl ⟨rfl, _, .inl (.inl h2)⟩, r, F, F0, B, S, (Aft.so S q).imp fun d F1 H1 _ g k v rv => ?_⟩
      by_cases hl : xs.length < lim
      · rw [if_pos hl] at k
        refine ⟨p, vs, v, rfl, rfl, g.h _ _ h2, by rw [h5.length]; exact lim_lt hl, ?_⟩
        exact k σ F1 _ (Same.refl _) ((S.grow g).write hi h1 ((h5.mono g.f).append ⟨v, [], rfl, rv, rfl⟩))
      · rw [if_neg hl] at k
        exact False.elim k
    · rename_i p xs hi
      obtain ⟨y, h1, vs, rfl, h2, h3, h4, h5⟩ := S.ok i _ hi
      refine ⟨.ref p, h1, .inl ⟨rfl, _, .inl (.inl h2)⟩, r, F, F0, B, S, (Aft.so S q).imp fun d F1 H1 _ g k v rv => ?_⟩
      by_cases hl : xs.length < lim
      · rw [if_pos hl] at k
        refine ⟨p, vs, v, rfl, rfl, g.h _ _ h2, by rw [h5.length]; exact lim_lt hl, ?_⟩
        exact k σ F1 _ (Same.refl _) ((S.grow g).writeIo hi h1 ((h5.mono g.f).append ⟨v, [], rfl, rv, rfl⟩))
      · rw [if_neg hl] at k
        exact False.elim k
    · exact False.elim q
/-- own[k] = x -/
theorem ds_setix {i : Nat} {x : Str} {xp tp : Pos} {k : Expr} (hN : X.N[i]? = some x) (hv : Vis X.env.scope x) (hk : DX X ec W k ψ) (ha : DE X ec W e φ)
    (h : ∀ {te to ti : TE}, PE X e te → PE X (.Name x xp) to → PE X k ti → PS X (.Assign [.Subscript (.Name x xp) k tp] e pos) (tAsg te (gSub to ti rSetL))) (hd : (x == ("__debug__" : Str)) = false := by decide) (hcd : (x == ("__classdict__" : Str)) = false := by decide) :
    DS X ec W (.Assign [.Subscript (.Name x xp) k tp] e pos) (sSetIx i ψ φ) := psImp (h ha (pe_var hN hv hd hcd) hk) fun D σ H ⟨r, F, F0, B, S, q⟩ => by
  unfold sSetIx at q
  split at q
  · rename_i xs hi
    obtain ⟨y, h1, p, vs, rfl, h2, h3, h4, h5⟩ := S.ok i _ hi
    refine ⟨r, F, F0, B, S, (Aft.so S q).imp fun d F1 H1 _ g1 k1 v rv => ⟨.ref p, h1, r, F1, F0, B, S.grow g1, (Aft.so (S.grow g1) k1).imp fun j F2 H2 ej g2 k2 u ru => ?_⟩⟩
    split at k2
    · rename_i m
      split at k2
      · rename_i n hn
        have h5' := (h5.mono g1.f).mono g2.f
        refine ⟨p, vs, m, n, rfl, ru, g2.h _ _ (g1.h _ _ h2), by rw [h5'.length]; exact hn, ?_⟩
        exact k2 σ F2 _ (Same.refl _) (((S.grow g1).grow g2).write hi h1 (RepL.set (rv.mono g2.f) n h5'))
      · exact False.elim k2
    · exact False.elim k2
  · rename_i p xs hi
    obtain ⟨y, h1, vs, rfl, h2, h3, h4, h5⟩ := S.ok i _ hi
    refine ⟨r, F, F0, B, S, (Aft.so S q).imp fun d F1 H1 _ g1 k1 v rv => ⟨.ref p, h1, r, F1, F0, B, S.grow g1, (Aft.so (S.grow g1) k1).imp fun j F2 H2 ej g2 k2 u ru => ?_⟩⟩
    split at k2
    · rename_i m
      split at k2
      · rename_i n hn
        have h5' := (h5.mono g1.f).mono g2.f
        refine ⟨p, vs, m, n, rfl, ru, g2.h _ _ (g1.h _ _ h2), by rw [h5'.length]; exact hn, ?_⟩
        exact k2 σ F2 _ (Same.refl _) (((S.grow g1).grow g2).writeIo hi h1 (RepL.set (rv.mono g2.f) n h5'))
      · exact False.elim k2
    · exact False.elim k2
  · exact False.elim q
/-! ### loops -/
theorem loop_use {K : PySem.W.Frag} {g : Tg} {J : It} {F0 B : Hp} {D : Ends} {xs : List DL.D} {Fb : Hp} (hJ : IterOk K Fb Fb J xs) {σ : L2.St} {H : Hp} {r : Env} (S : SR K F0 B r σ H Fb) (h : Aft K ec W F0 B Fb (loopF g b xs r) D) :
    ∃ Wv : Nat → Nat → L2.St → Hp → Prop, (∃ m, Wv 0 m σ H) ∧ ∀ i m σ H, Wv i m σ H →
      (J.stop i H ∧ D.nx σ H) ∨ (J.go i H ∧ ∃ N : L2.St → Hp → Prop, (∀ σ' H', N σ' H' → ∃ m', m' < m ∧ Wv (i + 1) m' σ' H') ∧ ∀ x H', J.yld i H x H' → tgT K g x σ H' fun σ2 H2 => tS K ec W b { D with nx := N, ct := N, bk := D.nx } σ2 H2) := by
  obtain ⟨G, Y, w, hG, hY⟩ := hJ
  refine for_it w (fun i σ H => ∃ r F, i ≤ xs.length ∧ Same Fb F ∧ SR K F0 B r σ H F ∧ Aft K ec W F0 B F (loopF g b (xs.drop i) r) D) ⟨r, Fb, Nat.zero_le _, Same.refl _, S, h⟩ ?_ ?_ ?_
  · rintro i σ H _ ⟨r, F, _, sf, S, _⟩
    exact hG _ (sf.trans S.gr.i)
  · rintro i x σ H H' hi ⟨r, F, _, sf, S, h⟩ y
    obtain ⟨d, hd⟩ : ∃ d, xs[i]? = some d := ⟨xs[i], List.getElem?_eq_getElem hi⟩
    have hdrop : xs.drop i = d :: xs.drop (i + 1) := by
      rw [List.drop_eq_getElem_cons hi]
      congr 1
      have := List.getElem?_eq_getElem hi
      rw [hd] at this
      exact (Option.some.inj this).symm
    obtain ⟨F3, g3, r3⟩ := hY i d _ x H' F hd (sf.trans S.gr.i) sf S.gr.i y
    have S3 := S.grow g3
    rw [hdrop] at h
    unfold loopF at h
    split at h
    · exact False.elim h
    · rename_i r1 hput
      refine put_ok S3 r3 hput fun σ2 S4 _ => ⟨r1, F3, F0, B, S4, ?_⟩
      have sf3 := sf.trans g3.f
      have h3 := Aft.mono g3.f h
      revert h3
      match b r1 with
      | none => exact fun z => z
      | some (.nx r2) => exact fun z σ' F' H' q S' => ⟨r2, F', hi, sf3.trans q, S', Aft.mono q z⟩
      | some (.ct r2) => exact fun z σ' F' H' q S' => ⟨r2, F', hi, sf3.trans q, S', Aft.mono q z⟩
      | some (.bk r2) => exact fun z => z
      | some (.rt d) => exact fun z => z
      | some (.er e r2) => exact fun z => z
      | some (.ro i r2) => exact fun z => z
      | some (.ri d r2) => exact fun z => z
      | some (.rl xs) => exact fun z => z
  · rintro σ H ⟨r, F, _, sf, S, h⟩
    rw [List.drop_length] at h
    exact h σ F H (Same.refl _) S
theorem ds_for {g : Tg} (hp : PassesOwn (model X.prog X.w) X.A X.env X.xe) (hc : X.calm = true) (hi : DI X ec W tg iter ι) (hg : PG X tg (tgT X.K g)) (hb : DSs X ec W sts b) (hs : ∀ x, foldedSetIterable iter X.env x = pure x := by intro _; rfl) : DS X ec W (.For tg iter sts [] pos) (sFor ι g b) :=
  psImp (ps_for hp hc hi hg hb hs) fun D σ H ⟨r, F, F0, B, S, q⟩ => ⟨r, F, F0, B, S, (Aft.so S q).imp fun xs F1 H1 _ g1 k J hJ => loop_use hJ (S.grow g1) k⟩
/-- for .. in own: y = e -/
theorem ds_forSet {i j : Nat} {x y : Str} {xp yp apos : Pos} {g : Tg} (hp : PassesOwn (model X.prog X.w) X.A X.env X.xe) (hc : X.calm = true) (hi : DIX X ec W tg (.Name x xp) (iSeq (vRd i))) (hg : PG X tg (tgT X.K g)) (hN : X.N.Nodup) (hy : X.N[j]? = some y) (hyl : Loc X.env.scope y) (he : DE X ec W e φ)
    (hsw : swapsWith e (some (.Name y yp)) apos.line X.env = pure false := by rfl) (hf : X.fn y = true ∨ X.env.scope.names.lookup y = some .local := by first | exact .inl rfl | exact .inr rfl | assumption) (hs : ∀ z, foldedSetIterable (.Name x xp) X.env z = pure z := by intro _; rfl) :
    DS X ec W (.For tg (.Name x xp) [.Assign [.Name y yp] e apos] [] pos) (sForSet i g j φ) :=
  psImp (ps_for hp hc hi hg (pss_one (ps_set hN hy hyl he hsw hf)) hs) fun D σ H ⟨r, F, F0, B, S, q⟩ => by
    unfold sForSet at q
    split at q
    · rename_i xs hx
      have ei : iSeq (vRd i) r = ok xs := by
        show rb (vRd i r) _ = _
        unfold vRd
        rw [hx]
        rfl
      refine ⟨r, F, F0, B, S, Thn.ok0 ei fun F1 H1 g1 J hJ => ?_⟩
      obtain ⟨G, Y, w, hG, hY⟩ := hJ
      refine for_it w (fun k σ H => ∃ r F, k ≤ xs.length ∧ Gr F1 H1 F H ∧ SR X.K F0 B r σ H F ∧ Aft X.K ec W F0 B F (loopF g (sSet j φ) (xs.drop k) r) D) ⟨r, F1, Nat.zero_le _, Gr.refl g1.i, S.grow g1, Aft.mono g1.f q⟩ ?_ ?_ ?_
      · rintro k σ H _ ⟨r, F, _, gr, S, _⟩
        exact hG _ gr.h
      · rintro k x σ H H' hk ⟨r, F, _, gr, S, h⟩ y
        have hdrop : ∃ d, xs[k]? = some d ∧ xs.drop k = d :: xs.drop (k + 1) := ⟨xs[k], List.getElem?_eq_getElem hk, List.drop_eq_getElem_cons hk⟩
        obtain ⟨d, hd, hdrop⟩ := hdrop
        obtain ⟨F3, g3, r3⟩ := hY k d _ x H' F hd gr.h gr.f S.gr.i y
        have S3 := S.grow g3
        rw [hdrop] at h
        unfold loopF at h
        split at h
        · exact False.elim h
        · rename_i r1 hput
          refine put_ok S3 r3 hput fun σ2 S4 _ => ?_
          have h3 : Aft X.K ec W F0 B F3 (match sSet j φ r1 with
            | some (.nx r2) => loopF g (sSet j φ) (xs.drop (k + 1)) r2
            | some (.ct r2) => loopF g (sSet j φ) (xs.drop (k + 1)) r2
            | some (.bk r2) => some (.nx r2)
            | o => o) D := Aft.mono g3.f h
          have h4 : Aft X.K ec W F0 B F3 (so (φ r1) r1 fun x => loopF g (sSet j φ) (xs.drop (k + 1)) (r1.set j (.d x))) D := by
            revert h3
            show Aft X.K ec W F0 B F3 (match so (φ r1) r1 fun x => some (.nx (r1.set j (.d x))) with
              | some (.nx r2) => loopF g (sSet j φ) (xs.drop (k + 1)) r2
              | some (.ct r2) => loopF g (sSet j φ) (xs.drop (k + 1)) r2
              | some (.bk r2) => some (.nx r2)
              | o => o) D → _
            match φ r1 with
            | none => exact fun z => z
            | some (.error _) => exact fun z => z
            | some (.ok x) => exact fun z => z
          exact ⟨r1, F3, F0, B, S4, (Aft.so S4 h4).imp fun d F4 H4 _ g4 k4 v rv => ⟨_, F4, hk, (gr.trans g3).trans g4, (S4.grow g4).set rv, k4⟩⟩
      · rintro σ H ⟨r, F, _, gr, S, h⟩
        rw [List.drop_length] at h
        exact h σ F H (Same.refl _) S
    · exact False.elim q
theorem ds_while (n : Nat) (hp : PassesOwn (model X.prog X.w) X.A X.env X.xe) (hc : DT X ec W c β) (hb : DSs X ec W sts b) : DS X ec W (.While c sts [] pos) (sWhile n β b) :=
  psImp (ps_while hp hc hb) fun D σ H ⟨r, F, F0, B, S, q⟩ => by
    refine ⟨fun m σ H => ∃ r F, SR X.K F0 B r σ H F ∧ Aft X.K ec W F0 B F (loopW β b m r) D, ⟨n, r, F, S, q⟩, ?_⟩
    rintro m σ H ⟨r, F, S, q⟩
    cases m with
    | zero => exact False.elim q
    | succ m =>
      refine ⟨r, F, F0, B, S, (Aft.so S q).imp fun k F1 H1 _ g1 h1 => ?_⟩
      cases k with
      | false => exact iteF (h1 σ F1 H1 (Same.refl _) (S.grow g1))
      | true =>
        refine iteT ⟨fun σ' H' => ∃ r F, SR X.K F0 B r σ' H' F ∧ Aft X.K ec W F0 B F (loopW β b m r) D, fun σ' H' h => ⟨m, Nat.lt_succ_self m, h⟩, r, F1, F0, B, S.grow g1, ?_⟩
        revert h1
        show Aft X.K ec W F0 B F1 (match b r with
          | some (.nx r2) => loopW β b m r2
          | some (.ct r2) => loopW β b m r2
          | some (.bk r2) => some (.nx r2)
          | o => o) D → _
        match b r with
        | none => exact fun z => z
        | some (.nx r2) => exact fun z σ' F' H' q S' => ⟨r2, F', S', Aft.mono q z⟩
        | some (.ct r2) => exact fun z σ' F' H' q S' => ⟨r2, F', S', Aft.mono q z⟩
        | some (.bk r2) => exact fun z => z
        | some (.rt d) => exact fun z => z
        | some (.er e r2) => exact fun z => z
        | some (.ro i r2) => exact fun z => z
        | some (.ri d r2) => exact fun z => z
        | some (.rl xs) => exact fun z => z
end
/-! ### a def -/
theorem slots_rep {K : PySem.W.Frag} {F H : Hp} (e : Same F H) : ∀ {ds : List D} {vs : List V} (n : Nat), RepL K F ds vs → SR K F H (ds.map Slot.d ++ List.replicate n Slot.un) (vs.map some ++ List.replicate n none) H F := by
  intro ds vs n h
  have hl := h.length
  refine ⟨Gr.refl e, by rw [List.length_append, List.length_append, List.length_map, List.length_map, List.length_replicate, List.length_replicate, hl], fun i s q => ?_, fun i j s t y z a _ q _ _ _ f1 _ => ?_, ⟨[], fun u hu => absurd hu List.not_mem_nil, fun i xs q => ?_⟩⟩
  · by_cases c : i < ds.length
    · rw [List.getElem?_append_left (by rw [List.length_map]; exact c), List.getElem?_map] at q
      cases ed : ds[i]? with
      | none => rw [ed] at q; cases q
      | some d =>
        rw [ed] at q
        have es : s = .d d := (Option.some.inj q).symm
        subst es
        obtain ⟨v, h1, h2⟩ := h.get ed
        exact ⟨some v, by rw [List.getElem?_append_left (by rw [List.length_map, hl]; exact c), List.getElem?_map, h1]; rfl, v, rfl, h2⟩
    · have hlen : i < ds.length + n := by
        have := get_lt q
        rwa [List.length_append, List.length_map, List.length_replicate] at this
      rw [List.getElem?_append_right (by rw [List.length_map]; omega), List.getElem?_replicate] at q
      split at q
      · have es : s = .un := (Option.some.inj q).symm
        subst es
        refine ⟨none, ?_, trivial⟩
        rw [List.getElem?_append_right (by rw [List.length_map, hl]; omega), List.getElem?_replicate, if_pos (by rw [List.length_map, hl]; omega)]
      · cases q
  · by_cases c : i < ds.length
    · rw [List.getElem?_append_left (by rw [List.length_map]; exact c), List.getElem?_map] at q
      cases ed : ds[i]? with
      | none => rw [ed] at q; cases q
      | some d =>
        rw [ed] at q
        have es : s = .d d := (Option.some.inj q).symm
        subst es
        exact f1
    · rw [List.getElem?_append_right (by rw [List.length_map]; omega), List.getElem?_replicate] at q
      split at q
      · have es : s = .un := (Option.some.inj q).symm
        subst es
        exact f1
      · cases q
  · exfalso
    by_cases c : i < ds.length
    · rw [List.getElem?_append_left (by rw [List.length_map]; exact c), List.getElem?_map] at q
      cases ed : ds[i]? with
      | none => rw [ed] at q; cases q
      | some d =>
        rw [ed] at q
        cases q
    · rw [List.getElem?_append_right (by rw [List.length_map]; omega), List.getElem?_replicate] at q
      split at q
      · cases q
      · cases q
theorem fn_ok {P : Program} {w : World} {K : PySem.W.Frag} {mg : Str → Option Value} {base : Heap} {ec : EC} {x qual : Str} {st : Stmt} {f : Addr} {fd : FuncData} {N ps : List Str} {k n p : Nat} {b : SX} (F : Fun K x qual st f fd) (S : FnScope N ps (defScope st))
    (hn : N.length = n := by rfl) (hp : ps.length = p := by rfl)
    (body : ∀ (cdv : Value) (A : Around) (outer : List PySem.Env) (s : Shared) (H : Hp) (E : XK), Room k (A.deeper (envOfC qual (defScope st) s.heap.objs.size f cdv)) →
      DSs (cxOf (L2.CX P w) P w K mg base N qual (defScope st) f cdv A outer s H E) ec (fun c d _ H => E c d H) (defBody st) b) :
    FnOk P w K mg base (L2.CX P w) (k + 1) f fd ps (spD K ec p (runD n p b)) := by
  refine F.okX S (fun vs H Q E h => by rw [hp]; exact spD_len h) (fun cdv A outer s H vs Q E hr h => ⟨_, body cdv A outer s H E hr, ?_⟩)
  obtain ⟨ds, F, h1, sf, h2, h3⟩ := h
  refine ⟨slots n ds, F, F, H, ?_, ?_⟩
  · have e := slots_rep sf (n - ds.length) h2
    have e2 : L2.start N vs = vs.map some ++ List.replicate (n - ds.length) none := by
      unfold L2.start
      rw [hn, h2.length]
    rw [e2]
    exact e
  · unfold runD at h3
    rw [if_pos h1] at h3
    revert h3
    match b (slots n ds) with
    | none => exact fun z => z
    | some (.nx r) => exact fun z σ' F' H' sf S' => Thn.ok S'.gr.i (a := PyData.none) (Thn.grow S'.gr z) .non rfl
    | some (.rt d) => exact fun z v F' H' sf g rv => Thn.ok g.i (a := d) (Thn.grow g z) v rv
    | some (.bk r) => exact fun z => False.elim z
    | some (.ct r) => exact fun z => False.elim z
    | some (.er e r) => exact fun z dx σ' F' H' sf S' he => z dx F' H' S'.gr he
    | some (.ro i r) => exact fun z => False.elim z
    | some (.ri d r) => exact fun z => False.elim z
    | some (.rl xs) => exact fun z => False.elim z
/-- called with data ds it gives a new list of f ds, that nothing else knows -/
def spO (K : PySem.W.Frag) (ec : EC) (n : Nat) (f : List D → R (List D)) : Sp := fun vs H Q E => ∃ ds F, ds.length = n ∧ Same F H ∧ RepL K F ds vs ∧
  Thn K ec (fun c d _ H => E c d H) (f ds) [] F H fun xs F' H' => ∀ p us, H' p = some (.lst us) → F' p = none → H p = none → RepL K F' xs us → Q (.ref p) H'
theorem spO_len {K : PySem.W.Frag} {ec : EC} {n : Nat} {f : List D → R (List D)} {vs : List V} {H : Hp} {Q : VK} {E : XK} (h : spO K ec n f vs H Q E) : vs.length = n := by
  obtain ⟨ds, F, h1, _, h2, _⟩ := h
  rw [h2.length, h1]
theorem fn_okO {P : Program} {w : World} {K : PySem.W.Frag} {mg : Str → Option Value} {base : Heap} {ec : EC} {x qual : Str} {st : Stmt} {f : Addr} {fd : FuncData} {N ps : List Str} {k n p : Nat} {b : SX} (F : Fun K x qual st f fd) (S : FnScope N ps (defScope st))
    (hn : N.length = n := by rfl) (hp : ps.length = p := by rfl)
    (body : ∀ (cdv : Value) (A : Around) (outer : List PySem.Env) (s : Shared) (H : Hp) (E : XK), Room k (A.deeper (envOfC qual (defScope st) s.heap.objs.size f cdv)) →
      DSs (cxOf (L2.CX P w) P w K mg base N qual (defScope st) f cdv A outer s H E) ec (fun c d _ H => E c d H) (defBody st) b) :
    FnOk P w K mg base (L2.CX P w) (k + 1) f fd ps (spO K ec p (runO n p b)) := by
  refine F.okX S (fun vs H Q E h => by rw [hp]; exact spO_len h) (fun cdv A outer s H vs Q E hr h => ⟨_, body cdv A outer s H E hr, ?_⟩)
  obtain ⟨ds, F, h1, sf, h2, h3⟩ := h
  refine ⟨slots n ds, F, F, H, ?_, ?_⟩
  · have e := slots_rep sf (n - ds.length) h2
    have e2 : L2.start N vs = vs.map some ++ List.replicate (n - ds.length) none := by
      unfold L2.start
      rw [hn, h2.length]
    rw [e2]
    exact e
  · unfold runO at h3
    rw [if_pos h1] at h3
    revert h3
    match b (slots n ds) with
    | none => exact fun z => z
    | some (.nx r) => exact fun z => False.elim z
    | some (.rt d) => exact fun z => False.elim z
    | some (.bk r) => exact fun z => False.elim z
    | some (.ct r) => exact fun z => False.elim z
    | some (.er e r) => exact fun z dx σ' F' H' sf S' he => z dx F' H' S'.gr he
    | some (.ri d r) => exact fun z => False.elim z
    | some (.rl xs) =>
      intro z p us F' H' sf' g' h5 h6 h7 h8
      have z' : Thn K ec (fun c d _ H => E c d H) (ok xs) [] F H fun xs F' H' => ∀ p us, H' p = some (.lst us) → F' p = none → H p = none → RepL K F' xs us → Q (.ref p) H' := z
      exact z' F' H' g' p us h5 h6 h7 h8
    | some (.ro i r) =>
      intro z v σ' F' H' sf' S' hv
      dsimp only at z
      cases hi : r[i]? with
      | none => rw [hi] at z; exact False.elim z
      | some s =>
        cases s with
        | own xs =>
          rw [hi] at z
          obtain ⟨a, us, e, h4, h5, h6, h7⟩ := S'.slot hi hv
          cases e
          have z' : Thn K ec (fun c d _ H => E c d H) (ok xs) [] F H fun xs F' H' => ∀ p us, H' p = some (.lst us) → F' p = none → H p = none → RepL K F' xs us → Q (.ref p) H' := z
          exact z' F' H' S'.gr a us h4 h5 h6 h7
        | _ => rw [hi] at z; exact False.elim z
/-! ### a def that stands behind the top, and what it gives -/
structure DOk (P : Program) (w : World) (K : PySem.W.Frag) (mg : Str → Option Value) (base : Heap) (ec : EC) (x : Str) (ps : List Str) (k p : Nat) (g : List D → R D) : Prop where
  ex : ∃ (f : Addr) (fd : FuncData), mg x = some (.ref f) ∧ PySem.W.keepIn K (.ref f) = true ∧ Binds K fd ps [] ∧ FnOk P w K mg base (L2.CX P w) k f fd ps (spD K ec p g) ∧ ∃ oc od sl, K.lookup f = some ⟨oc, od, .func fd, sl⟩
/-- a def as the top has made it -/
theorem Fun.at {K : PySem.W.Frag} {x qual : Str} {st : Stmt} {f : Addr} {fd : FuncData} (F : Fun K x qual st f fd) : ∃ oc od sl, K.lookup f = some ⟨oc, od, .func fd, sl⟩ := by
  obtain ⟨oc, od, _, _, _, _, _, _, sl, _, h, _⟩ := F.ex
  exact ⟨oc, od, sl, h⟩
structure DAt (K : PySem.W.Frag) (mg : Str → Option Value) (x : Str) (st : Stmt) (ps : List Str) : Prop where
  ex : ∃ (f : Addr) (fd : FuncData), mg x = some (.ref f) ∧ Fun K x x st f fd ∧ Binds K fd ps []
theorem DAt.ok {P : Program} {w : World} {K : PySem.W.Frag} {mg : Str → Option Value} {base : Heap} {ec : EC} {x : Str} {st : Stmt} {N ps : List Str} {k n p : Nat} {b : SX} (D : DAt K mg x st ps) (S : FnScope N ps (defScope st))
    (hn : N.length = n := by rfl) (hp : ps.length = p := by rfl)
    (body : ∀ (f : Addr) (cdv : Value) (A : Around) (outer : List PySem.Env) (s : Shared) (H : Hp) (E : XK), Room k (A.deeper (envOfC x (defScope st) s.heap.objs.size f cdv)) →
      DSs (cxOf (L2.CX P w) P w K mg base N x (defScope st) f cdv A outer s H E) ec (fun c d _ H => E c d H) (defBody st) b) :
    DOk P w K mg base ec x ps (k + 1) p (runD n p b) := by
  obtain ⟨f, fd, h1, h2, h3⟩ := D.ex
  exact ⟨f, fd, h1, h2.kp, h3, fn_ok h2 S hn hp (body f), Fun.at h2⟩
theorem DOk.fuel {P : Program} {w : World} {K : PySem.W.Frag} {mg : Str → Option Value} {base : Heap} {ec : EC} {x : Str} {ps : List Str} {k p : Nat} {st : Stmt} (D : DAt K mg x st ps) (hp : ps.length = p) : DOk P w K mg base ec x ps k p (fun _ => none) := by
  obtain ⟨f, fd, h1, h2, h3⟩ := D.ex
  refine ⟨f, fd, h1, h2.kp, h3, ⟨fun vs H Q E h => by rw [hp]; exact spD_len h, fun A outer s H args us vs Q E _ _ _ _ h => ?_⟩, Fun.at h2⟩
  obtain ⟨ds, F, _, _, _, h4⟩ := h
  exact False.elim h4
/-- the same of a def that gives a list of its own -/
structure DOkO (P : Program) (w : World) (K : PySem.W.Frag) (mg : Str → Option Value) (base : Heap) (ec : EC) (x : Str) (ps : List Str) (k p : Nat) (g : List D → R (List D)) : Prop where
  ex : ∃ (f : Addr) (fd : FuncData), mg x = some (.ref f) ∧ PySem.W.keepIn K (.ref f) = true ∧ Binds K fd ps [] ∧ FnOk P w K mg base (L2.CX P w) k f fd ps (spO K ec p g)
theorem DAt.okO {P : Program} {w : World} {K : PySem.W.Frag} {mg : Str → Option Value} {base : Heap} {ec : EC} {x : Str} {st : Stmt} {N ps : List Str} {k n p : Nat} {b : SX} (D : DAt K mg x st ps) (S : FnScope N ps (defScope st))
    (hn : N.length = n := by rfl) (hp : ps.length = p := by rfl)
    (body : ∀ (f : Addr) (cdv : Value) (A : Around) (outer : List PySem.Env) (s : Shared) (H : Hp) (E : XK), Room k (A.deeper (envOfC x (defScope st) s.heap.objs.size f cdv)) →
      DSs (cxOf (L2.CX P w) P w K mg base N x (defScope st) f cdv A outer s H E) ec (fun c d _ H => E c d H) (defBody st) b) :
    DOkO P w K mg base ec x ps (k + 1) p (runO n p b) := by
  obtain ⟨f, fd, h1, h2, h3⟩ := D.ex
  exact ⟨f, fd, h1, h2.kp, h3, fn_okO h2 S hn hp (body f)⟩
section
variable {X : Cx} {ec : EC} {W : WX} {e : Expr} {es : List Expr} {pos p : Pos}
theorem dl_callO {j k n : Nat} {ps : List Str} {g : List D → R (List D)} {x : Str} {as : List EX} (G : DOkO X.prog X.w X.K X.mg X.base ec x ps j n g) (hr : Room k X.A) (tk : Takes X W) (hjk : j ≤ k) (hg : Gl X x) (ha : DA X ec W (e :: es) (vArgs as)) (hn : as.length = n := by rfl) (hdb : (x == ("__debug__" : Str)) = false := by decide)
    (he : starEach (e :: es) X.env = (false, eval e X.env) :: starEach es X.env := by rfl) (hpl : (backTo pos (starEach es X.env)).any (·.1) = false := by rfl) : DLi X ec W (.Call (.Name x p) (e :: es) [] pos) (lCall g as) := by
  obtain ⟨f, fd, h1, h2, h3, h4⟩ := G.ex
  refine peImp (pe_callS h4 (hr.mono hjk) hg h1 h2 h3 (fun σ => passAt tk σ) ha hdb he hpl) fun σ H Q ⟨r, F, F0, B, S, q⟩ =>
    ⟨r, F, F0, B, S, (Thn.bind q).imp fun ds F1 H1 ex g1 k1 vs rs => ⟨ds, F1, by rw [vArgs_len ex]; exact hn, g1.i, rs, ?_⟩⟩
  revert k1
  match g ds with
  | none => exact fun z => z
  | some (.error _) => exact fun z => z
  | some (.ok xs) =>
    intro z F' H' g' p us hp fp hp0 ru
    have z' : Thn X.K ec W (ok xs) σ F1 H1 fun xs F' H' => ∀ p vs, H' p = none → RepL X.K F' xs vs → Q (.ref p) (upd H' p (.lst vs)) := z
    have g2 : Gr F1 H1 F' (DL.del H' p) := by
      refine ⟨g'.f, fun b o q => ?_, fun b o q => ?_, g'.n⟩
      · rw [del_ne (ne_of_none q hp0)]
        exact g'.h b o q
      · rw [del_ne (ne_of_none q fp)]
        exact g'.i b o q
    have z2 := z' F' (DL.del H' p) g2 p us del_self ru
    rw [upd_del hp] at z2
    exact z2
end
section
variable {X : Cx} {ec : EC} {W : WX} {e : Expr} {es : List Expr} {pos p : Pos}
theorem de_callD {j k n : Nat} {ps : List Str} {g : List D → R D} {x : Str} {as : List EX} (G : DOk X.prog X.w X.K X.mg X.base ec x ps j n g) (hr : Room k X.A) (tk : Takes X W) (hjk : j ≤ k) (hg : Gl X x) (ha : DA X ec W (e :: es) (vArgs as)) (hn : as.length = n := by rfl) (hdb : (x == ("__debug__" : Str)) = false := by decide)
    (he : starEach (e :: es) X.env = (false, eval e X.env) :: starEach es X.env := by rfl) (hpl : (backTo pos (starEach es X.env)).any (·.1) = false := by rfl) : DE X ec W (.Call (.Name x p) (e :: es) [] pos) (vCall g as) := by
  obtain ⟨f, fd, h1, h2, h3, h4, _⟩ := G.ex
  exact de_call h4 (hr.mono hjk) hg h1 h2 h3 (fun σ => passAt tk σ) ha hn hdb he hpl
end
/-- the built-ins that the text uses by their names -/
structure Bl (mg : Str → Option Value) : Prop where
  len : mg "len" = none
  range : mg "range" = none
  isinstance : mg "isinstance" = none
  int : mg "int" = none
  bool : mg "bool" = none
  str : mg "str" = none
  list : mg "list" = none
  tuple : mg "tuple" = none
  dict : mg "dict" = none
  set : mg "set" = none
  min : mg "min" = none
  max : mg "max" = none
  sum : mg "sum" = none
  all : mg "all" = none
  any : mg "any" = none
  sorted : mg "sorted" = none
  enumerate : mg "enumerate" = none
  zip : mg "zip" = none
/-! ### the law's own end -/
theorem ints_rep {K : PySem.W.Frag} {F : Hp} : ∀ (ns : List Int), RepL K F (ns.map PyData.int) (ns.map V.int)
  | [] => rfl
  | n :: ns => ⟨_, _, rfl, rfl, ints_rep ns⟩
/-- the promise where no error comes -/
def spOk (K : PySem.W.Frag) (n : Nat) (g : List D → R D) : Sp := fun vs H Q E => ∃ ds F d, ds.length = n ∧ Same F H ∧ RepL K F ds vs ∧ g ds = ok d ∧ ∀ v F' H', Gr F H F' H' → Rep K F' d v → Q v H'
theorem spOk_D {K : PySem.W.Frag} {ec : EC} {n : Nat} {g : List D → R D} {vs : List V} {H : Hp} {Q : VK} {E : XK} (h : spOk K n g vs H Q E) : spD K ec n g vs H Q E := by
  obtain ⟨ds, F, d, h1, h2, h3, h4, h5⟩ := h
  refine ⟨ds, F, h1, h2, h3, ?_⟩
  rw [h4]
  exact fun F' H' g' v rv => h5 v F' H' g' rv
theorem law_walk {l : PySem.W.OpenLaw} {q : Program} {loose : List Str} {XP : (Str → Option Value) → Heap → Prop} {YP : World → Heap → Prop} {d : DefRec} {K : Params → PySem.W.Frag} {n k : Nat} {x : Str} {g : List D → R D} (hn : l.most = some n) (hn2 : n ≤ sizeLine) (hdf : d.params.defaults = []) (hr : Room k callerA)
    (hg : ∀ ns : List Int, ns.length ≤ n → g [.list (ns.map PyData.int)] = ok (.bool true))
    (hY : ∀ (w : World) (h : Heap), YP w h → (K w.params).In h)
    (F : ∀ (w : World) (mg : Str → Option Value) (fa : Addr) (h : Heap), (K w.params).In h → h.Ns mainGlobals mg → mg d.name = some (.ref fa) →
      ∃ fd : FuncData, (∀ (s : Shared) (u : Value), BindsTo s fd ⟨[u], []⟩ [(x, u)]) ∧ ∀ base : Heap, (K w.params).In base → base.Ns mainGlobals mg → ∃ ec : EC, FnOk l.prog w (K w.params) mg base (L2.CX l.prog w) k fa fd [x] (spD (K w.params) ec 1 g)) :
    PySem.W.WalkO q loose XP YP l.row.toRowW d [] (fun f vs => PySem.call f vs) := by
  refine L2.walk_of (K := K) (CX := fun w => L2.CX l.prog w) (sp := fun w => spOk (K w.params) 1 g) (x := x) (k := k) hn hn2 hdf hr hY (fun w mg fa h h1 h2 h3 => ?_) (fun w H a ns h1 _ h2 => ?_) (fun w H s e s' h => ?_)
  · obtain ⟨fd, h4, h5⟩ := F w mg fa h h1 h2 h3
    refine ⟨fd, h4, fun base h6 h7 => ?_⟩
    obtain ⟨ec, h8⟩ := h5 base h6 h7
    exact h8.imp fun vs H Q E z => spOk_D z
  · exact ⟨[.list (ns.map PyData.int)], H, _, rfl, Same.refl H, ⟨_, _, rfl, ⟨a, _, rfl, h2, ints_rep ns⟩, rfl⟩, hg ns h1, fun v F' H' g' rv => rv⟩
  · obtain ⟨_, _, _, _, _, _, _, _, _, _, _, _, z⟩ := h
    exact z
end DL
/-! A set of tuples that hold ints and such tuples: how many there are. -/
namespace DL
open PySem PySem.Spec PyProof.Rows L2

mutual
def hD : D → Int
  | .int i => hashInt i
  | .tuple xs => reduceHash (Builtin.Tuple.tupleHashOf (hDs xs))
  | _ => 0
def hDs : List D → List Int
  | [] => []
  | x :: xs => hD x :: hDs xs
end
section
variable {P : Program} {w : World} {A : Around} {E : Value → Shared → Prop} {s : Shared}
/-- v is the datum d in the heap h -/
abbrev Is (h : Heap) (d : D) (v : Value) : Prop := ∃ as, Reads h v d as
abbrev IsAll (h : Heap) (ds : List D) (vs : List Value) : Prop := ∃ as, ReadsAll h vs ds as
theorem IsAll.cons {h : Heap} {d : D} {ds : List D} {vs : List Value} (x : IsAll h (d :: ds) vs) : ∃ v us, vs = v :: us ∧ Is h d v ∧ IsAll h ds us := by
  obtain ⟨as, r⟩ := x
  cases r with
  | cons r1 r2 => exact ⟨_, _, rfl, ⟨_, r1⟩, ⟨_, r2⟩⟩
theorem IsAll.nil {h : Heap} {vs : List Value} (x : IsAll h [] vs) : vs = [] := by
  obtain ⟨as, r⟩ := x
  cases r
  rfl
theorem Is.int {h : Heap} {i : Int} {v : Value} (x : Is h (.int i) v) : ∃ t, v = .int i t := by
  obtain ⟨as, r⟩ := x
  cases r with
  | int _ t => exact ⟨t, rfl⟩
theorem Is.tup {h : Heap} {ds : List D} {v : Value} (x : Is h (.tuple ds) v) : ∃ a o vs n, v = .ref a ∧ h.get? a = some o ∧ o.cls = .type "tuple" ∧ o.data = .seq vs n ∧ IsAll h ds vs.toList := by
  obtain ⟨as, r⟩ := x
  cases r with
  | tuple h1 h2 h3 h4 => exact ⟨_, _, _, _, rfl, h1, h2, h3, ⟨_, h4⟩⟩
theorem deepI_cases {n : Nat} {d : D} (h : deepI n d = true) : (∃ i, d = .int i) ∨ ∃ m xs, n = m + 1 ∧ d = .tuple xs ∧ ∀ x ∈ xs, deepI m x = true := by
  cases d with
  | int i => exact .inl ⟨i, rfl⟩
  | tuple xs =>
    cases n with
    | zero => cases h
    | succ m =>
      refine .inr ⟨m, xs, rfl, rfl, fun x hx => ?_⟩
      have h' : xs.all (deepI m) = true := h
      exact List.all_eq_true.mp h' x hx
  | _ => cases n <;> cases h
/-- a walk over the items of a tuple: nothing is found -/
theorem each_item {α : Type} {f : Value → Option α × PUnit → Sem (ForInStep (Option α × PUnit))} {ds : List D} {vs : Array Value} {p : D → Prop} (hp : ∀ d ∈ ds, p d) (hi : IsAll s.heap ds vs.toList)
    (step : ∀ (d : D) (v : Value) (Q : ForInStep (Option α × PUnit) → Shared → Prop), p d → Is s.heap d v → Q (.yield (none, ⟨⟩)) s → wpAny (model P w) A (f v (none, ⟨⟩)) Q E s) {Q : Option α × PUnit → Shared → Prop} (h : Q (none, ⟨⟩) s) :
    wpAny (model P w) A (forIn vs (none, ⟨⟩) f) Q E s := by
  rw [← Array.forIn_toList]
  refine wpAny_forIn_list _ (fun left r s' => r = (none, ⟨⟩) ∧ s' = s ∧ ∃ es, (∀ d ∈ es, p d) ∧ IsAll s.heap es left) _ ?_ ?_ _ _ ⟨rfl, rfl, ds, hp, hi⟩
  · rintro v left r s' ⟨rfl, rfl, es, h1, h2⟩
    cases es with
    | nil => exact absurd h2.nil (by simp)
    | cons d es =>
      obtain ⟨v', us, e, h3, h4⟩ := h2.cons
      cases e
      exact step d v _ (h1 d List.mem_cons_self) h3 ⟨rfl, rfl, es, fun x hx => h1 x (List.mem_cons_of_mem _ hx), h4⟩
  · rintro r s' ⟨rfl, rfl, _⟩
    exact h
theorem quiet_eq : ∀ (n : Nat) {d : D} {v : Value} {Q : Bool → Shared → Prop}, deepI n d = true → Is s.heap d v → ∀ f, n < f → Q true s → wpAny (model P w) A (eqIsQuiet f v) Q E s := by
  intro n
  induction n with
  | zero =>
    intro d v Q hd hv f hf hq
    rcases deepI_cases hd with ⟨i, rfl⟩ | ⟨m, xs, hm, _⟩
    · obtain ⟨t, rfl⟩ := hv.int
      cases f <;> exact wpAny_pure hq
    · cases hm
  | succ n ih =>
    intro d v Q hd hv f hf hq
    rcases deepI_cases hd with ⟨i, rfl⟩ | ⟨m, xs, hm, rfl, hx⟩
    · obtain ⟨t, rfl⟩ := hv.int
      cases f <;> exact wpAny_pure hq
    · obtain rfl : n = m := by omega
      obtain ⟨a, o, vs, k, rfl, h1, h2, h3, h4⟩ := hv.tup
      have hT : s.TypeIs (.ref a) "tuple" := ⟨o, h1, h2⟩
      cases f with
      | zero => omega
      | succ f =>
        unfold eqIsQuiet
        refine wpAny_bind (wpAny_specialOf hT F.slot_tuple_eq.lookup ?_)
        show wpAny _ _ (isInstance (.ref a) (.type "tuple") >>= _) _ _ s
        refine wpAny_bind (wpAny_isInstance hT isSubtype_tuple_tuple ?_)
        simp only [Bool.not_true, Bool.false_eq_true, if_false]
        show wpAny _ _ (seqItems? (.ref a) >>= _) _ _ s
        refine wpAny_bind (wpAny_seqItems h1 h3 ?_)
        refine wpAny_bind (each_item (p := fun d => deepI n d = true) hx h4 (fun d v Q' hd' hv' hq' => ?_) ?_)
        · refine wpAny_bind (ih hd' hv' f (by omega) ?_)
          simp only [Bool.not_true, Bool.false_eq_true, if_false]
          exact wpAny_pure hq'
        · exact wpAny_pure hq
theorem quiet_cls : ∀ (n : Nat) {d : D} {v : Value} {Q : Bool → Shared → Prop}, deepI n d = true → Is s.heap d v → ∀ f, n < f → Q false s → wpAny (model P w) A (ofAClassStatement f v) Q E s := by
  intro n
  induction n with
  | zero =>
    intro d v Q hd hv f hf hq
    rcases deepI_cases hd with ⟨i, rfl⟩ | ⟨m, xs, hm, _⟩
    · obtain ⟨t, rfl⟩ := hv.int
      cases f <;> exact wpAny_pure hq
    · cases hm
  | succ n ih =>
    intro d v Q hd hv f hf hq
    rcases deepI_cases hd with ⟨i, rfl⟩ | ⟨m, xs, hm, rfl, hx⟩
    · obtain ⟨t, rfl⟩ := hv.int
      cases f <;> exact wpAny_pure hq
    · obtain rfl : n = m := by omega
      obtain ⟨a, o, vs, k, rfl, h1, h2, h3, h4⟩ := hv.tup
      have hT : s.TypeIs (.ref a) "tuple" := ⟨o, h1, h2⟩
      cases f with
      | zero => omega
      | succ f =>
        unfold ofAClassStatement
        refine wpAny_bind (wpAny_typeOf hT ?_)
        dsimp only
        have e : (("tuple" : String) == "tuple") = true := by decide
        simp only [e, if_true, Bool.not_true, Bool.false_eq_true, if_false]
        try refine wpAny_bind (wpAny_pure ?_)
        try simp only [Bool.not_true, Bool.false_eq_true, if_false]
        show wpAny _ _ (seqItems? (.ref a) >>= _) _ _ s
        refine wpAny_bind (wpAny_seqItems h1 h3 (wpAny_bind ?_))
        refine each_item (p := fun d => deepI n d = true) hx h4 (fun d v Q' hd' hv' hq' => ?_) ?_
        · refine wpAny_bind (ih hd' hv' f (by omega) ?_)
          simp only [Bool.false_eq_true, if_false]
          exact wpAny_pure hq'
        · exact wpAny_pure hq
theorem by_value : ∀ (n : Nat) {d : D} {v : Value} {Q : Bool → Shared → Prop}, deepI n d = true → Is s.heap d v → ∀ f, n < f → Q true s → wpAny (model P w) A (hashByValue f v) Q E s := by
  intro n
  induction n with
  | zero =>
    intro d v Q hd hv f hf hq
    rcases deepI_cases hd with ⟨i, rfl⟩ | ⟨m, xs, hm, _⟩
    · obtain ⟨t, rfl⟩ := hv.int
      cases f <;> exact wpAny_pure hq
    · cases hm
  | succ n ih =>
    intro d v Q hd hv f hf hq
    rcases deepI_cases hd with ⟨i, rfl⟩ | ⟨m, xs, hm, rfl, hx⟩
    · obtain ⟨t, rfl⟩ := hv.int
      cases f <;> exact wpAny_pure hq
    · obtain rfl : n = m := by omega
      obtain ⟨a, o, vs, k, rfl, h1, h2, h3, h4⟩ := hv.tup
      have hT : s.TypeIs (.ref a) "tuple" := ⟨o, h1, h2⟩
      cases f with
      | zero => omega
      | succ f =>
        unfold hashByValue
        refine wpAny_bind (wpAny_specialOf hT F.slot_tuple_hash.lookup ?_)
        show wpAny _ _ (seqItems? (.ref a) >>= _) _ _ s
        refine wpAny_bind (wpAny_seqItems h1 h3 (wpAny_bind ?_))
        refine each_item (p := fun d => deepI n d = true) hx h4 (fun d v Q' hd' hv' hq' => ?_) ?_
        · refine wpAny_bind (ih hd' hv' f (by omega) ?_)
          simp only [Bool.not_true, Bool.false_eq_true, if_false]
          exact wpAny_pure hq'
        · exact wpAny_pure hq
/-- a search among such shows nothing -/
theorem unseen {d : D} {a : Addr} {ys : List Value} {Q : Bool → Shared → Prop} (hd : deepI 3 d = true) (hv : Is s.heap d (.ref a)) (hy : ∀ y ∈ ys, ∃ c b, y = .ref b ∧ deepI 3 c = true ∧ Is s.heap c y) (h : Q false s) : wpAny (model P w) A (searchCouldBeSeen (.ref a) ys) Q E s := by
  unfold searchCouldBeSeen
  refine wpAny_bind (wpAny_forIn_list _ (fun left r s' => r.1 = none ∧ s' = s ∧ ∀ y ∈ left, ∃ c b, y = .ref b ∧ deepI 3 c = true ∧ Is s.heap c y) _ ?_ ?_ _ _ ⟨rfl, rfl, hy⟩)
  · rintro y left r s' ⟨hr, rfl, hall⟩
    obtain ⟨c, b, rfl, h1, h2⟩ := hall y List.mem_cons_self
    have go : ∀ u ∈ left, ∃ c b, u = .ref b ∧ deepI 3 c = true ∧ Is s'.heap c u := fun u hu => hall u (List.mem_cons_of_mem _ hu)
    dsimp only
    by_cases hab : (a == b || (carriedByValue (.ref a) && carriedByValue (.ref b))) = true
    · exact wp_if_pos hab (wpAny_pure ⟨rfl, rfl, go⟩)
    · refine wp_if_neg hab ?_
      refine wpAny_bind (quiet_eq 3 hd hv 8 (by decide) ?_)
      simp only [Bool.not_true, Bool.false_eq_true, if_false]
      refine wpAny_bind (quiet_eq 3 h1 h2 8 (by decide) ?_)
      simp only [Bool.not_true, Bool.false_eq_true, if_false]
      refine wpAny_bind (quiet_cls 3 hd hv 8 (by decide) ?_)
      simp only [Bool.false_eq_true, if_false]
      refine wpAny_bind (quiet_cls 3 h1 h2 8 (by decide) ?_)
      simp only [Bool.false_eq_true, if_false]
      exact wpAny_pure ⟨rfl, rfl, go⟩
  · rintro ⟨r1, r2⟩ s' ⟨hr, rfl, _⟩
    simp only at hr
    subst hr
    exact wpAny_pure h
/-! ### the hash -/
theorem hash_of : ∀ (n : Nat) {d : D} {v : Value} {A : Around} {s : Shared} {Q : Int → Shared → Prop}, deepI n d = true → Is s.heap d v → A.units + 8 * n < cLine → (∀ tk, Q (hD d) { s with toks := tk }) → wpAny (model P w) A (pyHash v) Q E s := by
  intro n
  induction n with
  | zero =>
    intro d v A s Q hd hv hu hq
    rcases deepI_cases hd with ⟨i, rfl⟩ | ⟨m, xs, hm, _⟩
    · obtain ⟨t, rfl⟩ := hv.int
      exact wpAny_pyHash_int (hq _)
    · cases hm
  | succ n ih =>
    intro d v A s Q hd hv hu hq
    rcases deepI_cases hd with ⟨i, rfl⟩ | ⟨m, xs, hm, rfl, hx⟩
    · obtain ⟨t, rfl⟩ := hv.int
      exact wpAny_pyHash_int (hq _)
    · obtain rfl : n = m := by omega
      obtain ⟨a, o, vs, k, rfl, h1, h2, h3, h4⟩ := hv.tup
      have hT : s.TypeIs (.ref a) "tuple" := ⟨o, h1, h2⟩
      unfold pyHash
      first | unfold pyHashByItsType | skip
      first | refine wpAny_bind (wpAny_cRoomFor_or (.inr (by omega)) ?_) | skip
      refine wpAny_bind (wpAny_specialOf hT F.slot_tuple_hash.lookup ?_)
      show wpAny _ _ (if (some (Value.builtin "tuple.__hash__") == some Value.none) = true then _ else _) Q E s
      rw [if_neg (by rw [beq_builtin_none]; exact Bool.false_ne_true)]
      refine wpAny_bind (wpAny_specialOf hT F.slot_tuple_hash.lookup ?_)
      show wpAny _ _ (callSpecialIfBoundUnlessNone? (.ref a) "__hash__" _ >>= _) Q E s
      refine wpAny_bind (wpAny_callSpecialIfBoundUnlessNone?_slot hT F.slot_tuple_hash (wpAny_call_entry F.slot_tuple_hash hT F.entry_tuple_hash ?_ (F.args_tuple_hash_1 _)))
      show wpAny _ _ (Builtin.Tuple.tupleItemsOf (.ref a) >>= _) _ _ s
      refine wpAny_bind (wpAny_tupleItemsOf h1 h3 (wpAny_bind ?_))
      rw [← Array.forIn_toList]
      refine wpAny_forIn_list _ (fun left b s' => (∃ tk, s' = { s with toks := tk }) ∧ ∃ done es, (∀ d ∈ es, deepI n d = true) ∧ IsAll s.heap es left ∧ b.toList = done ∧ done ++ hDs es = hDs xs) _ ?_ ?_ _ _ ⟨⟨s.toks, rfl⟩, [], xs, hx, h4, rfl, rfl⟩
      · rintro y left b s' ⟨⟨tk, rfl⟩, done, es, g1, g2, g3, g4⟩
        cases es with
        | nil => exact absurd g2.nil (by simp)
        | cons d es =>
          obtain ⟨v', us, e, g5, g6⟩ := g2.cons
          cases e
          refine wpAny_bind (ih (s := { s with toks := tk }) (g1 d List.mem_cons_self) g5 (by show A.units + 1 + 8 * n < cLine; omega) fun tk' => ?_)
          first
            | exact wpAny_pure ⟨⟨tk', rfl⟩, done ++ [hD d], es, fun x hx => g1 x (List.mem_cons_of_mem _ hx), g6, by simp [g3], by rw [← g4]; simp [hDs]⟩
            | exact wpAny_bind (wpAny_pure (wpAny_pure ⟨⟨tk', rfl⟩, done ++ [hD d], es, fun x hx => g1 x (List.mem_cons_of_mem _ hx), g6, by simp [g3], by rw [← g4]; simp [hDs]⟩))
      · rintro b s' ⟨⟨tk, rfl⟩, done, es, g1, g2, g3, g4⟩
        cases es with
        | cons d es =>
          obtain ⟨_, _, e, _⟩ := g2.cons
          cases e
        | nil =>
          have g5 : b.toList = hDs xs := by
            rw [g3, ← g4]
            simp [hDs]
          show wpAny _ _ (retInt (Builtin.Tuple.tupleHashOf b.toList)) _ _ _
          rw [g5]
          refine wpAny_ret_mkInt ?_
          show wpAny _ _ (if (decide (-(2 : Int) ^ 63 ≤ Builtin.Tuple.tupleHashOf (hDs xs)) && decide (Builtin.Tuple.tupleHashOf (hDs xs) < 2 ^ 63)) = true then _ else _) Q E _
          have hq' : ∀ tk, Q (reduceHash (Builtin.Tuple.tupleHashOf (hDs xs))) { s with toks := tk } := hq
          unfold reduceHash at hq'
          split
          · rename_i hr
            rw [if_pos hr] at hq'
            exact wpAny_pure (hq' _)
          · rename_i hr
            rw [if_neg hr] at hq'
            exact wpAny_bind (wpAny_rule (wpAny_pure (hq' _)))
/-- == -/
theorem deepI_lay : ∀ (n : Nat) {d : D}, deepI n d = true → PyData.canLay0 d = true ∧ d.depth ≤ n := by
  intro n
  induction n with
  | zero =>
    intro d hd
    rcases deepI_cases hd with ⟨i, rfl⟩ | ⟨m, xs, hm, _⟩
    · exact ⟨by simp [PyData.canLay0], by simp [PyData.depth]⟩
    · cases hm
  | succ n ih =>
    intro d hd
    rcases deepI_cases hd with ⟨i, rfl⟩ | ⟨m, xs, hm, rfl, hx⟩
    · exact ⟨by simp [PyData.canLay0], by simp [PyData.depth]⟩
    · obtain rfl : n = m := by omega
      have all : ∀ l : List D, (∀ x ∈ l, deepI n x = true) → PyData.canLayAll0 l = true ∧ PyData.depthAll l ≤ n := by
        intro l
        induction l with
        | nil => intro _; exact ⟨by simp [PyData.canLayAll0], by simp [PyData.depthAll]⟩
        | cons x l ihl =>
          intro h
          have h1 := ih (h x List.mem_cons_self)
          have h2 := ihl fun y hy => h y (List.mem_cons_of_mem _ hy)
          exact ⟨by simp [PyData.canLayAll0, h1.1, h2.1], by simp only [PyData.depthAll]; omega⟩
      have h1 := all xs hx
      exact ⟨by simp only [PyData.canLay0]; exact h1.1, by simp only [PyData.depth]; omega⟩
theorem same_of {d e : D} {u v : Value} {Q : Bool → Shared → Prop} (hd : deepI 3 d = true) (he : deepI 3 e = true) (hu : Is s.heap d u) (hv : Is s.heap e v) (hr : A.units + 8 < cLine) (h : Q (PyData.eqv d e) s) : wpAny (model P w) A (eqBool u v) Q E s := by
  obtain ⟨as, r1⟩ := hu
  obtain ⟨bs, r2⟩ := hv
  have h1 := deepI_lay 3 hd
  have h2 := deepI_lay 3 he
  exact SeqAt.eqBoolOverData P w A E s u v d e as bs Q r1 r2 h1.1 h2.1 (by
    have : min d.depth e.depth ≤ d.depth := Nat.min_le_left _ _
    omega) h
end
/-- such data are equal just if they are the same -/
theorem eqv_same : ∀ (n : Nat) {d e : D}, deepI n d = true → deepI n e = true → (PyData.eqv d e = true ↔ d = e) := by
  intro n
  induction n with
  | zero =>
    intro d e hd he
    rcases deepI_cases hd with ⟨i, rfl⟩ | ⟨m, xs, hm, _⟩
    · rcases deepI_cases he with ⟨j, rfl⟩ | ⟨m, xs, hm, _⟩
      · simp [PyData.eqv]
      · cases hm
    · cases hm
  | succ n ih =>
    intro d e hd he
    rcases deepI_cases hd with ⟨i, rfl⟩ | ⟨m, xs, hm, rfl, hx⟩
    · rcases deepI_cases he with ⟨j, rfl⟩ | ⟨m, xs, hm, rfl, _⟩
      · simp [PyData.eqv]
      · simp [PyData.eqv]
    · rcases deepI_cases he with ⟨j, rfl⟩ | ⟨m2, ys, hm2, rfl, hy⟩
      · simp [PyData.eqv]
      · obtain rfl : n = m := by omega
        obtain rfl : n = m2 := by omega
        have all : ∀ l k : List D, (∀ x ∈ l, deepI n x = true) → (∀ x ∈ k, deepI n x = true) → (PyData.eqvAll l k = true ↔ l = k) := by
          intro l
          induction l with
          | nil =>
            intro k _ _
            cases k <;> simp [PyData.eqvAll]
          | cons x l ihl =>
            intro k h1 h2
            cases k with
            | nil => simp [PyData.eqvAll]
            | cons y k =>
              have a1 := ih (h1 x List.mem_cons_self) (h2 y List.mem_cons_self)
              have a2 := ihl k (fun z hz => h1 z (List.mem_cons_of_mem _ hz)) fun z hz => h2 z (List.mem_cons_of_mem _ hz)
              simp only [PyData.eqvAll, Bool.and_eq_true, a1, a2, List.cons.injEq]
        have h := all xs ys hx hy
        simp only [PyData.eqv, h, PyData.tuple.injEq]
end DL
/-! The set's table, over such tuples. -/
namespace DL
open PySem PySem.Spec PyProof.Rows L2

/-- at a stands the set of the tuples L, each once -/
structure GS (h0 h : Heap) (a : Addr) (L : List (Addr × D)) (en : Array (Int × Value)) (ep : Nat) (tb : SetTable) : Prop where
  ob : ∃ o, h.get? a = some o ∧ o.ExactSet ∧ o.data = .set en ep tb
  rows : en.toList = L.map fun p => (hD p.2, Value.ref p.1)
  tab : TabOk tb (L.map fun p => hD p.2)
  nd : (L.map (·.2)).Nodup
  elt0 : ∀ p ∈ L, deepI 3 p.2 = true ∧ Is h0 p.2 (.ref p.1)
  base : ∀ b o, h0.get? b = some o → h.get? b = some o
  new : h0.get? a = none
  plain : tb.plain = true
  room : L.length * 5 < tb.mask * 3
  few : L.length ≤ 60
/-- the c-th place that a search for the hash z looks at -/
abbrev stepN (tb : SetTable) (z : Int) (c : Nat) : SetTable.Probe := nth tb.mask (tb.probeStart z) c
section
variable {P : Program} {w : World} {A : Around} {E : Value → Shared → Prop} {s : Shared} {h0 : Heap} {a : Addr} {L : List (Addr × D)} {en : Array (Int × Value)} {ep : Nat} {tb : SetTable}
theorem GS.size {h : Heap} (R : GS h0 h a L en ep tb) : en.size = L.length := by
  rw [← Array.length_toList, R.rows, List.length_map]
theorem GS.placed {h : Heap} (R : GS h0 h a L en ep tb) : tb.place.size = L.length := by
  rw [R.tab.sz, List.length_map]
theorem GS.fits {h : Heap} (R : GS h0 h a L en ep tb) : tb.fits en.size = true := by
  have h1 := R.placed
  have h2 := R.size
  have h3 := R.room
  unfold SetTable.fits SetTable.fill
  rw [R.tab.dm, Bool.and_eq_true, beq_iff_eq, decide_eq_true_eq]
  show tb.place.size = en.size ∧ tb.place.size + 0 ≤ tb.mask
  omega
theorem GS.entry {h : Heap} (R : GS h0 h a L en ep tb) {i : Nat} {p : Addr × D} (e : L[i]? = some p) : en[i]? = some (hD p.2, Value.ref p.1) := by
  rw [← Array.getElem?_toList, R.rows, List.getElem?_map, e]
  rfl
theorem GS.elt {h : Heap} (R : GS h0 h a L en ep tb) : ∀ p ∈ L, deepI 3 p.2 = true ∧ Is h p.2 (.ref p.1) := fun p hp => by
  obtain ⟨h1, as, h2⟩ := R.elt0 p hp
  exact ⟨h1, as, Reads.keeps R.base h2⟩
theorem GS.whole {h : Heap} (R : GS h0 h a L en ep tb) : ¬ tb.gaveWay = true := by
  unfold SetTable.gaveWay
  rw [mask_odd R.tab.mok]
  decide
theorem step_dummy (tb : SetTable) (z : Int) (c : Nat) : (stepN tb z c).dummy = none := by
  have go : ∀ (n : Nat) (p : SetTable.Probe), p.dummy = none → (nth tb.mask p n).dummy = none := by
    intro n
    induction n with
    | zero => exact fun p h => h
    | succ n ih =>
      refine fun p h => ih (adv tb.mask p) ?_
      unfold adv
      split <;> exact h
  exact go c _ rfl
/-- one look of the search, from the c-th place on: the first entry of this hash before the empty place K, or K -/
theorem look {h : Heap} (R : GS h0 h a L en ep tb) (z : Int) {K c : Nat} (hKf : K < 10 * SetTable.turns tb.mask) (hK : way tb.mask z K ∉ tb.place.toList) (hKb : ∀ j, j < K → way tb.mask z j ∈ tb.place.toList) (hc : c ≤ K) :
    (∃ (m i : Nat) (p : Addr × D), c ≤ m ∧ m < K ∧ L[i]? = some p ∧ hD p.2 = z ∧ tb.place.toList[i]? = some (way tb.mask z m) ∧
      (∀ (m' i' : Nat) (p' : Addr × D), c ≤ m' → m' < m → L[i']? = some p' → tb.place.toList[i']? = some (way tb.mask z m') → hD p'.2 ≠ z) ∧
      tb.probe (fun i => (en[i]?.map (·.1)).getD 0) z (stepN tb z c) = some (.candidate (way tb.mask z m) i (stepN tb z (m + 1)))) ∨
    ((∀ (m' i' : Nat) (p' : Addr × D), c ≤ m' → m' < K → L[i']? = some p' → tb.place.toList[i']? = some (way tb.mask z m') → hD p'.2 ≠ z) ∧
      tb.probe (fun i => (en[i]?.map (·.1)).getD 0) z (stepN tb z c) = some (.empty (way tb.mask z K) none)) := by
  have on : ∀ q, nth tb.mask (stepN tb z c) q = stepN tb z (c + q) := fun q => (nth_add tb.mask c _ q).symm
  have onj : ∀ q, (nth tb.mask (stepN tb z c) q).j = way tb.mask z (c + q) := fun q => congrArg SetTable.Probe.j (on q)
  have hash : ∀ {i : Nat} {p : Addr × D}, L[i]? = some p → (en[i]?.map (·.1)).getD 0 = hD p.2 := fun e => by rw [R.entry e]; rfl
  have there : ∀ {i j : Nat}, tb.place.toList[i]? = some j → ∃ p, L[i]? = some p := fun {i j} e => by
    have h1 := (List.getElem?_eq_some_iff.mp e).1
    rw [Array.length_toList, R.placed] at h1
    exact ⟨_, List.getElem?_eq_getElem h1⟩
  have got := go_spec tb R.tab.ris R.tab.dm (fun i => (en[i]?.map (·.1)).getD 0) z (10 * SetTable.turns tb.mask) (K - c) (stepN tb z c) (step_dummy tb z c) (by omega)
    (fun q hq => by rw [onj]; exact hKb _ (by omega)) (by rw [onj, Nat.add_sub_cancel' hc]; exact hK)
  rcases got with ⟨q, i, h1, h2, h3, h4, h5⟩ | ⟨h4, h5⟩
  · rw [onj] at h2
    obtain ⟨p, hp⟩ := there h2
    refine .inl ⟨c + q, i, p, Nat.le_add_right c q, by omega, hp, (hash hp).symm.trans h3, h2, fun m' i' p' g1 g2 g3 g4 g5 => ?_, ?_⟩
    · refine h4 (m' - c) i' (by omega) ?_ ((hash g3).trans g5)
      rw [onj, Nat.add_sub_cancel' g1]
      exact g4
    · have e : stepN tb z (c + q + 1) = nth tb.mask (stepN tb z c) (q + 1) := (on (q + 1)).symm
      rw [e, ← onj q]
      exact h5
  · refine .inr ⟨fun m' i' p' g1 g2 g3 g4 g5 => ?_, ?_⟩
    · refine h4 (m' - c) i' (by omega) ?_ ((hash g3).trans g5)
      rw [onj, Nat.add_sub_cancel' g1]
      exact g4
    · rw [onj, Nat.add_sub_cancel' hc] at h5
      exact h5
/-- the search for the tuple k, which stands at x -/
theorem seek (R : GS h0 s.heap a L en ep tb) {x : Addr} {k : D} (hk : deepI 3 k = true) (hx : Is s.heap k (.ref x)) (hu : A.units + 8 < cLine) {K : Nat} (hKf : K < 10 * SetTable.turns tb.mask)
    (hK : way tb.mask (hD k) K ∉ tb.place.toList) (hKb : ∀ j, j < K → way tb.mask (hD k) j ∈ tb.place.toList) {Q : SetFound → Shared → Prop}
    (hin : k ∈ L.map (·.2) → Q (.there none) s) (hout : k ∉ L.map (·.2) → Q (.free (way tb.mask (hD k) K) false) s) :
    ∀ (f c : Nat) (st : Option SetTable.Probe), st.getD (tb.probeStart (hD k)) = stepN tb (hD k) c → c ≤ K → K < f + c →
      (∀ (i : Nat) (p : Addr × D), L[i]? = some p → p.2 = k → ∃ m, c ≤ m ∧ m < K ∧ tb.place.toList[i]? = some (way tb.mask (hD k) m)) → wpAny (model P w) A (setSearchFrom a (.ref x) (hD k) true f st) Q E s := by
  obtain ⟨o, ho, hex, hd⟩ := R.ob
  intro f
  induction f with
  | zero => exact fun c st _ h1 h2 => by omega
  | succ f ih =>
    intro c st hst hc hf hre
    rw [setSearchFrom_succ]
    refine wpAny_bind (wpAny_setState_of ho hd R.fits ?_)
    dsimp only
    refine wp_if_neg R.whole ?_
    try refine wpAny_bind (wpAny_pure ?_)
    rw [hst]
    rcases look R (hD k) hKf hK hKb hc with ⟨m, i, p, h1, h2, h3, h4, h5, h6, h7⟩ | ⟨h6, h7⟩
    · rw [h7]
      dsimp only
      have hp := R.elt p (List.mem_of_getElem? h3)
      have body : wpAny (model P w) A (searchRest a (.ref x) (hD k) true f en tb (way tb.mask (hD k) m) i (stepN tb (hD k) (m + 1))) Q E s := by
        unfold searchRest
        rw [R.entry h3]
        dsimp only
        refine wpAny_bind (wpAny_holding (same_of hp.1 hk hp.2 hx hu ?_))
        refine wpAny_bind (wpAny_setState_of ho hd R.fits ?_)
        dsimp only
        by_cases e : p.2 = k
        · have e' : PyData.eqv p.2 k = true := (eqv_same 3 hp.1 hk).mpr e
          exact wp_if_pos (by simp [e']) (wpAny_pure (hin (List.mem_map.mpr ⟨p, List.mem_of_getElem? h3, e⟩)))
        · have e' : PyData.eqv p.2 k = false := by
            cases q : PyData.eqv p.2 k with
            | false => rfl
            | true => exact absurd ((eqv_same 3 hp.1 hk).mp q) e
          refine wp_if_neg (by simp [e']) ?_
          try refine wpAny_bind (wpAny_pure ?_)
          rw [sameMem]
          dsimp only
          have live : tb.slot (way tb.mask (hD k) m) = .live i := slot_live R.tab.ris h5
          simp only [if_true, live, R.entry h3]
          refine wpAny_bind (wpAny_isSame_ref_self (wpAny_bind (wpAny_pure ?_)))
          simp only [if_true]
          refine wp_if_neg (by simp [e']) (ih (m + 1) _ rfl h2 (by omega) fun i0 p0 g1 g2 => ?_)
          obtain ⟨m0, g3, g4, g5⟩ := hre i0 p0 g1 g2
          refine ⟨m0, ?_, g4, g5⟩
          rcases Nat.lt_trichotomy m0 m with y | y | y
          · exact absurd (by rw [g2]) (h6 m0 i0 p0 g3 y g1 g5)
          · exfalso
            rw [y] at g5
            have l2 := slot_live R.tab.ris g5
            rw [live] at l2
            injection l2 with l2
            rw [← l2, h3] at g1
            exact e (by rw [Option.some.inj g1]; exact g2)
          · exact y
      by_cases hl : tb.led = true
      · refine wp_if_neg (by simp [hl]) ?_
        try refine wpAny_bind (wpAny_pure ?_)
        exact body
      · refine wp_if_pos (by simp [hl]) (wpAny_bind (unseen hk hx (fun y hy => ?_) ?_))
        · obtain ⟨e, he, ee⟩ := List.mem_map.mp hy
          have he1 : e ∈ en ∧ e.1 = hD k := by simpa using he
          have he2 : e ∈ en.toList := by simpa using he1.1
          rw [R.rows] at he2
          obtain ⟨p2, hp2, e2⟩ := List.mem_map.mp he2
          refine ⟨p2.2, p2.1, by rw [← ee, ← e2], (R.elt p2 hp2).1, ?_⟩
          rw [← ee, ← e2]
          exact (R.elt p2 hp2).2
        · refine wp_if_neg (by decide) ?_
          try refine wpAny_bind (wpAny_pure ?_)
          exact body
    · rw [h7]
      dsimp only
      refine wpAny_pure (hout fun hm => ?_)
      obtain ⟨p0, g0, e0⟩ := List.mem_map.mp hm
      obtain ⟨i0, g1⟩ := List.mem_iff_getElem?.mp g0
      obtain ⟨m0, g3, g4, g5⟩ := hre i0 p0 g1 e0
      exact h6 m0 i0 p0 g3 g4 g1 g5 (by rw [e0])
theorem found (R : GS h0 s.heap a L en ep tb) {x : Addr} {k : D} (hk : deepI 3 k = true) (hx : Is s.heap k (.ref x)) (hu : A.units + 8 < cLine) {Q : SetFound → Shared → Prop} (hin : k ∈ L.map (·.2) → Q (.there none) s)
    (hout : ∀ K, k ∉ L.map (·.2) → way tb.mask (hD k) K ∉ tb.place.toList → (∀ j, j < K → way tb.mask (hD k) j ∈ tb.place.toList) → Q (.free (way tb.mask (hD k) K) false) s) : wpAny (model P w) A (setSearch a (.ref x) (hD k) true) Q E s := by
  have hr := R.room
  obtain ⟨K, hKf, hK, hKb⟩ := R.tab.first (by rw [List.length_map]; omega) (hD k)
  have few : 10 * SetTable.turns tb.mask ≤ 1420 := by
    unfold SetTable.turns
    rcases R.tab.mok with e | e | e <;> omega
  unfold setSearch
  refine seek R hk hx hu hKf hK hKb hin (fun hn => hout K hn hK hKb) 100000 0 none rfl (Nat.zero_le _) (by omega) fun i p hp e => ?_
  have hi : i < tb.place.toList.length := by
    have h1 := (List.getElem?_eq_some_iff.mp hp).1
    rw [Array.length_toList, R.placed]
    exact h1
  have hj := List.getElem?_eq_getElem hi
  obtain ⟨m, h1, h2⟩ := R.tab.before (h := hD k) (i := i) hK (by rw [List.getElem?_map, hp, ← e]; rfl) hj
  exact ⟨m, Nat.zero_le _, h1, by rw [hj, h2]⟩

/-! ### the table laid anew, and one element more -/
abbrev rw1 (p : Addr × D) : Int × Value := (hD p.2, Value.ref p.1)
/-- the rows that are picked by their numbers -/
theorem pick_rows {L : List (Addr × D)} {en : Array (Int × Value)} (hr : en.toList = L.map rw1) {nums : Array Nat} (hp : nums.toList.Perm (List.range L.length)) :
    ∃ M : List (Addr × D), (nums.filterMap (en[·]?)).toList = M.map rw1 ∧ M.Perm L ∧ M.map (fun p => hD p.2) = nums.toList.map fun i => (en.map (·.1)).getD i 0 := by
  have at_ : ∀ i, en[i]? = (L[i]?).map rw1 := fun i => by rw [← Array.getElem?_toList, hr, List.getElem?_map]
  refine ⟨nums.toList.filterMap (L[·]?), ?_, ?_, ?_⟩
  · rw [Array.toList_filterMap, List.map_filterMap]
    exact congrArg (fun f => List.filterMap f nums.toList) (funext at_)
  · have h1 := hp.filterMap (L[·]?)
    have h2 : ∀ (M : List (Addr × D)), (List.range M.length).filterMap (M[·]?) = M := by
      intro M
      have h3 : ∀ n, n ≤ M.length → (List.range n).filterMap (M[·]?) = M.take n := by
        intro n
        induction n with
        | zero => exact fun _ => rfl
        | succ n ih =>
          intro hn
          rw [List.range_succ, List.filterMap_append, ih (Nat.le_of_succ_le hn), List.take_succ, List.getElem?_eq_getElem hn, List.filterMap_cons_some (List.getElem?_eq_getElem hn)]
          rfl
      rw [h3 _ (Nat.le_refl _), List.take_length]
    rw [h2] at h1
    exact h1
  · have h1 : ∀ l : List Nat, (∀ i ∈ l, i < L.length) → (l.filterMap (L[·]?)).map (fun p => hD p.2) = l.map fun i => (en.map (·.1)).getD i 0 := by
      intro l
      induction l with
      | nil => exact fun _ => rfl
      | cons i l ih =>
        intro hl
        have hi := hl i List.mem_cons_self
        have e1 : (en.map (·.1)).getD i 0 = hD (L[i]).2 := by
          have e2 : (en.map (·.1))[i]? = some (hD (L[i]).2) := by
            rw [Array.getElem?_map, at_, List.getElem?_eq_getElem hi]
            rfl
          rw [Array.getD_eq_getD_getElem?, e2]
          rfl
        rw [List.filterMap_cons_some (List.getElem?_eq_getElem hi), List.map_cons, List.map_cons, ih fun j hj => hl j (List.mem_cons_of_mem _ hj), e1]
    exact h1 _ fun i hi => List.mem_range.mp (hp.mem_iff.mp hi)
theorem rows_len {L : List (Addr × D)} {en : Array (Int × Value)} (hr : en.toList = L.map rw1) : en.size = L.length := by
  rw [← Array.length_toList, hr, List.length_map]
theorem off_base {h : Heap} (hb : ∀ b o, h0.get? b = some o → h.get? b = some o) (hn : h0.get? a = none) {h' : Heap} (sb : Heap.SameBut a h h') : ∀ b o, h0.get? b = some o → h'.get? b = some o := fun b o e => by
  rw [sb.2 b fun z => by rw [z, hn] at e; cases e]
  exact hb b o e
/-- laid anew, larger -/
theorem relay {o : Obj} (ho : s.heap.get? a = some o) (hex : o.ExactSet) (hd : o.data = .set en ep tb) (hr : en.toList = L.map rw1) (hsz : tb.place.size = en.size) (hdm : tb.dummies = #[]) (hfl : en.size ≤ tb.mask)
    (nd : (L.map (·.2)).Nodup) (elt : ∀ p ∈ L, deepI 3 p.2 = true ∧ Is h0 p.2 (.ref p.1)) (hb : ∀ b o, h0.get? b = some o → s.heap.get? b = some o) (hn : h0.get? a = none) (pl : tb.plain = true) (few : L.length ≤ 60)
    {goal M : Nat} (hw : SetTable.sizeAbove goal - 1 = M) (hM : MaskOk M) (hw2 : SetTable.sizeAbove goal ≤ 128) (hfit : L.length * 5 < M * 3) {Q : Unit → Shared → Prop}
    (hQ : ∀ h' L' en' ep' tb', Heap.SameBut a s.heap h' → GS h0 h' a L' en' ep' tb' → L'.Perm L → Q () { s with heap := h' }) : wpAny (model P w) A (setRelay a goal) Q E s := by
  have hsl := rows_len hr
  have fit : tb.fits en.size = true := by
    unfold SetTable.fits SetTable.fill
    rw [hdm, Bool.and_eq_true, beq_iff_eq, decide_eq_true_eq]
    show tb.place.size = en.size ∧ tb.place.size + 0 ≤ tb.mask
    omega
  obtain ⟨tb', nums, e, hp, T, em, _, ep', _⟩ := relaid_ok tb (hs := en.map (·.1)) (wanted := goal) hw hM (by rw [Array.size_map, hsl]; omega)
  rw [Array.size_map, hsl] at hp
  obtain ⟨N, r1, r2, r3⟩ := pick_rows hr hp
  rw [← r3] at T
  have hs2 : (nums.filterMap (en[·]?)).size = en.size := by rw [rows_len r1, r2.length_eq, hsl]
  rw [setRelay_eq]
  refine wpAny_bind (wpAny_setState_of ho hd fit ?_)
  dsimp only
  refine wp_if_neg (by rw [sizeLine_eq]; omega) ?_
  try refine wpAny_bind (wpAny_pure ?_)
  rw [e]
  dsimp only
  refine wpAny_bind (wp_if_neg (by rw [hs2]; simp) ?_)
  try refine wpAny_bind (wpAny_pure ?_)
  refine wpAny_pure ?_
  dsimp only
  refine wpAny_storeSet_of ho hd ?_ (by rw [hs2, hsl, sizeLine_eq]; omega)
  have sb : Heap.SameBut a s.heap (s.heap.update a (Obj.putSet (nums.filterMap (en[·]?)) tb')) := Heap.SameBut.update ..
  refine hQ _ N _ (ep + 1) tb' sb ⟨⟨_, store_at ho hd, ⟨hex.1, hex.2.1, hex.2.2⟩, rfl⟩, r1, T, (r2.map (·.2)).nodup_iff.mpr nd, fun p hpm => elt p (r2.mem_iff.mp hpm), off_base hb hn sb, hn, by rw [ep']; exact pl, ?_, by rw [r2.length_eq]; exact few⟩ r2
  rw [r2.length_eq, em]
  exact hfit
/-- one element more, where it isn't there yet -/
theorem grow (R : GS h0 s.heap a L en ep tb) {x : Addr} {k : D} (hk : deepI 3 k = true) (hx : Is h0 k (.ref x)) (hu : A.units + 8 < cLine) (few : L.length < 60) {Q : Bool → Shared → Prop}
    (hQ : ∀ b h' L' en' ep' tb', Heap.SameBut a s.heap h' → GS h0 h' a L' en' ep' tb' → (k ∈ L.map (·.2) → L' = L) → (k ∉ L.map (·.2) → L'.Perm ((x, k) :: L)) → Q b { s with heap := h' }) :
    wpAny (model P w) A (setAddHashed a (.ref x) (hD k)) Q E s := by
  obtain ⟨o, ho, hex, hd⟩ := R.ob
  have hsl := R.size
  have hroom := R.room
  have hx' : Is s.heap k (.ref x) := hx.imp fun as r => Reads.keeps R.base r
  unfold setAddHashed
  refine wpAny_holding ?_
  rw [show (100000 : Nat) = 99999 + 1 from rfl, setAddHashedIn_succ]
  refine wpAny_bind (wpAny_setState_of ho hd R.fits ?_)
  dsimp only
  refine wp_if_neg (by simp [byScan, Value.scannable]) ?_
  try refine wpAny_bind (wpAny_pure ?_)
  refine wpAny_bind (found R hk hx' hu (fun hm => ?_) fun K hm hK hb => ?_)
  · dsimp only
    exact wpAny_pure (hQ false s.heap L en ep tb (Heap.SameBut.refl a s.heap) R (fun _ => rfl) fun z => absurd hm z)
  dsimp only
  refine wpAny_bind (wpAny_setState_of ho hd R.fits ?_)
  dsimp only
  obtain ⟨q1, q2, q3, q4, q5, q6, q7, q8, q9⟩ := R.tab.put hK hb
  have pl1 : (tb.put (way tb.mask (hD k) K)).1.plain = true := by rw [q6]; exact R.plain
  generalize hpt : tb.put (way tb.mask (hD k) K) = pt at q1 q3 q4 q5 q6 q7 q8 q9 pl1 ⊢
  obtain ⟨t1, p⟩ := pt
  dsimp only at q1 q3 q4 q5 q6 q7 q8 q9 pl1 ⊢
  subst q1
  first
    | (refine wpAny_bind ?_; refine wp_if_pos pl1 ?_; refine by_value 3 hk hx' 8 (by decide) ?_)
    | refine wp_if_pos pl1 (wpAny_bind (by_value 3 hk hx' 8 (by decide) ?_))
  simp only [if_true]
  generalize hpp : SetTable.below tb.place (way tb.mask (hD k) K) = p at q2 q3 ⊢
  have hin : (SetTable.insertAt en p (hD k, Value.ref x)).toList = (L.take p ++ (x, k) :: L.drop p).map rw1 := by
    rw [SetTable.toList_insertAt, R.rows, List.map_append, List.map_cons, List.map_take, List.map_drop]
  have pm := L2.put_perm L p (x, k)
  have hlen : (L.take p ++ (x, k) :: L.drop p).length = L.length + 1 := pm.length_eq
  have hhs : (L.take p ++ (x, k) :: L.drop p).map (fun p => hD p.2) = (L.map fun p => hD p.2).take p ++ hD k :: (L.map fun p => hD p.2).drop p := by
    rw [List.map_append, List.map_cons, List.map_take, List.map_drop]
  rw [← hhs] at q3
  have nd1 : ((L.take p ++ (x, k) :: L.drop p).map (·.2)).Nodup := by
    refine (pm.map (·.2)).nodup_iff.mpr ?_
    rw [List.map_cons]
    exact List.nodup_cons.mpr ⟨hm, R.nd⟩
  have hes := rows_len hin
  rw [hlen] at hes
  have elt1 : ∀ q ∈ L.take p ++ (x, k) :: L.drop p, deepI 3 q.2 = true ∧ Is h0 q.2 (.ref q.1) := fun q hq => by
    rcases List.mem_cons.mp (pm.mem_iff.mp hq) with e | hq
    · rw [e]; exact ⟨hk, hx⟩
    · exact R.elt0 q hq
  generalize SetTable.insertAt en p (hD k, Value.ref x) = en1 at hin hes ⊢
  generalize L.take p ++ (x, k) :: L.drop p = L1 at pm hlen q3 nd1 hin elt1
  refine wpAny_bind (wpAny_storeSet_of ho hd ?_ (by rw [hes, sizeLine_eq]; omega))
  have sb : Heap.SameBut a s.heap (s.heap.update a (Obj.putSet en1 t1)) := Heap.SameBut.update ..
  have ho1 := store_at (es' := en1) (t' := t1) ho hd
  have hb1 := off_base R.base R.new sb
  generalize s.heap.update a (Obj.putSet en1 t1) = h1 at sb ho1 hb1 ⊢
  have full : t1.tooFull = decide ((L.length + 1) * 5 ≥ tb.mask * 3) := by
    unfold SetTable.tooFull
    rw [q9, q4, List.length_map]
  by_cases hf : t1.tooFull = true
  · first
      | (refine wpAny_bind ?_; refine wp_if_pos (by simp [hf]) ?_)
      | (refine wp_if_pos (by simp [hf]) ?_; refine wpAny_bind ?_)
    have hfull : (L.length + 1) * 5 ≥ tb.mask * 3 := by rw [full, decide_eq_true_eq] at hf; exact hf
    rw [hsl]
    have hsz1 : t1.place.size = en1.size := by
      have h := q3.sz
      rw [List.length_map, hlen] at h
      rw [h, hes]
    have two : (tb.mask = 7 ∧ L.length = 4) ∨ (tb.mask = 31 ∧ L.length = 18) := by
      rcases R.tab.mok with e | e | e <;> rw [e] at hfull hroom
      · exact .inl ⟨e, by omega⟩
      · exact .inr ⟨e, by omega⟩
      · omega
    have go : ∀ M, SetTable.sizeAbove (SetTable.grown (L.length + 1)) - 1 = M → MaskOk M → SetTable.sizeAbove (SetTable.grown (L.length + 1)) ≤ 128 → (L.length + 1) * 5 < M * 3 →
        wpAny (model P w) A (setRelay a (SetTable.grown (L.length + 1))) (fun _ s' => wpAny (model P w) A (pure true) Q E s') E { s with heap := h1 } := fun M y1 y2 y3 y4 => by
      refine relay (s := { s with heap := h1 }) ho1 ⟨hex.1, hex.2.1, hex.2.2⟩ rfl hin hsz1 q3.dm (by rw [hes, q4]; rcases two with ⟨e, e2⟩ | ⟨e, e2⟩ <;> omega) nd1 elt1 hb1 R.new pl1 (by rw [hlen]; exact few) y1 y2 y3 (by rw [hlen]; exact y4) ?_
      exact fun h2 L2 en2 ep2 tb2 sb2 R2 pm2 => wpAny_pure (hQ true h2 L2 en2 ep2 tb2 (sb.trans sb2) R2 (fun z => absurd z hm) fun _ => pm2.trans pm)
    rcases two with ⟨_, e2⟩ | ⟨_, e2⟩
    · exact go 31 (by rw [e2, size_20]) (.inr (.inl rfl)) (by rw [e2, size_20]; decide) (by omega)
    · exact go 127 (by rw [e2, size_76]) (.inr (.inr rfl)) (by rw [e2, size_76]; decide) (by omega)
  · first
      | refine wp_if_neg (by simp [hf]) ?_
      | (refine wpAny_bind ?_; refine wp_if_neg (by simp [hf]) ?_; refine wpAny_pure ?_)
    refine wpAny_pure (hQ true h1 L1 en1 (ep + 1) t1 sb ⟨⟨_, ho1, ⟨hex.1, hex.2.1, hex.2.2⟩, rfl⟩, hin, q3, nd1, elt1, hb1, R.new, pl1, ?_, by rw [hlen]; exact few⟩ (fun z => absurd z hm) fun _ => pm)
    rw [full, decide_eq_true_eq] at hf
    rw [hlen, q4]
    omega
/-! ### a tuple or a list that is walked: what the set has got -/
structure Got (ks : List (Addr × D)) (i : Nat) (L : List (Addr × D)) : Prop where
  sub : ∀ p ∈ L, p ∈ ks.take i
  all : ∀ p ∈ ks.take i, p.2 ∈ L.map (·.2)
  len : L.length ≤ i
theorem Got.start (ks : List (Addr × D)) : Got ks 0 [] := ⟨fun p h => (nomatch h), fun p h => (by simp at h), Nat.le_refl _⟩
theorem Got.next {ks L L' : List (Addr × D)} {i : Nat} {x : Addr × D} (g : Got ks i L) (h : ks[i]? = some x) (h1 : x.2 ∈ L.map (·.2) → L' = L) (h2 : x.2 ∉ L.map (·.2) → L'.Perm (x :: L)) : Got ks (i + 1) L' := by
  have e : ks.take (i + 1) = ks.take i ++ [x] := by
    rw [List.take_succ, h]
    rfl
  by_cases c : x.2 ∈ L.map (·.2)
  · rw [h1 c]
    refine ⟨fun p hp => by rw [e]; exact List.mem_append_left _ (g.sub p hp), fun p hp => ?_, Nat.le_succ_of_le g.len⟩
    rw [e] at hp
    rcases List.mem_append.mp hp with z | z
    · exact g.all p z
    · rw [List.mem_singleton.mp z]; exact c
  · have pm := h2 c
    refine ⟨fun p hp => ?_, fun p hp => ?_, by rw [pm.length_eq]; exact Nat.succ_le_succ g.len⟩
    · rw [e]
      rcases List.mem_cons.mp (pm.mem_iff.mp hp) with z | z
      · rw [z]; exact List.mem_append_right _ (List.mem_singleton.mpr rfl)
      · exact List.mem_append_left _ (g.sub p z)
    · rw [(pm.map (·.2)).mem_iff, List.map_cons]
      rw [e] at hp
      rcases List.mem_append.mp hp with z | z
      · exact List.mem_cons_of_mem _ (g.all p z)
      · rw [List.mem_singleton.mp z]; exact List.mem_cons_self
/-- how many -/
theorem unlike_mem : ∀ (xs seen : List D), (∀ z ∈ seen, deepI 3 z = true) → (∀ z ∈ xs, deepI 3 z = true) → seen.Nodup → (unlike seen xs).Nodup ∧ ∀ z, z ∈ unlike seen xs ↔ z ∈ seen ∨ z ∈ xs
  | [], seen, _, _, h => ⟨h, fun z => ⟨.inl, fun y => y.elim id fun y => (nomatch y)⟩⟩
  | x :: xs, seen, h1, h2, h => by
    have hx := h2 x List.mem_cons_self
    have h2' : ∀ z ∈ xs, deepI 3 z = true := fun z hz => h2 z (List.mem_cons_of_mem _ hz)
    have key : (seen.any fun z => PyData.eqv z x) = true ↔ x ∈ seen := by
      rw [List.any_eq_true]
      exact ⟨fun ⟨z, hz, e⟩ => ((eqv_same 3 (h1 z hz) hx).mp e) ▸ hz, fun hm => ⟨x, hm, (eqv_same 3 hx hx).mpr rfl⟩⟩
    unfold unlike
    split
    · rename_i c
      have hm := key.mp c
      obtain ⟨g1, g2⟩ := unlike_mem xs seen h1 h2' h
      exact ⟨g1, fun z => (g2 z).trans ⟨fun y => y.imp id (List.mem_cons_of_mem _), fun y => y.elim .inl fun y => (List.mem_cons.mp y).elim (fun e => .inl (e ▸ hm)) .inr⟩⟩
    · rename_i c
      have hm : x ∉ seen := fun y => c (key.mpr y)
      have h1' : ∀ z ∈ seen ++ [x], deepI 3 z = true := fun z hz => (List.mem_append.mp hz).elim (h1 z) fun y => by rw [List.mem_singleton.mp y]; exact hx
      have h' : (seen ++ [x]).Nodup := by
        rw [List.nodup_append]
        exact ⟨h, List.nodup_cons.mpr ⟨fun y => (nomatch y), List.nodup_nil⟩, fun z hz y hy e => hm (by rw [List.mem_singleton.mp hy] at e; exact e ▸ hz)⟩
      obtain ⟨g1, g2⟩ := unlike_mem xs (seen ++ [x]) h1' h2' h'
      refine ⟨g1, fun z => (g2 z).trans ?_⟩
      rw [List.mem_append, List.mem_singleton, List.mem_cons, or_assoc]
theorem Got.count {ks L : List (Addr × D)} (g : Got ks ks.length L) (nd : (L.map (·.2)).Nodup) (hk : ∀ p ∈ ks, deepI 3 p.2 = true) : L.length = (unlike [] (ks.map (·.2))).length := by
  obtain ⟨h1, h2⟩ := unlike_mem (ks.map (·.2)) [] (fun z hz => (nomatch hz)) (fun z hz => by obtain ⟨p, hp, e⟩ := List.mem_map.mp hz; rw [← e]; exact hk p hp) List.nodup_nil
  rw [← List.length_map (·.2)]
  refine ((List.perm_ext_iff_of_nodup nd h1).mpr fun z => ?_).length_eq
  rw [h2]
  have ga := g.all
  have gs := g.sub
  rw [List.take_length] at ga gs
  constructor
  · intro hz
    obtain ⟨p, hp, e⟩ := List.mem_map.mp hz
    exact .inr (List.mem_map.mpr ⟨p, gs p hp, e⟩)
  · rintro (hz | hz)
    · exact nomatch hz
    · obtain ⟨p, hp, e⟩ := List.mem_map.mp hz
      rw [← e]
      exact ga p hp
/-! ### set.update's loop -/
section
variable {P : Program} {w : World} {A : Around} {E : Value → Shared → Prop}
theorem GS.keep {h0 h h' : Heap} {a : Addr} {L : List (Addr × D)} {en : Array (Int × Value)} {ep : Nat} {tb : SetTable} (R : GS h0 h a L en ep tb) (ha : ∀ o, h.get? a = some o → h'.get? a = some o) (hb : ∀ b o, h0.get? b = some o → h'.get? b = some o) : GS h0 h' a L en ep tb := by
  obtain ⟨o, ho, r⟩ := R.ob
  exact ⟨⟨o, ha o ho, r⟩, R.rows, R.tab, R.nd, R.elt0, hb, R.new, R.plain, R.room, R.few⟩
theorem GS.fresh {h0 h : Heap} {a : Addr} {b : Bool} (ho : h.get? a = some { cls := .type "set", dict := none, data := .set #[] 0 (.fresh 0 0 b) }) (hb : ∀ b o, h0.get? b = some o → h.get? b = some o) (hn : h0.get? a = none) : GS h0 h a [] #[] 0 (.fresh 0 0 b) :=
  ⟨⟨_, ho, ⟨rfl, rfl, rfl⟩, rfl⟩, rfl, ⟨List.Pairwise.nil, rfl, rfl, .inl rfl, fun x hx => (nomatch hx), fun i h j hi => (by simp at hi)⟩, List.nodup_nil, fun p hp => (nomatch hp), hb, hn, rfl, (show 0 * 5 < 7 * 3 by decide), Nat.zero_le _⟩
theorem fill {I : Addr} {fp wr : List Addr} {G : Array GenState → Array GenState → Prop} {n : Nat} {Pv : Nat → Value → Prop} {St : Nat → Shared → Prop} {Z : Result → Shared → Prop}
    (W : WalksS P w A.in1 I fp wr G n Pv St) (S : Addr) (off : S ∉ fp) (ks : List (Addr × D)) (hn : n = ks.length) (few : ks.length ≤ 60) (hval : ∀ i v, Pv i v → ∃ p, ks[i]? = some p ∧ v = .ref p.1)
    (h0 : Heap) (hk : ∀ p ∈ ks, deepI 3 p.2 = true ∧ Is h0 p.2 (.ref p.1)) (hS0 : h0.get? S = none) (hw0 : ∀ b ∈ wr, h0.get? b = none) (hu : A.in1.units + 24 < cLine) :
    ∀ (m i : Nat) (s : Shared), n - i = m → i ≤ n → St i s → (∃ L en ep tb, GS h0 s.heap S L en ep tb ∧ Got ks i L) →
      (∀ s' L en ep tb, Moved (S :: wr) G s s' → GS h0 s'.heap S L en ep tb → Got ks n L → Z (.ok (.ret .none)) s') →
      codeAny (model P w) A (.builtin "set.update.loop" ⟨[.ref S, .ref I], []⟩) Z s := by
  have hSw : S ∉ wr := fun h => off (W.sub _ h)
  have wider : ∀ b ∈ wr, b ∈ S :: wr := fun b hb => List.mem_cons_of_mem _ hb
  have still : ∀ {s s' : Shared}, Moved wr G s s' → (∀ b o, h0.get? b = some o → s.heap.get? b = some o) → ∀ b o, h0.get? b = some o → s'.heap.get? b = some o := fun hm kp b o e =>
    hm.heap b o (fun hb => by rw [hw0 b hb] at e; cases e) (kp b o e)
  intro m
  induction m with
  | zero =>
    intro i s hm hi hst ⟨L, en, ep, tb, R, g⟩ hZ
    obtain rfl : i = n := by omega
    refine codeAny_builtin F.entry_set_update_loop ?_
    rw [Around.under_plainId F.plain_set_update_loop _]
    show wpAny _ A.in1 (pyNext (.ref I) >>= _) _ _ s
    refine wpAny_bind (W.done s _ _ hst fun s' mv => ?_)
    show wpAny _ A.in1 (ret Value.none) _ _ s'
    exact wpAny_pure (hZ s' L en ep tb (mv.mono wider) (R.keep (fun o e => mv.heap S o hSw e) (still mv R.base)) g)
  | succ m ih =>
    intro i s hm hi hst ⟨L, en, ep, tb, R, g⟩ hZ
    have hlt : i < n := by omega
    refine codeAny_builtin F.entry_set_update_loop ?_
    rw [Around.under_plainId F.plain_set_update_loop _]
    show wpAny _ A.in1 (pyNext (.ref I) >>= _) _ _ s
    refine wpAny_bind (W.item i s _ _ hlt hst fun v s' hP hst' mv => ?_)
    obtain ⟨p, hp, rfl⟩ := hval i v hP
    have R1 : GS h0 s'.heap S L en ep tb := R.keep (fun o e => mv.heap S o hSw e) (still mv R.base)
    obtain ⟨d1, d2⟩ := hk p (List.mem_of_getElem? hp)
    show wpAny _ A.in1 (holding [Value.ref p.1] (setAdd S (.ref p.1)) >>= _) _ _ s'
    refine wpAny_bind (wpAny_holding ?_)
    unfold setAdd
    refine wpAny_holding (wpAny_bind (wpAny_with_toks (Nat.le_refl s'.toks) (hash_of 3 d1 (d2.imp fun as r => Reads.keeps R1.base r) (by omega) fun tk htk => ?_)))
    refine grow (s := { s' with toks := tk }) R1 d1 d2 (by omega) (by have := g.len; omega) fun b h' L' en' ep' tb' sb R2 c1 c2 => ?_
    refine wpAny_pure ⟨plainId_quiet F.plain_set_update_loop _, ih (i + 1) _ (by omega) hlt (W.frame _ s' _ _ hst' htk fun b hb o e => ?_) ⟨L', en', ep', tb', R2, g.next hp c1 c2⟩ fun s'' L2 en2 ep2 tb2 mv2 R3 g2 => ?_⟩
    · rw [sb.2 b (fun h : b = S => off (by rw [← h]; exact hb))]; exact e
    · refine hZ s'' L2 en2 ep2 tb2 (Moved.trans W.gtrans ((mv.mono wider).then_heap htk fun b o hb e => ?_) mv2) R3 g2
      rw [sb.2 b (fun h : b = S => hb (by rw [h]; exact List.mem_cons_self))]; exact e

set_option maxHeartbeats 3200000 in
/-- set(..) of a tuple -/
theorem set_tuple {s : Shared} {l : Addr} {items : Array Value} (ks : List (Addr × D)) {Q : Value → Shared → Prop} (hh : A.handled = none) (hl : s.heap.IsTuple l items) (hit : items.toList = ks.map fun p => Value.ref p.1)
    (hk : ∀ p ∈ ks, deepI 3 p.2 = true ∧ Is s.heap p.2 (.ref p.1)) (few : ks.length ≤ 60) (hu : A.units + 60 < cLine)
    (h : ∀ (h' : Heap) (tk : Nat) L en ep tb, GS s.heap h' s.heap.objs.size L en ep tb → Got ks ks.length L → Q (.ref s.heap.objs.size) { s with heap := h', toks := tk }) : wpAny (model P w) A (call (.type "set") [.ref l]) Q E s := by
  have hisz : items.size = ks.length := by
    have q := congrArg List.length hit
    rw [Array.length_toList, List.length_map] at q
    exact q
  obtain ⟨c, tl, hmro⟩ := F.called_set.mro
  have hmade := F.called_set.made
  have hsub := F.called_set.sub
  refine wpAny_call (codeAny_of_tree ?_)
  show wpAny _ _ (callAny (.type "set") _) _ _ _
  refine wpAny_pure ⟨Code.quiet_builtin _ (by decide +kernel), codeAny_builtin F.entry_type_call ?_⟩
  rw [Around.under_plain (weight_type_call_type "set" [.ref l] []) rfl]
  have h1 := F.called_set.notType
  have h2 := F.called_set.canCreate
  have hct := F.typeCall_set_1 (.ref l)
  repeat (any_goals (first | assumption | wp_step))
  refine codeAny_mono (code_set_led1 (.ref l) (E := E) (Q₁ := fun obj s1 => obj = .ref s.heap.objs.size ∧ s1 = { s with heap := s.heap.push { cls := .type "set", dict := none, data := .set #[] 0 (.fresh 0 0 (!w.params.followText "set-order")) } }) ⟨rfl, rfl⟩) fun r s1 hr => ?_
  cases r with
  | error e => exact hr
  | ok fl =>
    cases fl with
    | ret obj =>
      obtain ⟨rfl, rfl⟩ := hr
      have hS : (s.heap.push { cls := .type "set", dict := none, data := .set #[] 0 (.fresh 0 0 (!w.params.followText "set-order")) }).get? s.heap.objs.size = some { cls := .type "set", dict := none, data := .set #[] 0 (.fresh 0 0 (!w.params.followText "set-order")) } := Heap.get?_push_size _ rfl
      have hT : Shared.TypeIs { s with heap := s.heap.push { cls := .type "set", dict := none, data := .set #[] 0 (.fresh 0 0 (!w.params.followText "set-order")) } } (.ref s.heap.objs.size) "set" := ⟨_, hS, rfl⟩
      have hli := F.called_set.init.lookup
      have hbi := F.called_set.init.bind (.ref s.heap.objs.size)
      repeat (any_goals (first | assumption | wp_step))
      refine codeAny_mono (codeAny_call_builtin (R := wants (fun r s2 => r = .none ∧ ∃ h' tk L en ep tb, s2 = { s with heap := h', toks := tk } ∧ GS s.heap h' s.heap.objs.size L en ep tb ∧ Got ks ks.length L) E) F.called_set.init.plain F.entry_set_init (check_set_init_1 hT ?_)) fun r2 s2 hr2 => ?_
      · obtain ⟨ol, hol, hcl, nl, hdl⟩ := hl
        obtain ⟨ocls, odict, odata, oslots⟩ := ol
        simp only at hcl hdl
        subst hcl; subst hdl
        have hol' : (s.heap.push { cls := .type "set", dict := none, data := .set #[] 0 (.fresh 0 0 (!w.params.followText "set-order")) }).get? l = some { cls := .type "tuple", dict := odict, data := .seq items nl, slots := oslots } := Heap.get?_push_of_some _ hol
        have hsls := F.sub_tuple_set
        have hslf := F.sub_tuple_frozenset
        have hne : (Value.type "tuple" == Value.type "dict") = false := by decide
        have hl1 : (s.heap.push { cls := .type "set", dict := none, data := .set #[] 0 (.fresh 0 0 (!w.params.followText "set-order")) }).IsTuple l items := ⟨_, hol', rfl, nl, rfl⟩
        unfold Builtin.«set.__init__» noKeywords Builtin.Frozenset.updateFrom
        generalize hPI : pyIter = PI
        wp_walk
        subst hPI
        refine wpAny_pyIter_tuple hl1 ?_
        refine wpAny_bind (wpAny_runValue ?_)
        have hlS : l < s.heap.objs.size := Heap.lt_size hol
        have hh3 : A.in1.in1.in1.handled = none := by simp [hh]
        have hz1 : (s.heap.push { cls := .type "set", dict := none, data := .set #[] 0 (.fresh 0 0 (!w.params.followText "set-order")) }).objs.size = s.heap.objs.size + 1 := Heap.size_push ..
        have hneI : l ≠ (s.heap.push { cls := .type "set", dict := none, data := .set #[] 0 (.fresh 0 0 (!w.params.followText "set-order")) }).objs.size := by
          rw [Heap.size_push]; exact Nat.ne_of_lt (Nat.lt_succ_of_lt hlS)
        have off : s.heap.objs.size ∉ [(s.heap.push { cls := .type "set", dict := none, data := .set #[] 0 (.fresh 0 0 (!w.params.followText "set-order")) }).objs.size, l] := by
          rw [Heap.size_push]; simp only [List.mem_cons, List.mem_singleton, List.not_mem_nil, or_false, not_or]
          exact ⟨Nat.ne_of_lt (Nat.lt_succ_self _), Nat.ne_of_gt hlS⟩
        have hval : ∀ (i : Nat) (v : Value), items[i]? = some v → ∃ p, ks[i]? = some p ∧ v = .ref p.1 := fun i v hv => by
          have q : items.toList[i]? = some v := by rw [Array.getElem?_toList]; exact hv
          rw [hit, List.getElem?_map] at q
          cases hq : ks[i]? with
          | none => rw [hq] at q; cases q
          | some p =>
            rw [hq] at q
            exact ⟨p, rfl, (Option.some.inj q).symm⟩
        have past : ∀ b, s.heap.objs.size ≤ b → s.heap.get? b = none := fun b hb => by
          cases q : s.heap.get? b with
          | none => rfl
          | some o => exact absurd (Nat.lt_of_lt_of_le (Heap.lt_size q) hb) (Nat.lt_irrefl _)
        refine fill ((Walks.tuple hh3 _ l hneI items).toS) s.heap.objs.size
          off ks hisz few hval s.heap hk (past _ (Nat.le_refl _)) (fun b hb => past b (by
            rw [List.mem_singleton.mp hb, Heap.size_push]
            exact Nat.le_succ _)) (by simp only [Around.in1_units]; omega) (items.size - 0) 0 _ (by omega) (Nat.zero_le _)
          ⟨⟨_, Heap.get?_push_size _ rfl, rfl, rfl⟩, (hl1.push _)⟩ ⟨[], #[], 0, _, GS.fresh (Heap.get?_push_of_some _ hS) (fun b o e => Heap.get?_push_of_some _ (Heap.get?_push_of_some _ e)) (past _ (Nat.le_refl _)), Got.start ks⟩ ?_
        intro s' L en ep tb hm R g
        obtain ⟨h', g2, d', tk', os'⟩ := s'
        have eg : g2 = s.gens := hm.gens
        have ed : d' = s.drawn := hm.drawn
        have eo : os' = s.os := hm.os
        subst eg; subst ed; subst eo
        show wpAny _ _ _ _ _ _
        refine wpAny_pure ?_
        show wpAny _ _ (ret Value.none) _ _ _
        rw [hisz] at g
        exact wpAny_pure ⟨rfl, h', tk', L, en, ep, tb, rfl, R, g⟩
      · cases r2 with
        | error e => exact hr2
        | ok fl2 =>
          cases fl2 with
          | ret r =>
            obtain ⟨rfl, h', tk, L, en, ep, tb, rfl, R, g⟩ := hr2
            repeat (any_goals (first | assumption | wp_step))
            exact h _ _ _ _ _ _ R g
          | _ => exact hr2.elim
    | _ => exact hr.elim

set_option maxHeartbeats 3200000 in
/-- set(..) of a list -/
theorem set_list {s : Shared} {l : Addr} {items : Array Value} (ks : List (Addr × D)) {Q : Value → Shared → Prop} (hh : A.handled = none) (hl : s.heap.IsList l items) (hit : items.toList = ks.map fun p => Value.ref p.1)
    (hk : ∀ p ∈ ks, deepI 3 p.2 = true ∧ Is s.heap p.2 (.ref p.1)) (few : ks.length ≤ 60) (hu : A.units + 60 < cLine)
    (h : ∀ (h' : Heap) (tk : Nat) L en ep tb, GS s.heap h' s.heap.objs.size L en ep tb → Got ks ks.length L → Q (.ref s.heap.objs.size) { s with heap := h', toks := tk }) : wpAny (model P w) A (call (.type "set") [.ref l]) Q E s := by
  have hisz : items.size = ks.length := by
    have q := congrArg List.length hit
    rw [Array.length_toList, List.length_map] at q
    exact q
  obtain ⟨c, tl, hmro⟩ := F.called_set.mro
  have hmade := F.called_set.made
  have hsub := F.called_set.sub
  refine wpAny_call (codeAny_of_tree ?_)
  show wpAny _ _ (callAny (.type "set") _) _ _ _
  refine wpAny_pure ⟨Code.quiet_builtin _ (by decide +kernel), codeAny_builtin F.entry_type_call ?_⟩
  rw [Around.under_plain (weight_type_call_type "set" [.ref l] []) rfl]
  have h1 := F.called_set.notType
  have h2 := F.called_set.canCreate
  have hct := F.typeCall_set_1 (.ref l)
  repeat (any_goals (first | assumption | wp_step))
  refine codeAny_mono (code_set_led1 (.ref l) (E := E) (Q₁ := fun obj s1 => obj = .ref s.heap.objs.size ∧ s1 = { s with heap := s.heap.push { cls := .type "set", dict := none, data := .set #[] 0 (.fresh 0 0 (!w.params.followText "set-order")) } }) ⟨rfl, rfl⟩) fun r s1 hr => ?_
  cases r with
  | error e => exact hr
  | ok fl =>
    cases fl with
    | ret obj =>
      obtain ⟨rfl, rfl⟩ := hr
      have hS : (s.heap.push { cls := .type "set", dict := none, data := .set #[] 0 (.fresh 0 0 (!w.params.followText "set-order")) }).get? s.heap.objs.size = some { cls := .type "set", dict := none, data := .set #[] 0 (.fresh 0 0 (!w.params.followText "set-order")) } := Heap.get?_push_size _ rfl
      have hT : Shared.TypeIs { s with heap := s.heap.push { cls := .type "set", dict := none, data := .set #[] 0 (.fresh 0 0 (!w.params.followText "set-order")) } } (.ref s.heap.objs.size) "set" := ⟨_, hS, rfl⟩
      have hli := F.called_set.init.lookup
      have hbi := F.called_set.init.bind (.ref s.heap.objs.size)
      repeat (any_goals (first | assumption | wp_step))
      refine codeAny_mono (codeAny_call_builtin (R := wants (fun r s2 => r = .none ∧ ∃ h' tk L en ep tb, s2 = { s with heap := h', toks := tk } ∧ GS s.heap h' s.heap.objs.size L en ep tb ∧ Got ks ks.length L) E) F.called_set.init.plain F.entry_set_init (check_set_init_1 hT ?_)) fun r2 s2 hr2 => ?_
      · obtain ⟨ol, hol, hcl, nl, hdl⟩ := hl
        obtain ⟨ocls, odict, odata, oslots⟩ := ol
        simp only at hcl hdl
        subst hcl; subst hdl
        have hol' : (s.heap.push { cls := .type "set", dict := none, data := .set #[] 0 (.fresh 0 0 (!w.params.followText "set-order")) }).get? l = some { cls := .type "list", dict := odict, data := .seq items nl, slots := oslots } := Heap.get?_push_of_some _ hol
        have hsls := F.sub_list_set
        have hslf := F.sub_list_frozenset
        have hne : (Value.type "list" == Value.type "dict") = false := by decide
        have hl1 : (s.heap.push { cls := .type "set", dict := none, data := .set #[] 0 (.fresh 0 0 (!w.params.followText "set-order")) }).IsList l items := ⟨_, hol', rfl, nl, rfl⟩
        unfold Builtin.«set.__init__» noKeywords Builtin.Frozenset.updateFrom
        generalize hPI : pyIter = PI
        wp_walk
        subst hPI
        refine wpAny_pyIter_list hl1 ?_
        refine wpAny_bind (wpAny_runValue ?_)
        have hlS : l < s.heap.objs.size := Heap.lt_size hol
        have hh3 : A.in1.in1.in1.handled = none := by simp [hh]
        have hz1 : (s.heap.push { cls := .type "set", dict := none, data := .set #[] 0 (.fresh 0 0 (!w.params.followText "set-order")) }).objs.size = s.heap.objs.size + 1 := Heap.size_push ..
        have hneI : l ≠ (s.heap.push { cls := .type "set", dict := none, data := .set #[] 0 (.fresh 0 0 (!w.params.followText "set-order")) }).objs.size := by
          rw [Heap.size_push]; exact Nat.ne_of_lt (Nat.lt_succ_of_lt hlS)
        have off : s.heap.objs.size ∉ [(s.heap.push { cls := .type "set", dict := none, data := .set #[] 0 (.fresh 0 0 (!w.params.followText "set-order")) }).objs.size, l] := by
          rw [Heap.size_push]; simp only [List.mem_cons, List.mem_singleton, List.not_mem_nil, or_false, not_or]
          exact ⟨Nat.ne_of_lt (Nat.lt_succ_self _), Nat.ne_of_gt hlS⟩
        have hval : ∀ (i : Nat) (v : Value), items[i]? = some v → ∃ p, ks[i]? = some p ∧ v = .ref p.1 := fun i v hv => by
          have q : items.toList[i]? = some v := by rw [Array.getElem?_toList]; exact hv
          rw [hit, List.getElem?_map] at q
          cases hq : ks[i]? with
          | none => rw [hq] at q; cases q
          | some p =>
            rw [hq] at q
            exact ⟨p, rfl, (Option.some.inj q).symm⟩
        have past : ∀ b, s.heap.objs.size ≤ b → s.heap.get? b = none := fun b hb => by
          cases q : s.heap.get? b with
          | none => rfl
          | some o => exact absurd (Nat.lt_of_lt_of_le (Heap.lt_size q) hb) (Nat.lt_irrefl _)
        refine fill ((Walks.list hh3 _ l hneI items).toS) s.heap.objs.size
          off ks hisz few hval s.heap hk (past _ (Nat.le_refl _)) (fun b hb => past b (by
            rw [List.mem_singleton.mp hb, Heap.size_push]
            exact Nat.le_succ _)) (by simp only [Around.in1_units]; omega) (items.size - 0) 0 _ (by omega) (Nat.zero_le _)
          ⟨⟨_, Heap.get?_push_size _ rfl, rfl, rfl⟩, (hl1.push _)⟩ ⟨[], #[], 0, _, GS.fresh (Heap.get?_push_of_some _ hS) (fun b o e => Heap.get?_push_of_some _ (Heap.get?_push_of_some _ e)) (past _ (Nat.le_refl _)), Got.start ks⟩ ?_
        intro s' L en ep tb hm R g
        obtain ⟨h', g2, d', tk', os'⟩ := s'
        have eg : g2 = s.gens := hm.gens
        have ed : d' = s.drawn := hm.drawn
        have eo : os' = s.os := hm.os
        subst eg; subst ed; subst eo
        show wpAny _ _ _ _ _ _
        refine wpAny_pure ?_
        show wpAny _ _ (ret Value.none) _ _ _
        rw [hisz] at g
        exact wpAny_pure ⟨rfl, h', tk', L, en, ep, tb, rfl, R, g⟩
      · cases r2 with
        | error e => exact hr2
        | ok fl2 =>
          cases fl2 with
          | ret r =>
            obtain ⟨rfl, h', tk, L, en, ep, tb, rfl, R, g⟩ := hr2
            repeat (any_goals (first | assumption | wp_step))
            exact h _ _ _ _ _ _ R g
          | _ => exact hr2.elim
    | _ => exact hr.elim
end
end
end DL
/-! Further rules. -/
namespace DL
open PySem PySem.Spec PyProof.Rows L2

theorem hu65 {k : Nat} {A : Around} {env : PySem.Env} (hr : Room k (A.deeper env)) : (A.deeper env).units + 65 < cLine := by
  have := hr.un
  omega
/-- the law's def is the one that the top has made -/
theorem law_same {P : Program} {w : World} {K : PySem.W.Frag} {mg : Str → Option Value} {base : Heap} {ec : EC} {x : Str} {ps : List Str} {k p : Nat} {g : List D → R D} {fa : Addr} {oc : Value} {od : Option Addr} {fd : FuncData} {sl : Array (Option Value)}
    (G : DOk P w K mg base ec x ps k p g) (lo : K.lookup fa = some ⟨oc, od, .func fd, sl⟩) (e : mg x = some (.ref fa)) : FnOk P w K mg base (L2.CX P w) k fa fd ps (spD K ec p g) := by
  obtain ⟨f, fd2, h1, h2, h3, h4, oc2, od2, sl2, h5⟩ := G.ex
  rw [h1] at e
  have e' : f = fa := by simpa using e
  subst e'
  rw [h5] at lo
  have e2 : fd2 = fd := by
    have := Option.some.inj lo
    simp only [Obj.mk.injEq, Data.func.injEq] at this
    exact this.2.2.1
  subst e2
  exact h4
section
variable {X : Cx} {ec : EC} {W : WX} {e b tg : Expr} {pos p p2 q : Pos} {φ ψ : EX}
theorem de_globI {x : Str} {i : Int} (hg : Gl X x) (hm : ∃ t, X.mg x = some (.int i t)) (hdb : (x == ("__debug__" : Str)) = false := by decide) : DE X ec W (.Name x pos) (vC (.int i)) := by
  obtain ⟨t, h⟩ := hm
  exact de_glob (v := .int i) hg h ⟨_, rfl⟩ rfl hdb
/-! ### list(range(..)) -/
theorem rgV_rng {K : PySem.W.Frag} {F : Hp} (a b : Int) : RepL K F (rng a (b - a).toNat) (rgV a b) := by
  unfold rng rgV
  generalize (b - a).toNat = n
  have : ∀ (l : List Nat), RepL K F (l.map fun (k : Nat) => PyData.int (a + k)) (l.map fun i => V.int (a + (i : Nat))) := by
    intro l
    induction l with
    | nil => rfl
    | cons x l ih => exact ⟨_, _, rfl, rfl, ih⟩
  exact this _
theorem small_ok {a b : Int} (h1 : small62 a = true) (h2 : small62 b = true) (h3 : (b - a).toNat ≤ lim) : RgOk a b := by
  unfold small62 at h1 h2
  simp only [Bool.and_eq_true, decide_eq_true_eq] at h1 h2
  exact ⟨h1.1, h1.2, h2.1, h2.2, h3⟩
theorem dl_range1 (hc : X.calm = true) (hg : Gl X "list") (hm : X.mg "list" = none) (hg2 : Gl X "range") (hm2 : X.mg "range" = none) (ha : DX X ec W e φ) (na : starEach [e] X.env = (false, eval e X.env) :: starEach [] X.env := by rfl)
    (nb : starEach [.Call (.Name "range" p2) [e] [] q] X.env = (false, eval (.Call (.Name "range" p2) [e] [] q) X.env) :: starEach [] X.env := by rfl) : DLi X ec W (.Call (.Name "list" p) [.Call (.Name "range" p2) [e] [] q] [] pos) (l1 lRange1 φ) :=
  peImp (pe_listRg hc hg hm (prg_1 hg2 hm2 ha na) nb) fun σ H Q ⟨r, F, F0, B, S, q⟩ => by
    refine ⟨r, F, F0, B, S, (Thn.bind q).imp fun x F1 H1 ex1 g1 h1 v rv => ?_⟩
    obtain ⟨xs, ex, k⟩ := h1.po
    unfold lRange1 at ex
    split at ex
    · rename_i j
      split at ex
      · rename_i hj
        cases ex
        refine ⟨j, rv, small_ok (by decide) hj.1 (by simpa using hj.2), fun q hq => k F1 H1 (Gr.refl g1.i) q _ hq ?_⟩
        have := rgV_rng (K := X.K) (F := F1) 0 j
        simpa using this
      · cases ex
    · cases ex
theorem dl_range2 (hc : X.calm = true) (hg : Gl X "list") (hm : X.mg "list" = none) (hg2 : Gl X "range") (hm2 : X.mg "range" = none) (ha : DX X ec W e φ) (hb : DX X ec W b ψ) (na : starEach [e, b] X.env = (false, eval e X.env) :: starEach [b] X.env := by rfl) (na2 : starEach [b] X.env = (false, eval b X.env) :: starEach [] X.env := by rfl)
    (hp : (backTo q (starEach [b] X.env)).any (·.1) = false := by rfl)
    (nb : starEach [.Call (.Name "range" p2) [e, b] [] q] X.env = (false, eval (.Call (.Name "range" p2) [e, b] [] q) X.env) :: starEach [] X.env := by rfl) : DLi X ec W (.Call (.Name "list" p) [.Call (.Name "range" p2) [e, b] [] q] [] pos) (l2 lRange2 φ ψ) :=
  peImp (pe_listRg hc hg hm (prg_2 hg2 hm2 ha hb na na2 hp) nb) fun σ H Q ⟨r, F, F0, B, S, q⟩ => by
    refine ⟨r, F, F0, B, S, (Thn.bind q).imp fun x F1 H1 ex1 g1 h1 v rv => ⟨r, F1, F0, B, S.grow g1, (Thn.bind h1).imp fun y F2 H2 ey g2 h2 u ru => ?_⟩⟩
    obtain ⟨xs, ex, k⟩ := h2.po
    unfold lRange2 at ex
    split at ex
    · rename_i i j
      split at ex
      · rename_i hj
        cases ex
        exact ⟨i, j, rv, ru, small_ok hj.1 hj.2.1 hj.2.2, fun q hq => k F2 H2 (Gr.refl g2.i) q _ hq (rgV_rng i j)⟩
      · cases ex
    · cases ex
/-! ### dicts that are only looked at -/
theorem de_dict0 : DE X ec W (.Dict [] [] pos) (vC (.dict [])) := peImp pe_dnewK fun σ H Q ⟨r, F, F0, B, S, q⟩ => fun p hp =>
  (show ∀ F' H', Gr F H F' H' → ∀ v, Rep X.K F' (.dict []) v → Q v H' from q) _ _ (Gr.new S.sub hp (.dK [])) _ ⟨p, rfl, .inl ⟨rfl, [], upd_same⟩⟩
theorem de_dict1 {i j : Int} {p3 : Pos} : DE X ec W (.Dict [some (.Constant (.int i) 0 p2)] [.Constant (.int j) 0 p3] pos) (vC (.dict [(.int i, .int j)])) := peImp (pe_disp (pps_cons pe_int pe_int pps_nil) rfl rfl (by simp) (show 1 ≤ 15 by decide)) fun σ H Q ⟨r, F, F0, B, S, q⟩ => fun p hp => by
  refine ⟨upd_same, [(.inl i, .int j)], rfl, (show 1 ≤ 15 by decide), ?_⟩
  rw [upd_upd]
  exact (show ∀ F' H', Gr F H F' H' → ∀ v, Rep X.K F' (.dict [(.int i, .int j)]) v → Q v H' from q) _ _ (Gr.new S.sub hp _) _ ⟨p, rfl, .inl ⟨rfl, _, upd_same⟩⟩
/-! ### len(set(..)) -/
theorem pairs_of {h : Heap} : ∀ {ds : List D} {its : List Value}, (∀ d ∈ ds, (match d with | .tuple _ => true | _ => false) = true ∧ deepI 3 d = true) → IsAll h ds its →
    ∃ ks : List (Addr × D), its = ks.map (fun p => Value.ref p.1) ∧ ks.map (·.2) = ds ∧ ∀ p ∈ ks, deepI 3 p.2 = true ∧ Is h p.2 (.ref p.1)
  | [], its, _, hi => ⟨[], by rw [hi.nil]; rfl, rfl, fun p hp => (nomatch hp)⟩
  | d :: ds, its, hd, hi => by
    obtain ⟨v, us, rfl, h1, h2⟩ := hi.cons
    obtain ⟨ks, e1, e2, e3⟩ := pairs_of (fun x hx => hd x (List.mem_cons_of_mem _ hx)) h2
    obtain ⟨t1, t2⟩ := hd d List.mem_cons_self
    cases d with
    | tuple xs =>
      obtain ⟨a, o, vs, n, rfl, r⟩ := h1.tup
      refine ⟨(a, .tuple xs) :: ks, by rw [e1]; rfl, by rw [← e2]; rfl, fun p hp => ?_⟩
      rcases List.mem_cons.mp hp with e | hp
      · rw [e]; exact ⟨t2, h1⟩
      · exact e3 p hp
    | _ => cases t1
theorem lay_all : ∀ {ds : List D}, (∀ d ∈ ds, deepI 3 d = true) → PyData.canLayAll0 ds = true
  | [], _ => rfl
  | d :: ds, h => by
    unfold PyData.canLayAll0
    rw [(deepI_lay 3 (h d List.mem_cons_self)).1, lay_all fun x hx => h x (List.mem_cons_of_mem _ hx)]
    rfl
theorem de_lenset (hu : X.A.units + 65 < cLine) (hg : Gl X "len") (hm : X.mg "len" = none) (hg2 : Gl X "set") (hm2 : X.mg "set" = none) (ha : DX X ec W e φ) (hc : X.calm = true := by rfl)
    (na : starEach [e] X.env = (false, eval e X.env) :: starEach [] X.env := by rfl) : DE X ec W (.Call (.Name "len" p) [.Call (.Name "set" p2) [e] [] q] [] pos) (v1 dLenSet φ) := by
  refine ⟨fun pins s σ H Q I h => ?_⟩
  obtain ⟨r, F, F0, B, S, h⟩ := h
  refine Call_ (ld_blt I hg hm boot_len ?_)
  refine PyProof.Rows.callWith_builtin1 (PyProof.Rows.args_cons ?_ rfl) rfl rfl
  refine Call_ (ld_blt I hg2 hm2 boot_set ?_)
  refine PyProof.Rows.callWith_type1 (PyProof.Rows.args_cons (thn (ha.run pins s σ H (fun x H1 => ∃ d F1 ds, Same F1 H1 ∧ RepX X.K F1 H1 d x ∧ seqOf d = some ds ∧ (∀ z ∈ ds, (match z with | .tuple _ => true | _ => false) = true ∧ deepI 3 z = true) ∧ ds.length ≤ 40 ∧ Q (.int ((unlike [] ds).length : Nat)) H1) I
    ⟨r, F, F0, B, S, (Thn.bind h).imp fun d F1 H1 _ g k v rv => ?_⟩) fun v s1 ⟨x, H1, I1, r1, q1⟩ => PyProof.Rows.args_nil ?_) na) na rfl
  · obtain ⟨y, ey, k⟩ := Thn.po k
    unfold dLenSet at ey
    split at ey
    · rename_i ds hs
      split at ey
      · rename_i c
        cases ey
        rw [Bool.and_eq_true, List.all_eq_true, decide_eq_true_eq] at c
        exact ⟨d, F1, ds, g.i, rv, hs, fun z hz => by have := c.1 z hz; rw [Bool.and_eq_true] at this; exact this, c.2, k F1 H1 (Gr.refl g.i) _ rfl⟩
      · cases ey
    · cases ey
  · obtain ⟨d, F1, ds, sm, rx, hs, hd, hn, q1⟩ := q1
    have lay := lay_all fun z hz => (hd z hz).2
    have fin : ∀ (its : List Value) (ks : List (Addr × D)) (h' : Heap) (tk : Nat) (L : List (Addr × D)) (en : Array (Int × Value)) (ep : Nat) (tb : SetTable), ks.map (·.2) = ds → (∀ p ∈ ks, deepI 3 p.2 = true ∧ Is s1.heap p.2 (.ref p.1)) →
        GS s1.heap h' s1.heap.objs.size L en ep tb → Got ks ks.length L → wpAny (model X.prog X.w) (X.A) (call (.builtin "len") [.ref s1.heap.objs.size]) (EP X pins σ Q) X.xe { s1 with heap := h', toks := tk } := by
      intro its ks h' tk L en ep tb e2 hk R g
      obtain ⟨o, ho, hex, hdt⟩ := R.ob
      have hc1 := g.count R.nd fun p hp => (hk p hp).1
      rw [e2] at hc1
      have hsz := R.size
      have I2 : Inv X pins σ H1 { s1 with heap := h', toks := tk } := I1.kept R.base
      exact call_len_set ho hex hdt R.fits (by have := R.few; omega) ⟨.int ((unlike [] ds).length : Nat), H1, I2.tok _, ⟨_, by rw [← hc1, hsz]⟩, q1⟩
    cases d with
    | list ds' =>
      cases hs
      obtain ⟨a, vs, rfl, h1, h2⟩ := rx
      cases r1
      obtain ⟨its, rv, pl, hz⟩ := I1.list h1
      obtain ⟨as, ra⟩ := Dp.readsAll I1 ds vs its ((h2.mono sm).dp lay) rv
      obtain ⟨ks, e1, e2, e3⟩ := pairs_of hd ⟨as, ra⟩
      have hl : ks.length = ds.length := by rw [← e2, List.length_map]
      refine set_list ks (I1.ok.hd hc) pl.isList (by simpa using e1) e3 (by omega) (by omega) fun h' tk L en ep tb R g => PyProof.Rows.args_nil ?_
      exact fin its ks h' tk L en ep tb e2 e3 R g
    | tuple ds' =>
      cases hs
      obtain ⟨a, vs, rfl, h1, h2⟩ := rx
      cases r1
      obtain ⟨its, rv, ⟨o, ho, hcl, n, hdt⟩, hz⟩ := I1.tuple (tupT sm h1)
      obtain ⟨as, ra⟩ := Dp.readsAll I1 ds vs its ((h2.mono sm).dp lay) rv
      obtain ⟨ks, e1, e2, e3⟩ := pairs_of hd ⟨as, ra⟩
      have hl : ks.length = ds.length := by rw [← e2, List.length_map]
      refine set_tuple ks (I1.ok.hd hc) ⟨o, ho, hcl, n, hdt⟩ (by simpa using e1) e3 (by omega) (by omega) fun h' tk L en ep tb R g => PyProof.Rows.args_nil ?_
      exact fin its ks h' tk L en ep tb e2 e3 R g
    | _ => cases hs
end
end DL
/-! A list so many times. -/
namespace DL
open PySem PySem.Spec PyProof.Rows L2
theorem fold_arr (its : List Value) : ∀ (k : Nat) (a : Array Value), List.foldl (fun x1 x2 => x1 ++ x2) a (List.replicate k its.toArray) = a ++ (List.replicate k its).flatten.toArray
  | 0, a => by simp
  | k + 1, a => by
    rw [List.replicate_succ, List.foldl_cons, fold_arr its k, List.replicate_succ, List.flatten_cons]
    simp
theorem rep_arr (its : List Value) (k : Nat) : List.foldl (fun x1 x2 => x1 ++ x2) #[] (List.replicate (if its.toArray.isEmpty = true then 0 else k) its.toArray) = (List.replicate k its).flatten.toArray := by
  rw [fold_arr]
  cases its with
  | nil => simp
  | cons x xs => simp
theorem vals_app {as bs : List V} {us vs : List Value} (h : Vals as us) (g : Vals bs vs) : Vals (as ++ bs) (us ++ vs) := h.append g
theorem vals_rep {as : List V} {us : List Value} (h : Vals as us) : ∀ k : Nat, Vals (List.replicate k as).flatten (List.replicate k us).flatten
  | 0 => by simpa using (Paired.nil : Vals [] [])
  | k + 1 => by
    rw [List.replicate_succ, List.flatten_cons, List.replicate_succ, List.flatten_cons]
    exact h.append (vals_rep h k)
theorem rep_size {α : Type} (xs : List α) : ∀ k : Nat, (List.replicate k xs).flatten.length = xs.length * k
  | 0 => by simp
  | k + 1 => by rw [List.replicate_succ, List.flatten_cons, List.length_append, rep_size xs k, Nat.mul_succ, Nat.add_comm]
def rRepL (K : PySem.W.Frag) : R2 := fun x y H Q => ∃ l k xs, x = .ref l ∧ y = .int k ∧ SqL K H l xs ∧ -2 ^ 63 ≤ k ∧ k < 2 ^ 63 ∧ xs.length * k.toNat ≤ sizeLine ∧ ∀ p, H p = none → Q (.ref p) (upd H p (.lst (List.replicate k.toNat xs).flatten))
theorem op_repL {X : Cx} : OpR X (binaryOp .Mult) (rRepL X.K) := by
  intro pins s σ H x y v u Q I rx ry h
  obtain ⟨l, k, xs, rfl, rfl, hA, k1, k2, hz, q⟩ := h
  cases rx
  obtain ⟨t, rfl⟩ := ry
  obtain ⟨its, r, ⟨o, n, ho, hc, hd, hs⟩, hl⟩ := I.list hA
  obtain ⟨oc, od, odt, osl⟩ := o
  simp only at hc hd hs
  subst hc hd hs
  have e1 := r.length
  have z : sizeLine = 16777216 := sizeLine_eq
  have hsz : its.toArray.size * k.toNat ≤ 16777216 := by rw [List.size_toArray, ← e1]; omega
  refine wpAny_binaryOp_repeat_ref (T := "list") (U := "int") (by decide) ⟨_, ho, rfl⟩ (fun s' => rfl) noFill_list_mul F.fills_int_mul F.slot_int_rmul repeat_list int_index ?_
  refine call_meets F.slot_int_rmul rfl F.entry_int_rmul (F.args_int_rmul_2 _ _) (lm_int_rmul_list_any k t l its.toArray n _ osl) ⟨ho, ?_⟩
  refine ⟨rfl, ⟨_, ho, rfl⟩, ?_⟩
  refine call_meets F.slot_list_mul ⟨_, ho, rfl⟩ F.entry_list_mul (F.args_list_mul_2 _ _) (lm_list_mul_any l its.toArray n _ osl k t ?_ ?_ ?_) ⟨ho, ?_⟩
  · simp only [Builtin.List.listFitsIndex, k1, k2, decide_true, Bool.and_self, Bool.not_true]
    decide
  · have : (2 ^ 63 - 1) / 8 = 1152921504606846975 := by decide
    omega
  · have h : ¬ its.toArray.size * k.toNat > sizeLine := by omega
    simp only [Builtin.List.listTooLong, h, decide_false]
    decide
  · rw [rep_arr]
    exact ⟨.ref _, _, I.lnew (t' := s.toks) (vals_rep r k.toNat) (by rw [rep_size]; exact hz), rfl, q _ I.fresh⟩
theorem o_rep {K : PySem.W.Frag} : Op2L K lRep (rRepL K) := by
  intro x y zs F H v u Q hf e rx ry k
  unfold lRep at hf
  split at hf
  · rename_i xs i
    split at hf
    · rename_i hl
      cases hf
      obtain ⟨a, vs, rfl, h1, h2⟩ := rx
      refine ⟨a, i, vs, rfl, ry, h1, hl.1, hl.2.1, ?_, fun p hp => k p _ hp ?_⟩
      · rw [h2.length]
        exact hl.2.2
      · generalize i.toNat = m
        induction m with
        | zero => exact (rfl : ([] : List V) = [])
        | succ m ih =>
          rw [List.replicate_succ, List.flatten_cons, List.replicate_succ, List.flatten_cons]
          exact h2.append ih
    · cases hf
  · cases hf
end DL
/-! Expressions that change own lists: calls of defs that change the lists that they are passed. -/
namespace DL
open PySem PySem.Spec PyProof.Rows L2

/-- what is wanted of x, reckoned at the slots σ; the entry's part and heap F0, B -/
def ThnS {α : Type} (K : PySem.W.Frag) (ec : EC) (W : WX) (x : RS α) (σ : L2.St) (F0 B F : Hp) (P : α → Env → Hp → Hp → Prop) : Prop := match x with
  | none => False
  | some (.error e, r) => ∀ dx F' H', Same F F' → SR K F0 B r σ H' F' → ErrOk K F' H' e dx → W (.ref (ec e.cls)) dx σ H'
  | some (.ok a, r) => ∀ F' H', Same F F' → SR K F0 B r σ H' F' → P a r F' H'
section
variable {α β : Type} {K : PySem.W.Frag} {ec : EC} {W : WX} {σ : L2.St} {F0 B F F1 H : Hp} {r : Env} {P P' : α → Env → Hp → Hp → Prop}
theorem ThnS.mono {x : RS α} (g : Same F F1) (h : ThnS K ec W x σ F0 B F P) : ThnS K ec W x σ F0 B F1 P := by
  match x with
  | none => exact h
  | some (.error e, r) => exact fun dx F' H' g' => h dx F' H' (g.trans g')
  | some (.ok a, r) => exact fun F' H' g' => h F' H' (g.trans g')
theorem ThnS.imp {x : RS α} (h : ThnS K ec W x σ F0 B F P) (f : ∀ a r F' H', x = some (.ok a, r) → Same F F' → SR K F0 B r σ H' F' → P a r F' H' → P' a r F' H') : ThnS K ec W x σ F0 B F P' := by
  match x with
  | none => exact h
  | some (.error e, r) => exact h
  | some (.ok a, r) => exact fun F' H' g' S => f a r F' H' rfl g' S (h F' H' g' S)
theorem ThnS.bind {x : RS β} {f : β → Env → RS α} (h : ThnS K ec W (sb x f) σ F0 B F P) : ThnS K ec W x σ F0 B F (fun a r F' H' => ThnS K ec W (f a r) σ F0 B F' P) := by
  match x with
  | none => exact h
  | some (.error e, r) => exact h
  | some (.ok a, r) => exact fun F' H' g' S => ThnS.mono g' (show ThnS K ec W (f a r) σ F0 B F P from h)
theorem ThnS.ok {a : α} (S : SR K F0 B r σ H F) (h : ThnS K ec W (okS a r) σ F0 B F P) : P a r F H := h F H (Same.refl _) S
theorem ThnS.up {x : R α} (S : SR K F0 B r σ H F) (h : ThnS K ec W (up r x) σ F0 B F P) : Thn K ec W x σ F H fun a F' H' => P a r F' H' := by
  match x with
  | none => exact h
  | some (.error e) => exact fun dx F' H' g he => h dx F' H' g.f (S.grow g) he
  | some (.ok a) => exact fun F' H' g => h F' H' g.f (S.grow g)
end
def tDs (K : PySem.W.Frag) (ec : EC) (W : WX) (a : ES D) : TE := fun σ H Q => ∃ r F F0 B, SR K F0 B r σ H F ∧ ThnS K ec W (a r) σ F0 B F fun d _ F' H' => ∀ v, Rep K F' d v → Q v H'
def tTs (K : PySem.W.Frag) (ec : EC) (W : WX) (a : ES Bool) : TT := fun σ H Q => ∃ r F F0 B, SR K F0 B r σ H F ∧ ThnS K ec W (a r) σ F0 B F fun b _ _ H' => Q b H'
def tLs (K : PySem.W.Frag) (ec : EC) (W : WX) (a : ES (List D)) : TE := fun σ H Q => ∃ r F F0 B, SR K F0 B r σ H F ∧ ThnS K ec W (a r) σ F0 B F fun xs _ F' H' => ∀ p vs, H' p = none → RepL K F' xs vs → Q (.ref p) (upd H' p (.lst vs))
def tAss (K : PySem.W.Frag) (ec : EC) (W : WX) (a : ES (List D)) : TA := fun σ H Q => ∃ r F F0 B, SR K F0 B r σ H F ∧ ThnS K ec W (a r) σ F0 B F fun ds _ F' H' => ∀ vs, RepL K F' ds vs → Q vs H'
abbrev DEs (X : Cx) (ec : EC) (W : WX) (e : Expr) (a : ES D) : Prop := PE X e (tDs X.K ec W a)
abbrev DBs (X : Cx) (ec : EC) (W : WX) (e : Expr) (a : ES Bool) : Prop := PE X e (tDs X.K ec W (wB a))
abbrev DTs (X : Cx) (ec : EC) (W : WX) (e : Expr) (a : ES Bool) : Prop := PT X e (tTs X.K ec W a)
abbrev DWs (X : Cx) (ec : EC) (W : WX) (e : Expr) (a : ES Bool) : Prop := PW X e (tTs X.K ec W a)
abbrev DLs (X : Cx) (ec : EC) (W : WX) (e : Expr) (a : ES (List D)) : Prop := PE X e (tLs X.K ec W a)
abbrev DAs (X : Cx) (ec : EC) (W : WX) (es : List Expr) (a : ES (List D)) : Prop := PA X es (tAss X.K ec W a)
section
variable {X : Cx} {ec : EC} {W : WX} {e b c : Expr} {es rest : List Expr} {pos p : Pos} {φ : EX} {α : EB} {ι : EL} {f1 f2 : ES D} {t1 t2 : ES Bool} {l1 : ES (List D)}
/-! ### what changes nothing -/
theorem des_up (h : DE X ec W e φ) : DEs X ec W e (uX φ) := peImp h fun σ H Q ⟨r, F, F0, B, S, q⟩ => ⟨r, F, F0, B, S, q.up S⟩
theorem dls_up (h : DLi X ec W e ι) : DLs X ec W e (uX ι) := peImp h fun σ H Q ⟨r, F, F0, B, S, q⟩ => ⟨r, F, F0, B, S, q.up S⟩
theorem dts_up (h : DT X ec W e α) : DTs X ec W e (uX α) := ptImp h fun σ H Q ⟨r, F, F0, B, S, q⟩ => ⟨r, F, F0, B, S, q.up S⟩
theorem dbs_up (h : DB X ec W e α) : DBs X ec W e (uX α) := peImp h fun σ H Q ⟨r, F, F0, B, S, q⟩ => by
  refine ⟨r, F, F0, B, S, ?_⟩
  have q' : ThnS X.K ec W (sb (up r (α r)) fun b r1 => okS (PyData.bool b) r1) σ F0 B F fun d _ F' H' => ∀ v, Rep X.K F' d v → Q v H' := q
  revert q'
  show _ → Thn X.K ec W (rb (α r) fun b => ok (PyData.bool b)) σ F H fun d F' H' => ∀ v, Rep X.K F' d v → Q v H'
  match α r with
  | none => exact fun z => z
  | some (.error e) => exact fun z dx F' H' g he => z dx F' H' g.f (S.grow g) he
  | some (.ok a) => exact fun z F' H' g => z F' H' g.f (S.grow g)
/-! ### conversions -/
/-- a new list becomes a datum -/
theorem des_l (h : DLs X ec W e l1) : DEs X ec W e (wL l1) := peImp h fun σ H Q ⟨r, F, F0, B, S, q⟩ =>
  ⟨r, F, F0, B, S, (ThnS.bind q).imp fun xs r1 F1 H1 _ sf S1 k p vs hp hv => by
    have g' := Gr.new S1.sub hp (.lst vs)
    exact k _ _ g'.f (S1.grow g') (.ref p) ⟨p, vs, rfl, .inl (.inl upd_same), hv.mono g'.f⟩⟩
theorem boolOfS {K : PySem.W.Frag} {σ : L2.St} {F0 B F : Hp} {P : Bool → Env → Hp → Hp → Prop} {x : RS D} (q : ThnS K ec W (sb x fun d r => up r (po (dTr d))) σ F0 B F P) : ThnS K ec W x σ F0 B F fun d r F' H' => ∃ k, d = .bool k ∧ P k r F' H' := by
  match x with
  | none => exact q
  | some (.error _, _) => exact q
  | some (.ok d, r) =>
    intro F' H' g S
    cases d with
    | bool k => exact ⟨k, rfl, (show ThnS K ec W (okS k r) σ F0 B F P from q) F' H' g S⟩
    | _ => exact False.elim q
theorem DEs.test (h : DEs X ec W e f1) (he : ∀ whole, isTrue e X.env whole = (do let v ← whole; standAt e.pos; holding [v] (truthy v)) := by intro _; rfl) : DTs X ec W e (wTr f1) :=
  ptImp (pt_val h he) fun σ H Q ⟨r, F, F0, B, S, q⟩ => by
    refine ⟨r, F, F0, B, S, (boolOfS q).imp fun d r1 F1 H1 _ g1 S1 ⟨k, e, h1⟩ v rv => ?_⟩
    subst e
    exact ⟨k, rv, h1⟩
theorem DEs.tr (h : DEs X ec W e f1) : DBs X ec W e (wTr f1) := peImp h fun σ H Q ⟨r, F, F0, B, S, q⟩ => by
  have q' : ThnS X.K ec W (sb (f1 r) fun d r => up r (po (dTr d))) σ F0 B F fun k r' F' H' => ∀ v, Rep X.K F' (.bool k) v → Q v H' := by
    have q0 : ThnS X.K ec W (sb (sb (f1 r) fun d r => up r (po (dTr d))) fun b r1 => okS (PyData.bool b) r1) σ F0 B F fun d _ F' H' => ∀ v, Rep X.K F' d v → Q v H' := q
    exact (ThnS.bind q0).imp fun k r' F' H' _ _ S' z => ThnS.ok S' z
  refine ⟨r, F, F0, B, S, (boolOfS q').imp fun d r1 F1 H1 _ g1 S1 ⟨k, e, h1⟩ v rv => ?_⟩
  subst e
  exact h1 v rv
theorem DBs.test (h : DBs X ec W e t1) (he : ∀ whole, isTrue e X.env whole = (do let v ← whole; standAt e.pos; holding [v] (truthy v)) := by intro _; rfl) : DTs X ec W e t1 :=
  ptImp (pt_val h he) fun σ H Q ⟨r, F, F0, B, S, q⟩ => by
    refine ⟨r, F, F0, B, S, ?_⟩
    have q' : ThnS X.K ec W (t1 r) σ F0 B F fun b _ _ H' => Q b H' := q
    revert q'
    show _ → ThnS _ _ _ (sb (t1 r) fun b r1 => okS (PyData.bool b) r1) _ _ _ _ _
    match t1 r with
    | none => exact fun z => z
    | some (.error _, _) => exact fun z => z
    | some (.ok k, r1) => exact fun z F' H' g S v rv => ⟨k, rv, z F' H' g S⟩
/-! ### tests -/
theorem dts_not (h : DTs X ec W e t1) : DTs X ec W (.UnaryOp .Not e pos) (wNot t1) := ptImp (pt_not h) fun σ H Q ⟨r, F, F0, B, S, q⟩ =>
  ⟨r, F, F0, B, S, (ThnS.bind q).imp fun k r1 F1 H1 _ g1 S1 h1 => ThnS.ok S1 h1⟩
theorem DWs.t (h : DWs X ec W e t1) : DTs X ec W e t1 := PW.pt h
theorem dws_and1 (h : DTs X ec W e t1) : DWs X ec W (.BoolOp .And [e] pos) t1 := pw_and1 h
theorem dws_or1 (h : DTs X ec W e t1) : DWs X ec W (.BoolOp .Or [e] pos) t1 := pw_or1 h
theorem dws_and (ha : DTs X ec W e t1) (hb : DWs X ec W (.BoolOp .And (b :: rest) pos) t2) : DWs X ec W (.BoolOp .And (e :: b :: rest) pos) (wAnd t1 t2) := pwImp (pw_and ha hb) fun σ H Q ⟨r, F, F0, B, S, q⟩ => by
  refine ⟨r, F, F0, B, S, (ThnS.bind q).imp fun k r1 F1 H1 _ g1 S1 h1 => ?_⟩
  cases k with
  | true => exact iteT ⟨r1, F1, F0, B, S1, h1⟩
  | false => exact iteF (ThnS.ok S1 h1)
theorem dws_or (ha : DTs X ec W e t1) (hb : DWs X ec W (.BoolOp .Or (b :: rest) pos) t2) : DWs X ec W (.BoolOp .Or (e :: b :: rest) pos) (wOr t1 t2) := pwImp (pw_or ha hb) fun σ H Q ⟨r, F, F0, B, S, q⟩ => by
  refine ⟨r, F, F0, B, S, (ThnS.bind q).imp fun k r1 F1 H1 _ g1 S1 h1 => ?_⟩
  cases k with
  | true => exact iteT (ThnS.ok S1 h1)
  | false => exact iteF ⟨r1, F1, F0, B, S1, h1⟩
theorem dbs_bind {K : PySem.W.Frag} {σ : L2.St} {F0 B F : Hp} {r : Env} {f : Bool → Env → RS Bool} {P : D → Env → Hp → Hp → Prop} (q : ThnS K ec W (wB (fun r => sb (t1 r) f) r) σ F0 B F P) : ThnS K ec W (wB t1 r) σ F0 B F fun d r1 F' H' => ∃ k, d = .bool k ∧ ThnS K ec W (sb (f k r1) fun b r2 => okS (.bool b) r2) σ F0 B F' P := by
  revert q
  show ThnS _ _ _ (sb (sb (t1 r) f) fun b r1 => okS (PyData.bool b) r1) _ _ _ _ _ → ThnS _ _ _ (sb (t1 r) fun b r1 => okS (PyData.bool b) r1) _ _ _ _ _
  match t1 r with
  | none => exact fun z => z
  | some (.error _, _) => exact fun z => z
  | some (.ok k, r1) => exact fun z F' H' g S => ⟨k, rfl, ThnS.mono g z⟩
theorem dbs_not (h : DBs X ec W e t1) : DBs X ec W (.UnaryOp .Not e pos) (wNot t1) := peImp (pe_not h) fun σ H Q ⟨r, F, F0, B, S, q⟩ =>
  ⟨r, F, F0, B, S, (dbs_bind q).imp fun d r1 F1 H1 _ g1 S1 ⟨k, e, h1⟩ v rv => by
    subst e
    exact ⟨k, rv, ThnS.ok S1 h1 _ rfl⟩⟩
theorem dbs_one {op : BoolOp} (h : DBs X ec W e t1) : DBs X ec W (.BoolOp op [e] pos) t1 := pe_one h
theorem dbs_and (ha : DBs X ec W e t1) (hb : DBs X ec W (.BoolOp .And (b :: rest) pos) t2) : DBs X ec W (.BoolOp .And (e :: b :: rest) pos) (wAnd t1 t2) := peImp (pe_and ha hb) fun σ H Q ⟨r, F, F0, B, S, q⟩ =>
  ⟨r, F, F0, B, S, (dbs_bind q).imp fun d r1 F1 H1 _ g1 S1 ⟨k, e, h1⟩ v rv => by
    subst e
    refine ⟨k, rv, ?_⟩
    cases k with
    | true => exact iteT ⟨r1, F1, F0, B, S1, h1⟩
    | false => exact iteF (ThnS.ok S1 h1 _ rfl)⟩
theorem dbs_or (ha : DBs X ec W e t1) (hb : DBs X ec W (.BoolOp .Or (b :: rest) pos) t2) : DBs X ec W (.BoolOp .Or (e :: b :: rest) pos) (wOr t1 t2) := peImp (pe_or ha hb) fun σ H Q ⟨r, F, F0, B, S, q⟩ =>
  ⟨r, F, F0, B, S, (dbs_bind q).imp fun d r1 F1 H1 _ g1 S1 ⟨k, e, h1⟩ v rv => by
    subst e
    refine ⟨k, rv, ?_⟩
    cases k with
    | true => exact iteT (ThnS.ok S1 h1 _ rfl)
    | false => exact iteF ⟨r1, F1, F0, B, S1, h1⟩⟩
theorem des_if (hc : DTs X ec W c t1) (ha : DEs X ec W e f1) (hb : DEs X ec W b f2) : DEs X ec W (.IfExp c e b pos) (wIf t1 f1 f2) := peImp (pe_ifExp hc ha hb) fun σ H Q ⟨r, F, F0, B, S, q⟩ =>
  ⟨r, F, F0, B, S, (ThnS.bind q).imp fun k r1 F1 H1 _ g1 S1 h1 => by
    cases k with
    | true => exact iteT ⟨r1, F1, F0, B, S1, h1⟩
    | false => exact iteF ⟨r1, F1, F0, B, S1, h1⟩⟩
/-! ### operators -/
theorem des_op {op : Operator} {t : R2} {f : D → D → Option D} (ho : OpR X (binaryOp op) t) (hs : Op2 X.K f t) (ha : DEs X ec W e f1) (hb : DEs X ec W b f2) : DEs X ec W (.BinOp e op b pos) (DL.w2 f f1 f2) :=
  peImp (pe_op ho ha hb) fun _ _ _ h => by
    obtain ⟨r, F, F0, B, S, q⟩ := h
    refine ⟨r, F, F0, B, S, (ThnS.bind q).imp fun x r1 F1 H1 _ s1 S1 h1 v rv => ⟨r1, F1, F0, B, S1, (ThnS.bind h1).imp fun y r2 F2 H2 _ s2 S2 h2 u ru => ?_⟩⟩
    obtain ⟨d, ed, k⟩ := (h2.up S2).po
    exact hs x y d F2 H2 v u _ ed S2.sub ((rv.mono s2).x S2.sub) (ru.x S2.sub) fun w F' H' g' rw' => k F' H' g' w rw'
theorem dls_op {op : Operator} {t : R2} {f : D → D → Option (List D)} (ho : OpR X (binaryOp op) t) (hs : Op2L X.K f t) (ha : DEs X ec W e f1) (hb : DEs X ec W b f2) : DLs X ec W (.BinOp e op b pos) (wl2 f f1 f2) :=
  peImp (pe_op ho ha hb) fun _ _ _ h => by
    obtain ⟨r, F, F0, B, S, q⟩ := h
    refine ⟨r, F, F0, B, S, (ThnS.bind q).imp fun x r1 F1 H1 _ s1 S1 h1 v rv => ⟨r1, F1, F0, B, S1, (ThnS.bind h1).imp fun y r2 F2 H2 _ s2 S2 h2 u ru => ?_⟩⟩
    obtain ⟨d, ed, k⟩ := (h2.up S2).po
    exact hs x y d F2 H2 v u _ ed S2.sub ((rv.mono s2).x S2.sub) (ru.x S2.sub) fun p vs hp hv => k F2 H2 (Gr.refl S2.sub) p vs hp hv
theorem des_ix (ha : DEs X ec W e f1) (hb : DEs X ec W b f2) (hs : PlainIx b := by exact fun _ _ => rfl) : DEs X ec W (.Subscript e b pos) (DL.w2 dIx f1 f2) := peImp (pe_ix (ix_list.or ix_tup) ha hb hs) fun _ _ _ h => by
    obtain ⟨r, F, F0, B, S, q⟩ := h
    refine ⟨r, F, F0, B, S, (ThnS.bind q).imp fun x r1 F1 H1 _ s1 S1 h1 v rv => ⟨r1, F1, F0, B, S1, (ThnS.bind h1).imp fun y r2 F2 H2 _ s2 S2 h2 u ru => ?_⟩⟩
    obtain ⟨d, ed, k⟩ := (h2.up S2).po
    exact o_ix x y d F2 H2 v u _ ed S2.sub ((rv.mono s2).x S2.sub) (ru.x S2.sub) fun w F' H' g' rw' => k F' H' g' w rw'
theorem cmp_use {K : PySem.W.Frag} {t : R2} {f : D → D → Option Bool} (hs : Op2B K f t) {σ : L2.St} {F0 B F H : Hp} {r : Env} {P : Bool → Hp → Prop} (S : SR K F0 B r σ H F) (q : ThnS K ec W (wc2 f f1 f2 r) σ F0 B F fun b _ _ H' => P b H') :
    ThnS K ec W (f1 r) σ F0 B F fun x r1 F1 H1 => ∀ v, Rep K F1 x v → tDs K ec W f2 σ H1 fun u H2 => t v u H2 fun z H3 => ∃ c, z = .bl c ∧ P c H3 :=
  (ThnS.bind q).imp fun x r1 F1 H1 _ s1 S1 h1 v rv => ⟨r1, F1, F0, B, S1, (ThnS.bind h1).imp fun y r2 F2 H2 _ s2 S2 h2 u ru => by
    obtain ⟨d, ed, k⟩ := (h2.up S2).po
    exact hs x y d F2 H2 v u _ ed S2.sub ((rv.mono s2).x S2.sub) (ru.x S2.sub) ⟨d, rfl, k F2 H2 (Gr.refl S2.sub)⟩⟩
theorem dts_cmp {op : CmpOp} {t : R2} {f : D → D → Option Bool} (ho : OpR X (compareOp op) t) (hs : Op2B X.K f t) (ha : DEs X ec W e f1) (hb : DEs X ec W b f2) (hm : behindInMarks op b = false) : DTs X ec W (.Compare e [op] [b] pos) (wc2 f f1 f2) :=
  ptImp (pt_cmpR ho ha hb hm) fun _ _ _ ⟨r, F, F0, B, S, q⟩ => ⟨r, F, F0, B, S, cmp_use hs S q⟩
theorem dbs_cmp {op : CmpOp} {t : R2} {f : D → D → Option Bool} (ho : OpR X (compareOp op) t) (hs : Op2B X.K f t) (ha : DEs X ec W e f1) (hb : DEs X ec W b f2) (hm : behindInMarks op b = false) : DBs X ec W (.Compare e [op] [b] pos) (wc2 f f1 f2) :=
  peImp (pe_cmpR ho ha hb hm) fun σ H Q ⟨r, F, F0, B, S, q⟩ => by
    have q' : ThnS X.K ec W (wc2 f f1 f2 r) σ F0 B F fun b _ _ H' => Q (.bl b) H' := by
      have q0 : ThnS X.K ec W (sb (wc2 f f1 f2 r) fun b r1 => okS (PyData.bool b) r1) σ F0 B F fun d _ F' H' => ∀ v, Rep X.K F' d v → Q v H' := q
      exact (ThnS.bind q0).imp fun k r1 F1 H1 _ _ S1 h1 => ThnS.ok S1 h1 _ rfl
    refine ⟨r, F, F0, B, S, (ThnS.bind q').imp fun x r1 F1 H1 _ s1 S1 h1 v rv => ⟨r1, F1, F0, B, S1, (ThnS.bind h1).imp fun y r2 F2 H2 _ s2 S2 h2 u ru => ?_⟩⟩
    obtain ⟨d, ed, k⟩ := (h2.up S2).po
    exact hs x y d F2 H2 v u _ ed S2.sub ((rv.mono s2).x S2.sub) (ru.x S2.sub) (k F2 H2 (Gr.refl S2.sub))
/-! ### arguments, displays, built-ins, calls of other defs -/
theorem das_nil : DAs X ec W [] (wArgs []) := paImp pa_nil fun σ H Q ⟨r, F, F0, B, S, q⟩ => ThnS.ok S q [] rfl
theorem das_cons {as : List (ES D)} (ha : DEs X ec W e f1) (hr : DAs X ec W es (wArgs as)) (hs : starEach (e :: es) X.env = (false, eval e X.env) :: starEach es X.env := by rfl) : DAs X ec W (e :: es) (wArgs (f1 :: as)) :=
  paImp (pa_cons ha hr hs) fun σ H Q ⟨r, F, F0, B, S, q⟩ =>
    ⟨r, F, F0, B, S, (ThnS.bind q).imp fun x r1 F1 H1 _ g1 S1 h1 v rv => ⟨r1, F1, F0, B, S1, (ThnS.bind h1).imp fun xs r2 F2 H2 _ g2 S2 h2 vs rs =>
      ThnS.ok S2 h2 (v :: vs) ⟨v, vs, rfl, rv.mono g2, rs⟩⟩⟩
theorem wArgs_len {as : List (ES D)} {r r' : Env} {xs : List D} (h : wArgs as r = some (.ok xs, r')) : xs.length = as.length := by
  induction as generalizing xs r r' with
  | nil =>
    have h' : okS ([] : List D) r = some (.ok xs, r') := h
    unfold okS at h'
    have e : xs = [] := by simpa using (congrArg (fun z : Option (Except Err (List D) × Env) => z.map (·.1)) h').symm
    subst e; rfl
  | cons a as ih =>
    obtain ⟨x, r1, h1, h2⟩ := sb_eq_ok (f := fun x r1 => sb (wArgs as r1) fun xs r2 => okS (x :: xs) r2) h
    obtain ⟨ys, r2, h3, h4⟩ := sb_eq_ok h2
    unfold okS at h4
    have e : xs = x :: ys := by simpa using (congrArg (fun z : Option (Except Err (List D) × Env) => z.map (·.1)) h4).symm
    subst e
    rw [List.length_cons, List.length_cons, ih h3]
theorem des_tup {as : List (ES D)} {x1} (h : DAs X ec W es (wArgs as)) (hl : as.length ≤ sizeLine := by decide) : DEs X ec W (.Tuple es x1 pos) (wTup as) := peImp (pe_tup h) fun σ H Q ⟨r, F, F0, B, S, q⟩ =>
  ⟨r, F, F0, B, S, (ThnS.bind q).imp fun xs r1 F1 H1 ex g1 S1 h1 vs rs => ⟨by rw [rs.length, wArgs_len ex]; exact hl, fun p hp => by
    have g' := Gr.new S1.sub hp (.tup vs)
    exact h1 _ _ g'.f (S1.grow g') (.ref p) ⟨p, vs, rfl, upd_same, rs.mono g'.f⟩⟩⟩
theorem dls_lst {as : List (ES D)} (h : DAs X ec W es (wArgs as)) (hl : as.length ≤ sizeLine := by decide) : DLs X ec W (.List es pos) (wArgs as) := peImp (pe_lst h) fun σ H Q ⟨r, F, F0, B, S, q⟩ =>
  ⟨r, F, F0, B, S, q.imp fun xs r1 F1 H1 ex g1 S1 h1 vs rs => ⟨by rw [rs.length, wArgs_len ex]; exact hl, fun p hp => h1 p vs hp rs⟩⟩
def tA1s (K : PySem.W.Frag) (ec : EC) (W : WX) (a : ES D) : TA := fun σ H Q => ∃ r F F0 B, SR K F0 B r σ H F ∧ ThnS K ec W (a r) σ F0 B F fun d _ F' H' => ∀ v, Rep K F' d v → Q [v] H'
theorem pa1s (ha : DEs X ec W e f1) (hs : starEach [e] X.env = (false, eval e X.env) :: starEach [] X.env := by rfl) : PA X [e] (tA1s X.K ec W f1) := paImp (pa_cons ha pa_nil hs) fun σ H Q ⟨r, F, F0, B, S, q⟩ => ⟨r, F, F0, B, S, q⟩
def tA2s (K : PySem.W.Frag) (ec : EC) (W : WX) (a b : ES D) : TA := fun σ H Q => ∃ r F F0 B, SR K F0 B r σ H F ∧ ThnS K ec W (sb (a r) fun x r1 => sb (b r1) fun y r2 => okS (x, y) r2) σ F0 B F fun d _ F' H' => ∀ v u, Rep K F' d.1 v → Rep K F' d.2 u → Q [v, u] H'
theorem pa2s (ha : DEs X ec W e f1) (hb : DEs X ec W b f2) (hs : starEach [e, b] X.env = (false, eval e X.env) :: starEach [b] X.env := by rfl) (hs2 : starEach [b] X.env = (false, eval b X.env) :: starEach [] X.env := by rfl) : PA X [e, b] (tA2s X.K ec W f1 f2) :=
  paImp (pa_cons ha (pa_cons hb pa_nil hs2) hs) fun σ H Q ⟨r, F, F0, B, S, q⟩ =>
    ⟨r, F, F0, B, S, (ThnS.bind q).imp fun x r1 F1 H1 _ g1 S1 h1 v rv => ⟨r1, F1, F0, B, S1, (ThnS.bind h1).imp fun y r2 F2 H2 _ g2 S2 h2 u ru => ThnS.ok S2 (a := (x, y)) h2 v u (rv.mono g2) ru⟩⟩
section
variable {x : Str} {id T : String} {t : RV}
theorem s1_use {K : PySem.W.Frag} {f : D → Option D} (hs : B1 K f t) {σ : L2.St} {H : Hp} {Q : VK} (h : tDs K ec W (DL.w1 f f1) σ H Q) : tCB t (tA1s K ec W f1) σ H Q := by
  obtain ⟨r, F, F0, B, S, q⟩ := h
  refine ⟨r, F, F0, B, S, (ThnS.bind q).imp fun x r1 F1 H1 _ g1 S1 h1 v rv => ?_⟩
  obtain ⟨d, ed, k⟩ := (h1.up S1).po
  exact hs x d F1 H1 v Q ed S1.sub (rv.x S1.sub) fun w F' H' g' rw' => k F' H' g' w rw'
theorem s1L_use {K : PySem.W.Frag} {f : D → Option (List D)} (hs : B1L K f t) {σ : L2.St} {H : Hp} {Q : VK} (h : tLs K ec W (wl1 f f1) σ H Q) : tCB t (tA1s K ec W f1) σ H Q := by
  obtain ⟨r, F, F0, B, S, q⟩ := h
  refine ⟨r, F, F0, B, S, (ThnS.bind q).imp fun x r1 F1 H1 _ g1 S1 h1 v rv => ?_⟩
  obtain ⟨d, ed, k⟩ := (h1.up S1).po
  exact hs x d F1 H1 v Q ed S1.sub (rv.x S1.sub) fun p vs hp hv => k F1 H1 (Gr.refl S1.sub) p vs hp hv
theorem s2_use {K : PySem.W.Frag} {f : D → D → Option D} (hs : B2 K f t) {σ : L2.St} {H : Hp} {Q : VK} (h : tDs K ec W (DL.w2 f f1 f2) σ H Q) : tCB t (tA2s K ec W f1 f2) σ H Q := by
  obtain ⟨r, F, F0, B, S, q⟩ := h
  have q1 : ThnS K ec W (sb (sb (f1 r) fun x r1 => sb (f2 r1) fun y r2 => okS (x, y) r2) fun z r3 => up r3 (po (f z.1 z.2))) σ F0 B F fun d _ F' H' => ∀ v, Rep K F' d v → Q v H' := by
    have q0 : ThnS K ec W (sb (f1 r) fun x r1 => sb (f2 r1) fun y r2 => up r2 (po (f x y))) σ F0 B F fun d _ F' H' => ∀ v, Rep K F' d v → Q v H' := q
    revert q0
    match f1 r with
    | none => exact fun z => z
    | some (.error _, _) => exact fun z => z
    | some (.ok k, r1) =>
      show ThnS K ec W (sb (f2 r1) fun y r2 => up r2 (po (f k y))) σ F0 B F _ → ThnS K ec W (sb (sb (f2 r1) fun y r2 => okS (k, y) r2) fun z r3 => up r3 (po (f z.1 z.2))) σ F0 B F _
      match f2 r1 with
      | none => exact fun z => z
      | some (.error _, _) => exact fun z => z
      | some (.ok k, r2) => exact fun z => z
  refine ⟨r, F, F0, B, S, (ThnS.bind q1).imp fun z r1 F1 H1 _ g1 S1 h1 v u rv ru => ?_⟩
  obtain ⟨d, ed, k⟩ := (h1.up S1).po
  exact hs z.1 z.2 d F1 H1 v u Q ed S1.sub (rv.x S1.sub) (ru.x S1.sub) fun w F' H' g' rw' => k F' H' g' w rw'
theorem des_b1 {f : D → Option D} (hc : CallR X (.builtin id) t) (hs : B1 X.K f t) (hg : Gl X x) (hm : X.mg x = none) (ha : DEs X ec W e f1) (hv : bootBuiltins x = some (.builtin id)) (hn : x ≠ "__name__" := by decide) (hdb : (x == ("__debug__" : Str)) = false := by decide)
    (he : starEach [e] X.env = (false, eval e X.env) :: starEach [] X.env := by rfl) : DEs X ec W (.Call (.Name x p) [e] [] pos) (DL.w1 f f1) := peImp (pe_callB hc hg hm hv (pa1s ha he) hn hdb he (by rfl)) fun _ _ _ h => s1_use hs h
theorem dls_b1 {f : D → Option (List D)} (hc : CallR X (.builtin id) t) (hs : B1L X.K f t) (hg : Gl X x) (hm : X.mg x = none) (ha : DEs X ec W e f1) (hv : bootBuiltins x = some (.builtin id)) (hn : x ≠ "__name__" := by decide) (hdb : (x == ("__debug__" : Str)) = false := by decide)
    (he : starEach [e] X.env = (false, eval e X.env) :: starEach [] X.env := by rfl) : DLs X ec W (.Call (.Name x p) [e] [] pos) (wl1 f f1) := peImp (pe_callB hc hg hm hv (pa1s ha he) hn hdb he (by rfl)) fun _ _ _ h => s1L_use hs h
theorem des_t1 {f : D → Option D} (hc : CallR X (.type T) t) (hs : B1 X.K f t) (hg : Gl X x) (hm : X.mg x = none) (ha : DEs X ec W e f1) (hv : bootBuiltins x = some (.type T)) (hn : x ≠ "__name__" := by decide) (hdb : (x == ("__debug__" : Str)) = false := by decide)
    (he : starEach [e] X.env = (false, eval e X.env) :: starEach [] X.env := by rfl) : DEs X ec W (.Call (.Name x p) [e] [] pos) (DL.w1 f f1) := peImp (pe_callTy hc hg hm hv (pa1s ha he) hn hdb he (by rfl)) fun _ _ _ h => s1_use hs h
theorem dls_t1 {f : D → Option (List D)} (hc : CallR X (.type T) t) (hs : B1L X.K f t) (hg : Gl X x) (hm : X.mg x = none) (ha : DEs X ec W e f1) (hv : bootBuiltins x = some (.type T)) (hn : x ≠ "__name__" := by decide) (hdb : (x == ("__debug__" : Str)) = false := by decide)
    (he : starEach [e] X.env = (false, eval e X.env) :: starEach [] X.env := by rfl) : DLs X ec W (.Call (.Name x p) [e] [] pos) (wl1 f f1) := peImp (pe_callTy hc hg hm hv (pa1s ha he) hn hdb he (by rfl)) fun _ _ _ h => s1L_use hs h
theorem des_b2 {f : D → D → Option D} (hc : CallR X (.builtin id) t) (hs : B2 X.K f t) (hg : Gl X x) (hm : X.mg x = none) (ha : DEs X ec W e f1) (hb : DEs X ec W b f2) (hv : bootBuiltins x = some (.builtin id)) (hn : x ≠ "__name__" := by decide) (hdb : (x == ("__debug__" : Str)) = false := by decide)
    (he : starEach [e, b] X.env = (false, eval e X.env) :: starEach [b] X.env := by rfl) (he2 : starEach [b] X.env = (false, eval b X.env) :: starEach [] X.env := by rfl) (hpl : (backTo pos (starEach [b] X.env)).any (·.1) = false := by rfl) :
    DEs X ec W (.Call (.Name x p) [e, b] [] pos) (DL.w2 f f1 f2) := peImp (pe_callB hc hg hm hv (pa2s ha hb he he2) hn hdb he hpl) fun _ _ _ h => s2_use hs h
end
theorem des_call {j k n : Nat} {ps : List Str} {g : List D → R D} {x : Str} {as : List (ES D)} (G : DOk X.prog X.w X.K X.mg X.base ec x ps j n g) (hr : Room k X.A) (tk : Takes X W) (hjk : j ≤ k) (hg : Gl X x) (ha : DAs X ec W (e :: es) (wArgs as)) (hn : as.length = n := by rfl) (hdb : (x == ("__debug__" : Str)) = false := by decide)
    (he : starEach (e :: es) X.env = (false, eval e X.env) :: starEach es X.env := by rfl) (hpl : (backTo pos (starEach es X.env)).any (·.1) = false := by rfl) : DEs X ec W (.Call (.Name x p) (e :: es) [] pos) (wCall g as) := by
  obtain ⟨f, fd, h1, h2, h3, h4, _⟩ := G.ex
  refine peImp (pe_callS h4 (hr.mono hjk) hg h1 h2 h3 (fun σ => passAt tk σ) ha hdb he hpl) fun σ H Q ⟨r, F, F0, B, S, q⟩ =>
    ⟨r, F, F0, B, S, (ThnS.bind q).imp fun ds r1 F1 H1 ex g1 S1 k1 vs rs => ⟨ds, F1, by rw [wArgs_len ex]; exact hn, S1.sub, rs, ?_⟩⟩
  have k2 := k1.up S1
  revert k2
  match g ds with
  | none => exact fun z => z
  | some (.error _) => exact fun z => z
  | some (.ok k) => exact fun z => z
end
/-! ### the own lists of all names -/
def Feet (r : Env) (σ : L2.St) (H : Hp) (a : Addr) : Prop := ∃ (i : Nat) (s : Slot) (y : Option V), r[i]? = some s ∧ σ[i]? = some y ∧ Foot H s y a
open Classical in
noncomputable def bas (r : Env) (σ : L2.St) (H : Hp) : Hp := fun a => if Feet r σ H a then none else H a
section
variable {K : PySem.W.Frag} {F0 B : Hp} {r r' : Env} {σ σ' : L2.St} {H F H' F' : Hp} {a : Addr} {o : HO}
theorem bas_in (h : Feet r σ H a) : bas r σ H a = none := if_pos h
theorem bas_out (h : ¬ Feet r σ H a) : bas r σ H a = H a := if_neg h
theorem bas_some {u : HO} (h : bas r σ H a = some u) : ¬ Feet r σ H a ∧ H a = some u := by
  by_cases c : Feet r σ H a
  · rw [bas_in c] at h; cases h
  · rw [bas_out c] at h; exact ⟨c, h⟩
theorem SR.feet (S : SR K F0 B r σ H F) (f : Feet r σ H a) : ∃ u, H a = some u ∧ F a = none ∧ B a = none ∧ ∀ vs, u ≠ .tup vs := by
  obtain ⟨i, s, y, h1, h2, h3⟩ := f
  exact foot_ok (S.slot h1 h2) h3
theorem SR.rebase (S : SR K F0 B r σ H F) : SR K F (bas r σ H) r σ H F := by
  refine ⟨⟨Same.refl _, fun b x q => (bas_some q).2, S.sub, fun b _ q _ => q⟩, S.len, fun i s e => ?_, S.sep, S.tag⟩
  obtain ⟨y, h1, h2⟩ := S.ok i s e
  refine ⟨y, h1, ?_⟩
  have ff : ∀ b, Foot H s y b → bas r σ H b = none := fun b f => bas_in ⟨i, s, y, e, h1, f⟩
  cases s with
  | un => exact trivial
  | d x => exact h2
  | tg x => exact h2
  | ex c g => exact h2
  | own xs =>
    obtain ⟨b, vs, q, k1, k2, _, k4⟩ := h2
    exact ⟨b, vs, q, k1, k2, ff b q, k4⟩
  | dct xs =>
    obtain ⟨b, vs, q, k1, k2, _, k4⟩ := h2
    exact ⟨b, vs, q, k1, k2, ff b q, k4⟩
  | io b xs =>
    obtain ⟨vs, q, k1, k2, _, k4⟩ := h2
    exact ⟨vs, q, k1, k2, ff b q, k4⟩
  | nest xss =>
    obtain ⟨b, vs, q, k1, k2, _, k4, k5⟩ := h2
    refine ⟨b, vs, q, k1, k2, ff b ⟨b, vs, q, k1, .inl rfl⟩, k4, ?_⟩
    have fn : ∀ c, V.ref c ∈ vs → bas r σ H c = none := fun c m => ff c ⟨b, vs, q, k1, .inr m⟩
    clear ff h1 q k1 k4 e
    induction xss generalizing vs with
    | nil => exact k5
    | cons xs xss ih =>
      obtain ⟨c, us, w, e1, e2, e3, _, e5, e6, e7⟩ := k5
      exact ⟨c, us, w, e1, e2, e3, fn c (by rw [e1]; exact List.mem_cons_self), e5, e6, ih w e7 fun d m => fn d (by rw [e1]; exact List.mem_cons_of_mem _ m)⟩
/-- a slot's own lists seen from another entry -/
theorem SlotOk.base {B' : Hp} : ∀ {s : Slot} {y : Option V}, (∀ a, Foot H s y a → B' a = none) → SlotOk K B H F s y → SlotOk K B' H F s y
  | .un, _, _, _ => trivial
  | .d _, _, _, h => h
  | .tg _, _, _, h => h
  | .ex _ _, _, _, h => h
  | .own xs, _, k, ⟨a, vs, q, h1, h2, _, h4⟩ => ⟨a, vs, q, h1, h2, k a q, h4⟩
  | .dct xs, _, k, ⟨a, vs, q, h1, h2, _, h4⟩ => ⟨a, vs, q, h1, h2, k a q, h4⟩
  | .io a xs, _, k, ⟨vs, q, h1, h2, _, h4⟩ => ⟨vs, q, h1, h2, k a q, h4⟩
  | .nest xss, _, k, ⟨a, vs, q, h1, h2, _, h4, h5⟩ => by
    refine ⟨a, vs, q, h1, h2, k a ⟨a, vs, q, h1, .inl rfl⟩, h4, ?_⟩
    have fn : ∀ c, V.ref c ∈ vs → B' c = none := fun c m => k c ⟨a, vs, q, h1, .inr m⟩
    clear k q h1 h4
    induction xss generalizing vs with
    | nil => exact h5
    | cons xs xss ih =>
      obtain ⟨c, us, w, e1, e2, e3, _, e5, e6, e7⟩ := h5
      exact ⟨c, us, w, e1, e2, e3, fn c (by rw [e1]; exact List.mem_cons_self), e5, e6, ih w e7 fun d m => fn d (by rw [e1]; exact List.mem_cons_of_mem _ m)⟩
theorem SR.unbase {σ2 : L2.St} (S : SR K F0 B r σ H F) (S' : SR K F (bas r σ H) r' σ2 H' F') : SR K F0 B r' σ2 H' F' := by
  have hB : ∀ b, bas r σ H b = none → B b = none := fun b q => by
    by_cases c : Feet r σ H b
    · obtain ⟨_, _, _, h, _⟩ := S.feet c
      exact h
    · rw [bas_out c] at q
      exact S.gr.h.free q
  refine ⟨⟨S.gr.f.trans S'.gr.f, fun b x q => ?_, S'.sub, fun b hb q t => ?_⟩, S'.len, fun i s e => ?_, S'.sep, S'.tag⟩
  · have nf : ¬ Feet r σ H b := fun c => by
      obtain ⟨_, _, _, h, _⟩ := S.feet c
      rw [h] at q; cases q
    exact S'.gr.h b x (by rw [bas_out nf]; exact S.gr.h b x q)
  · have nf : ¬ Feet r σ H b := fun c => by
      obtain ⟨_, _, _, h, _⟩ := S.feet c
      exact hb h
    refine S'.gr.n b ?_ (S.gr.n b hb q t) fun vs e => ?_
    · rw [bas_out nf]
      cases e : B b with
      | none => exact absurd e hb
      | some u => rw [S.gr.h b u e]; exact fun z => nomatch z
    · rw [bas_out nf] at e
      cases e2 : B b with
      | none => exact hb e2
      | some u =>
        rw [S.gr.h b u e2] at e
        cases e
        exact t vs e2
  · obtain ⟨y, h1, h2⟩ := S'.ok i s e
    exact ⟨y, h1, h2.base fun b f => by
      obtain ⟨_, _, _, h, _⟩ := foot_ok h2 f
      exact hB b h⟩
/-- what no slot owns may be changed -/
theorem SR.other (S : SR K F0 B r σ H F) (nf : ¬ Feet r σ H a) (fa : F a = none) (ba : B a = none) (hH : ∀ b, b ≠ a → H' b = H b) : SR K F0 B r σ H' F := by
  have fr : ∀ {i : Nat} {s : Slot} {y : Option V}, r[i]? = some s → σ[i]? = some y → ∀ b, Foot H s y b → H' b = H b := fun e1 e2 b f => hH b fun z => nf (by rw [← z]; exact ⟨_, _, _, e1, e2, f⟩)
  refine ⟨⟨S.gr.f, fun b x q => ?_, fun b x q => ?_, S.gr.n⟩, S.len, fun i s e => ?_, fun i j s t y z b hij e1 e2 e3 e4 f1 f2 => ?_, S.tag⟩
  · rw [hH b (ne_of_none q ba)]; exact S.gr.h b x q
  · rw [hH b (ne_of_none q fa)]; exact S.sub b x q
  · obtain ⟨y, h1, h2⟩ := S.ok i s e
    exact ⟨y, h1, h2.frame (Same.refl _) fun b f => ⟨fr e h1 b f, by obtain ⟨_, _, k, _⟩ := foot_ok h2 f; exact k⟩⟩
  · exact S.sep i j s t y z b hij e1 e2 e3 e4 (f1.back (S.slot e1 e3) (fr e1 e3)) (f2.back (S.slot e2 e4) (fr e2 e4))
theorem SR.feet_other (S : SR K F0 B r σ H F) (nf : ¬ Feet r σ H a) (hH : ∀ b, b ≠ a → H' b = H b) {c : Addr} (f : Feet r σ H' c) : Feet r σ H c := by
  obtain ⟨i, s, y, e1, e2, f⟩ := f
  exact ⟨i, s, y, e1, e2, f.back (S.slot e1 e2) fun b g => hH b fun z => nf (by rw [← z]; exact ⟨i, s, y, e1, e2, g⟩)⟩
theorem SR.feet_grow (S : SR K F0 B r σ H F) (g : Gr F H F' H') {c : Addr} (f : Feet r σ H' c) : Feet r σ H c := by
  obtain ⟨i, s, y, e1, e2, f⟩ := f
  exact ⟨i, s, y, e1, e2, f.back (S.slot e1 e2) fun b k => (g.foot (S.slot e1 e2) b k).1⟩
end
end DL
/-! Comprehensions whose items change own lists; calls of defs that change lists. -/
namespace DL
open PySem PySem.Spec PyProof.Rows L2

/-! ### what is walked -/
def tIs (K : PySem.W.Frag) (ec : EC) (W : WX) (a : ES (List D)) : TI := fun σ H R => ∃ r F F0 B, SR K F0 B r σ H F ∧ ThnS K ec W (a r) σ F0 B F fun xs _ F' H' => ∀ J, IterOk K F' F' J xs → R J H'
abbrev DIs (X : Cx) (ec : EC) (W : WX) (tg e : Expr) (a : ES (List D)) : Prop := PI X tg e (tIs X.K ec W a)
section
variable {X : Cx} {ec : EC} {W : WX} {tg e b : Expr} {pos p : Pos} {f1 f2 : ES D} {ι : EL}
theorem dis_up (h : DI X ec W tg e ι) : DIs X ec W tg e (uX ι) := piImp h fun σ H Q ⟨r, F, F0, B, S, q⟩ => ⟨r, F, F0, B, S, q.up S⟩
theorem dis_seq (h : DEs X ec W e f1) : DIs X ec W tg e (wl1 seqOf f1) := piImp (pi_seq h) fun σ H R ⟨r, F, F0, B, S, q⟩ => by
  refine ⟨r, F, F0, B, S, (ThnS.bind q).imp fun x r1 F1 H1 _ g1 S1 h1 v rv => ?_⟩
  obtain ⟨xs, ex, k⟩ := (h1.up S1).po
  have k' := k F1 H1 (Gr.refl S1.sub)
  cases x with
  | list ys =>
    cases ex
    obtain ⟨a, vs, rfl, h2, h3⟩ := rv
    exact .inl ⟨a, vs, rfl, S1.sub.seq h2, k' _ (iter_list h2 h3)⟩
  | tuple ys =>
    cases ex
    obtain ⟨a, vs, rfl, h2, h3⟩ := rv
    exact .inr ⟨a, vs, rfl, tupT S1.sub h2, k' _ (iter_tup (.inl (.inl h2)) h3)⟩
  | _ => cases ex
theorem dis_range1 (hg : Gl X "range") (hm : X.mg "range" = none) (ha : DEs X ec W e f1) (hs : starEach [e] X.env = [(false, eval e X.env)] := by rfl) : DIs X ec W tg (.Call (.Name "range" p) [e] [] pos) (wl1 rng1 f1) :=
  piImp (pi_range1 hg hm (pa1s ha hs) hs) fun σ H R ⟨r, F, F0, B, S, q⟩ => by
    refine ⟨r, F, F0, B, S, (ThnS.bind q).imp fun x r1 F1 H1 ex1 g1 S1 h1 v rv => ?_⟩
    obtain ⟨xs, ex, k⟩ := (h1.up S1).po
    unfold rng1 at ex
    split at ex
    · rename_i j
      split at ex
      · rename_i hj
        cases ex
        unfold small62 at hj
        simp only [Bool.and_eq_true, decide_eq_true_eq] at hj
        exact ⟨j, by rw [show v = _ from rv], hj.1, hj.2, k F1 H1 (Gr.refl S1.sub) _ iter_rng⟩
      · cases ex
    · cases ex
theorem dis_range2 (hg : Gl X "range") (hm : X.mg "range" = none) (ha : DEs X ec W e f1) (hb : DEs X ec W b f2) (hs : starEach [e, b] X.env = [(false, eval e X.env), (false, eval b X.env)] := by rfl) (hs2 : starEach [b] X.env = [(false, eval b X.env)] := by rfl) :
    DIs X ec W tg (.Call (.Name "range" p) [e, b] [] pos) (wl2 rng2 f1 f2) :=
  piImp (pi_range2 hg hm (pa2s ha hb (by rw [hs, hs2]) hs2) hs hs2) fun σ H R ⟨r, F, F0, B, S, q⟩ => by
    have q1 : ThnS X.K ec W (sb (sb (f1 r) fun x r1 => sb (f2 r1) fun y r2 => okS (x, y) r2) fun z r3 => up r3 (po (rng2 z.1 z.2))) σ F0 B F fun xs _ F' H' => ∀ J, IterOk X.K F' F' J xs → R J H' := by
      have q0 : ThnS X.K ec W (sb (f1 r) fun x r1 => sb (f2 r1) fun y r2 => up r2 (po (rng2 x y))) σ F0 B F fun xs _ F' H' => ∀ J, IterOk X.K F' F' J xs → R J H' := q
      revert q0
      match f1 r with
      | none => exact fun z => z
      | some (.error _, _) => exact fun z => z
      | some (.ok k, r1) =>
        show ThnS X.K ec W (sb (f2 r1) fun y r2 => up r2 (po (rng2 k y))) σ F0 B F _ → ThnS X.K ec W (sb (sb (f2 r1) fun y r2 => okS (k, y) r2) fun z r3 => up r3 (po (rng2 z.1 z.2))) σ F0 B F _
        match f2 r1 with
        | none => exact fun z => z
        | some (.error _, _) => exact fun z => z
        | some (.ok k, r2) => exact fun z => z
    refine ⟨r, F, F0, B, S, (ThnS.bind q1).imp fun z r1 F1 H1 ez g1 S1 h1 v u rv ru => ?_⟩
    obtain ⟨x, y⟩ := z
    obtain ⟨xs, ex, k⟩ := (h1.up S1).po
    unfold rng2 at ex
    split at ex
    · rename_i i j ei ej
      split at ex
      · rename_i hj
        cases ex
        have ei' : x = .int i := ei
        have ej' : y = .int j := ej
        subst ei' ej'
        unfold small62 at hj
        simp only [Bool.and_eq_true, decide_eq_true_eq] at hj
        exact ⟨i, j, by rw [show v = _ from rv, show u = _ from ru], ⟨hj.1.1, hj.1.2, hj.2.1, hj.2.2⟩, k F1 H1 (Gr.refl S1.sub) _ iter_rng⟩
      · cases ex
    · cases ex
end
/-! ### comprehensions -/
theorem noErS_ok {α : Type} {x : RS α} {a : α} {r : Env} (h : noErS x = some (.ok a, r)) : x = some (.ok a, r) := by
  unfold noErS at h
  split at h
  · exact h
  · cases h
theorem unSlots_get : ∀ (vs : List Nat) (r : Env) (j : Nat), (unSlots vs r)[j]? = if j ∈ vs then (if j < r.length then some .un else none) else r[j]?
  | [], r, j => by simp [unSlots]
  | v :: vs, r, j => by
    have ih := unSlots_get vs r j
    have hl : ∀ vs : List Nat, (unSlots vs r).length = r.length := fun vs => by
      induction vs with
      | nil => rfl
      | cons v vs ih => show ((unSlots vs r).set v .un).length = _; rw [List.length_set, ih]
    show ((unSlots vs r).set v .un)[j]? = _
    by_cases c : j = v
    · subst c
      rw [if_pos List.mem_cons_self]
      by_cases hj : j < r.length
      · rw [if_pos hj, List.getElem?_set_self (by rw [hl]; exact hj)]
      · rw [if_neg hj]
        exact List.getElem?_eq_none (by rw [List.length_set, hl]; omega)
    · rw [List.getElem?_set_ne (Ne.symm c), ih]
      by_cases hm : j ∈ vs
      · rw [if_pos hm, if_pos (List.mem_cons_of_mem _ hm)]
      · rw [if_neg hm, if_neg (fun z => (List.mem_cons.mp z).elim c hm)]
section
variable {K : PySem.W.Frag} {F0 B : Hp} {r : Env} {σ : L2.St} {H F : Hp}
/-- names that are forgotten may have any value -/
theorem SR.unwipe {vs : List Nat} (S : SR K F0 B r (L2.wipe σ vs) H F) (hu : ∀ i ∈ vs, ∀ s, r[i]? = some s → s = .un) : SR K F0 B r σ H F := by
  have nin : ∀ {i : Nat} {s : Slot} {y : Option V} {a : Addr}, r[i]? = some s → Foot H s y a → i ∉ vs := fun e f m => by
    rw [hu _ m _ e] at f; exact f
  have same : ∀ {i : Nat}, i ∉ vs → (L2.wipe σ vs)[i]? = σ[i]? := fun h => by rw [wipe_get, if_neg h]
  refine ⟨S.gr, by rw [S.len, wipe_length], fun i s e => ?_, fun i j s t y z a hij e1 e2 e3 e4 f1 f2 => ?_, ?_⟩
  · by_cases m : i ∈ vs
    · have hs := hu i m s e
      subst hs
      have hl := get_lt e
      rw [S.len, wipe_length] at hl
      exact ⟨σ[i], List.getElem?_eq_getElem hl, trivial⟩
    · obtain ⟨y, h1, h2⟩ := S.ok i s e
      rw [same m] at h1
      exact ⟨y, h1, h2⟩
  · exact S.sep i j s t y z a hij e1 e2 (by rw [same (nin e1 f1)]; exact e3) (by rw [same (nin e2 f2)]; exact e4) f1 f2
  · obtain ⟨us, h1, h2⟩ := S.tag
    refine ⟨us, h1, fun i xs e => ?_⟩
    have m : i ∉ vs := fun m => by cases hu i m _ e
    obtain ⟨a, h3, h4⟩ := h2 i xs e
    rw [same m] at h3
    exact ⟨a, h3, h4⟩
end
theorem unSlots_idem (vs : List Nat) (r : Env) : unSlots vs (unSlots vs r) = unSlots vs r := by
  apply List.ext_getElem?
  intro j
  have hl : (unSlots vs r).length = r.length := by
    induction vs with
    | nil => rfl
    | cons v vs ih => show ((unSlots vs r).set v .un).length = _; rw [List.length_set, ih]
  rw [unSlots_get vs (unSlots vs r), hl, unSlots_get vs r]
  by_cases c : j ∈ vs
  · rw [if_pos c, if_pos c]
  · rw [if_neg c, if_neg c]
theorem lcs_use {K : PySem.W.Frag} {ec : EC} {W : WX} {ι : ES (List D)} {g : Tg} {β : EB} {φ : ES D} {vs : List Nat} (hvs : vs = g.slots) {σ : L2.St} {H : Hp} {Q : VK} (h : tLs K ec W (wComp ι g β φ) σ H Q) :
    tLc (tIs K ec W ι) (tgT K g) (tT K ec W0 β) (tDs K ec W0 φ) vs σ H Q := by
  subst hvs
  obtain ⟨r, F, F0, B, S, q⟩ := h
  refine ⟨r, F, F0, B, S, (ThnS.bind q).imp fun xs r0 F1 H1 _ sf1 S1 h1 J hJ D hD => ?_⟩
  by_cases hlim : xs.length ≤ lim
  · rw [if_pos hlim] at h1
    match ec1 : noErS (compLS g β φ xs (unSlots g.slots r0)) with
    | none => rw [ec1] at h1; exact False.elim h1
    | some (.error _, _) =>
      exfalso
      unfold noErS at ec1
      split at ec1
      · cases ec1
      · cases ec1
    | some (.ok ys, rE) =>
      rw [ec1] at h1
      have hc : compLS g β φ xs (unSlots g.slots r0) = some (.ok ys, rE) := noErS_ok ec1
      have Sw := SR.wipe g.slots S1
      obtain ⟨G, Y, w, hG, hY⟩ := hJ
      have goD := Gr.own S1.sub hD (.lst [])
      have hBD : B D = none := S1.gr.h.free hD
      have nf0 : ¬ Feet (unSlots g.slots r0) (L2.wipe σ g.slots) (upd H1 D (.lst [])) D := fun f => by
        obtain ⟨_, k, _⟩ := Sw.feet (Sw.feet_grow goD f)
        rw [hD] at k; cases k
      refine lc_it w (fun i Hc => ∃ done rest us F2 rc, i ≤ xs.length ∧ compLS g β φ (xs.drop i) rc = some (.ok rest, rE) ∧ done ++ rest = ys ∧ done.length ≤ i ∧ Hc D = some (.lst us) ∧ F2 D = none ∧ RepL K F2 done us ∧ Same F1 F2 ∧ SR K F0 B rc (L2.wipe σ g.slots) Hc F2 ∧ ¬ Feet rc (L2.wipe σ g.slots) Hc D ∧ unSlots g.slots rc = rc)
        ⟨[], ys, [], F1, unSlots g.slots r0, Nat.zero_le _, hc, rfl, Nat.le_refl _, upd_same, S1.sub.free hD, rfl, Same.refl _, Sw.grow goD, nf0, unSlots_idem _ _⟩ ?_ ?_ ?_
      · rintro i Hc hi ⟨done, rest, us, F2, rc, _, _, _, _, _, _, _, sf, S2, _⟩
        exact hG _ (sf.trans S2.sub)
      · rintro i x Hc H' hi ⟨done, rest, us, F2, rc, _, er, ed, hl, hcD, fD, hu, sf, S2, nf, _⟩ y
        obtain ⟨d, hd⟩ : ∃ d, xs[i]? = some d := ⟨xs[i], List.getElem?_eq_getElem hi⟩
        have hdrop : xs.drop i = d :: xs.drop (i + 1) := by
          rw [List.drop_eq_getElem_cons hi]
          congr 1
          have := List.getElem?_eq_getElem hi
          rw [hd] at this
          exact (Option.some.inj this).symm
        obtain ⟨F3, g3, r3⟩ := hY i d _ x H' F2 hd (sf.trans S2.sub) sf S2.sub y
        have S2b := S2.rebase
        have bD : bas rc (L2.wipe σ g.slots) Hc D = some (.lst us) := by rw [bas_out nf]; exact hcD
        have S3 := S2b.grow g3
        rw [hdrop] at er
        unfold compLS at er
        split at er
        · cases er
        · rename_i r1 hput
          have er' : (sb (up r1 (β r1)) fun k r1 => if k = true then sb (φ r1) fun y r2 => sb (compLS g β φ (xs.drop (i + 1)) (unSlots g.slots r2)) fun ys r3 => okS (y :: ys) r3 else compLS g β φ (xs.drop (i + 1)) (unSlots g.slots r1)) = some (.ok rest, rE) := er
          obtain ⟨k, r1', ek, er1⟩ := sb_eq_ok er'
          have ek2 : r1' = r1 ∧ β r1 = ok k := by
            unfold up at ek
            split at ek
            · cases ek
            · cases ek
            · rename_i a' e'
              cases ek
              exact ⟨rfl, e'⟩
          obtain ⟨e2, ek3⟩ := ek2
          subst e2
          refine put_ok S3 r3 hput fun σ2 S4 hw => ⟨by rw [hw, wipe_wipe], ⟨r1', F3, F2, bas rc (L2.wipe σ g.slots) Hc, S4, Thn.ok0 ek3 fun F4 H4 g4 => ?_⟩⟩
          have S5 := S4.grow g4
          -- behind the turn
          have fin : ∀ (r2 : Env) (F5 H5 : Hp) (done' : List DL.D) (rest' : List DL.D) (us' : List V), Same F4 F5 → SR K F2 (bas rc (L2.wipe σ g.slots) Hc) r2 σ2 H5 F5 → compLS g β φ (xs.drop (i + 1)) (unSlots g.slots r2) = some (.ok rest', rE) → done' ++ rest' = ys → done'.length ≤ i + 1 → RepL K F5 done' us' → ∀ Hn : Hp, (∀ b, b ≠ D → Hn b = H5 b) → Hn D = some (.lst us') →
              ∃ done rest us F2 rc, i + 1 ≤ xs.length ∧ compLS g β φ (xs.drop (i + 1)) rc = some (.ok rest, rE) ∧ done ++ rest = ys ∧ done.length ≤ i + 1 ∧ Hn D = some (.lst us) ∧ F2 D = none ∧ RepL K F2 done us ∧ Same F1 F2 ∧ SR K F0 B rc (L2.wipe σ g.slots) Hn F2 ∧ ¬ Feet rc (L2.wipe σ g.slots) Hn D ∧ unSlots g.slots rc = rc := by
            intro r2 F5 H5 done' rest' us' sf5 S6 e1 e3 e4 e5 Hn hn1 hn2
            have S7 := SR.wipe g.slots S6
            have hw2 : L2.wipe σ2 g.slots = L2.wipe σ g.slots := by rw [hw, wipe_wipe]
            rw [hw2] at S7
            have S8 := S2.unbase S7
            have f5D : F5 D = none := S7.gr.n D (by rw [bD]; exact fun z => nomatch z) fD fun vs e => by rw [bD] at e; cases e
            have nf5 : ¬ Feet (unSlots g.slots r2) (L2.wipe σ g.slots) H5 D := fun f => by
              obtain ⟨_, _, _, k, _⟩ := S7.feet f
              rw [bD] at k; cases k
            exact ⟨done', rest', us', F5, unSlots g.slots r2, hi, e1, e3, e4, hn2, f5D, e5, ((sf.trans g3.f).trans g4.f).trans sf5, S8.other nf5 f5D hBD hn1, fun f => nf5 (S8.feet_other nf5 hn1 f), unSlots_idem _ _⟩
          cases k with
          | true =>
            rw [if_pos rfl] at er1
            obtain ⟨z, r2, ez, er2⟩ := sb_eq_ok er1
            obtain ⟨rest', r4, er3, er4⟩ := sb_eq_ok er2
            have e5 : rest = z :: rest' ∧ r4 = rE := by
              unfold okS at er4
              cases er4
              exact ⟨rfl, rfl⟩
            obtain ⟨e5, e6⟩ := e5
            subst e6
            refine iteT ⟨r1', F4, F2, _, S5, ?_⟩
            rw [ez]
            intro F5 H5 sf5 S6 v rv
            have h5D : H5 D = some (.lst us) := S6.gr.h _ _ bD
            refine ⟨us, h5D, ?_, ?_⟩
            · rw [hu.length]
              exact Nat.lt_of_lt_of_le (Nat.lt_of_le_of_lt hl hi) (lim_line hlim)
            · exact fin r2 F5 H5 (done ++ [z]) rest' (us ++ [v]) sf5 S6 er3 (by rw [← ed, e5]; simp) (by rw [List.length_append]; simpa using hl) ((hu.mono ((g3.f.trans g4.f).trans sf5)).append ⟨v, [], rfl, rv, rfl⟩) _ (fun b c => upd_ne c) upd_same
          | false =>
            rw [if_neg (by simp)] at er1
            have h4D : H4 D = some (.lst us) := S5.gr.h _ _ bD
            exact iteF (fin r1' F4 H4 done rest us (Same.refl _) S5 er1 ed (Nat.le_succ_of_le hl) (hu.mono (g3.f.trans g4.f)) H4 (fun _ _ => rfl) h4D)
      · rintro Hc ⟨done, rest, us, F2, rc, _, er, ed, hl, hcD, fD, hu, sf, S2, nf, hrc⟩
        rw [List.drop_length] at er
        have e5 : rest = [] ∧ rc = rE := by
          have e6 : okS ([] : List DL.D) rc = some (.ok rest, rE) := er
          unfold okS at e6
          cases e6
          exact ⟨rfl, rfl⟩
        obtain ⟨e5, e6⟩ := e5
        subst e6
        rw [e5, List.append_nil] at ed
        subst ed
        have S9 : SR K F0 B rc (L2.wipe σ g.slots) (DL.del Hc D) F2 := S2.other nf fD hBD fun b c => del_ne c
        have S10 := S9.unwipe fun i hi s e => by
          rw [← hrc, unSlots_get, if_pos hi] at e
          split at e
          · exact (Option.some.inj e).symm
          · cases e
        have z := h1 F2 (DL.del Hc D) sf S10 D us del_self hu
        rw [upd_del hcD] at z
        exact z
  · rw [if_neg hlim] at h1
    exact False.elim h1
section
variable {X : Cx} {ec : EC} {W : WX} {elt tg iter : Expr} {ifs : List Expr} {scope : Scope} {own : List (Str × Nat)} {pos : Pos} {ι : ES (List D)} {g : Tg} {β : EB} {φ : ES D}
theorem dls_comp (hc : X.calm = true) (hN : X.N.Nodup) (hi : DIs X ec W tg iter ι) (ok : BlkOk X.N X.env.scope scope own) (hv : own.map (·.2) = g.slots)
    (hg : ∀ (s : Shared) (H : Hp) (C : Addr) (cl : List (Str × Addr)) (fp : List Addr), PG (X.blk s H scope (compEnvC scope cl C X.env) fp) tg (tgT X.K g)) (ht : ∀ (s : Shared) (H : Hp) (C : Addr) (cl : List (Str × Addr)) (fp : List Addr), PTs (X.blk s H scope (compEnvC scope cl C X.env) fp) ifs (tT X.K ec W0 β))
    (he : ∀ (s : Shared) (H : Hp) (C : Addr) (cl : List (Str × Addr)) (fp : List Addr), DEs (X.blk s H scope (compEnvC scope cl C X.env) fp) ec W0 elt φ) (hs : ∀ x, foldedSetIterable iter X.env x = pure x := by intro _; rfl) :
    DLs X ec W (.ListComp elt [⟨tg, iter, ifs, 0⟩] scope pos) (wComp ι g β φ) := peImp (pe_lc hc hN hi ok hg ht he hs) fun _ _ _ h => lcs_use hv h
end
/-! ### calls of defs that change lists -/
section
variable {K : PySem.W.Frag} {F0 B : Hp} {r r2 : Env} {σ : L2.St} {H F H' F' : Hp}
theorem SR.io_at (S : SR K F0 B r σ H F) {i : Nat} {xs : List D} (h : ioXs r i = some xs) : ∃ (s : Slot) (a : Addr) (vs : List V), r[i]? = some s ∧ σ[i]? = some (some (.ref a)) ∧ H a = some (.lst vs) ∧ F a = none ∧ B a = none ∧ RepL K F xs vs ∧ (s = .own xs ∨ s = .io a xs) := by
  unfold ioXs at h
  split at h
  · rename_i ys e
    cases h
    obtain ⟨y, h1, a, vs, rfl, h2, h3, h4, h5⟩ := S.ok i _ e
    exact ⟨_, a, vs, e, h1, h2, h3, h4, h5, .inl rfl⟩
  · rename_i b ys e
    cases h
    obtain ⟨y, h1, vs, rfl, h2, h3, h4, h5⟩ := S.ok i _ e
    exact ⟨_, b, vs, e, h1, h2, h3, h4, h5, .inr rfl⟩
  · cases h
theorem foot_own {s : Slot} {xs : List D} {a b : Addr} {y : Option V} (h : s = .own xs ∨ s = .io a xs) : Foot H s y b ↔ y = some (.ref b) := by
  rcases h with rfl | rfl <;> exact Iff.rfl
/-- the address of a list that is passed -/
def adr (σ : L2.St) (i : Nat) : Addr := match σ[i]? with
  | some (some (.ref a)) => a
  | _ => 0
theorem adr_of {i : Nat} {a : Addr} (h : σ[i]? = some (some (.ref a))) : adr σ i = a := by unfold adr; rw [h]
def ioIx : List AV → List Nat
  | [] => []
  | .io i :: bs => i :: ioIx bs
  | .d _ :: bs => ioIx bs
def RepI (K : PySem.W.Frag) (σ : L2.St) (F : Hp) : List AV → List V → Prop
  | [], vs => vs = []
  | .io i :: bs, vs => ∃ a w, vs = .ref a :: w ∧ σ[i]? = some (some (.ref a)) ∧ RepI K σ F bs w
  | .d x :: bs, vs => ∃ v w, vs = v :: w ∧ Rep K F x v ∧ RepI K σ F bs w
theorem RepI.mono (e : Same F F') : ∀ {bs : List AV} {vs : List V}, RepI K σ F bs vs → RepI K σ F' bs vs
  | [], _, h => h
  | .io _ :: _, _, ⟨a, w, q, h1, h2⟩ => ⟨a, w, q, h1, RepI.mono e h2⟩
  | .d _ :: _, _, ⟨v, w, q, h1, h2⟩ => ⟨v, w, q, h1.mono e, RepI.mono e h2⟩
/-- the heap without the lists that are passed -/
def wo (H : Hp) (as : List Addr) : Hp := fun b => if b ∈ as then none else H b
theorem wo_in {as : List Addr} {b : Addr} (h : b ∈ as) : wo H as b = none := if_pos h
theorem wo_out {as : List Addr} {b : Addr} (h : b ∉ as) : wo H as b = H b := if_neg h
theorem wo_same {as : List Addr} : Same (wo H as) H := fun b x q => by
  by_cases c : b ∈ as
  · rw [wo_in c] at q; cases q
  · rw [wo_out c] at q; exact q
def ads (σ : L2.St) (bs : List AV) : List Addr := (ioIx bs).map (adr σ)
def IoEnd (K : PySem.W.Frag) (F H : Hp) : List Slot → List (List D) → Prop
  | [], _ => True
  | .io a _ :: ss, ls => ∃ l ls', ls = l :: ls' ∧ (∃ us, H a = some (.lst us) ∧ F a = none ∧ RepL K F l us) ∧ IoEnd K F H ss ls'
  | .d _ :: ss, ls => IoEnd K F H ss ls
  | _ :: _, _ => False
theorem mkS_len : ∀ {bs : List AV} {ad : Nat → Addr} {ss : List Slot}, mkS r ad bs = some ss → ss.length = bs.length
  | [], _, ss, h => by cases h; rfl
  | .d x :: bs, ad, ss, h => by
    have h' : (mkS r ad bs).map (.d x :: ·) = some ss := h
    cases e : mkS r ad bs with
    | none => rw [e] at h'; cases h'
    | some tt =>
      rw [e] at h'
      cases h'
      rw [List.length_cons, List.length_cons, mkS_len e]
  | .io i :: bs, ad, ss, h => by
    unfold mkS at h
    split at h
    · cases e : mkS r ad bs with
      | none => rw [e] at h; cases h
      | some tt =>
        rw [e] at h
        cases h
        rw [List.length_cons, List.length_cons, mkS_len e]
    · cases h
/-- the callee's names -/
theorem mkS_ok (S : SR K F0 B r σ H F) {A : List Addr} : ∀ {bs : List AV} {vs : List V} {ss : List Slot}, (∀ i ∈ ioIx bs, adr σ i ∈ A) → RepI K σ F bs vs → mkS r (adr σ) bs = some ss → ∀ (k : Nat) (s : Slot), ss[k]? = some s →
    ∃ v, vs[k]? = some v ∧ SlotOk K (wo H A) H F s (some v) ∧ ((∃ x, s = .d x) ∨ ∃ i a xs, bs[k]? = some (.io i) ∧ s = .io a xs ∧ v = .ref a ∧ σ[i]? = some (some (.ref a)) ∧ ∃ t, r[i]? = some t ∧ (t = .own xs ∨ t = .io a xs))
  | [], vs, ss, _, _, h, k, s, hs => by cases h; cases hs
  | .d x :: bs, vs, ss, hA, ⟨v, w, q, h1, h2⟩, h, k, s, hs => by
    have h' : (mkS r (adr σ) bs).map (.d x :: ·) = some ss := h
    cases e : mkS r (adr σ) bs with
    | none => rw [e] at h'; cases h'
    | some tt =>
      rw [e] at h'
      cases h'
      subst q
      cases k with
      | zero =>
        cases hs
        exact ⟨v, rfl, ⟨v, rfl, h1⟩, .inl ⟨x, rfl⟩⟩
      | succ k =>
        obtain ⟨u, k1, k2, k3⟩ := mkS_ok (bs := bs) S hA h2 e k s (by simpa using hs)
        exact ⟨u, by simpa using k1, k2, by simpa using k3⟩
  | .io i :: bs, vs, ss, hA, ⟨a, w, q, h1, h2⟩, h, k, s, hs => by
    unfold mkS at h
    split at h
    · rename_i xs ex
      cases e : mkS r (adr σ) bs with
      | none => rw [e] at h; cases h
      | some tt =>
        rw [e] at h
        cases h
        subst q
        cases k with
        | zero =>
          obtain ⟨t, a', us, k1, k2, k3, k4, k5, k6, k7⟩ := S.io_at ex
          rw [h1] at k2
          cases k2
          cases hs
          rw [adr_of h1]
          exact ⟨.ref a, rfl, ⟨us, rfl, k3, k4, wo_in (by have := hA i List.mem_cons_self; rwa [adr_of h1] at this), k6⟩, .inr ⟨i, a, xs, rfl, rfl, rfl, h1, t, k1, k7⟩⟩
        | succ k =>
          obtain ⟨u, k1, k2, k3⟩ := mkS_ok (bs := bs) S (fun j hj => hA j (List.mem_cons_of_mem _ hj)) h2 e k s (by simpa using hs)
          exact ⟨u, by simpa using k1, k2, by simpa using k3⟩
    · cases h
theorem mkS_sr (S : SR K F0 B r σ H F) {bs : List AV} {vs : List V} {ss : List Slot} (R : RepI K σ F bs vs) (h : mkS r (adr σ) bs = some ss) (nd : (ioIx bs).Nodup) {A : List Addr} (hA : ∀ i ∈ ioIx bs, adr σ i ∈ A) : SR K F (wo H A) ss (vs.map some) H F := by
  have hv : vs.length = bs.length := by
    clear h
    induction bs generalizing vs with
    | nil => have h' : vs = [] := R; rw [h']; rfl
    | cons b bs ih =>
      cases b with
      | io i =>
        obtain ⟨a, w, q, _, h2⟩ := R
        rw [q, List.length_cons, List.length_cons, ih h2 (List.nodup_cons.mp nd).2 fun j hj => hA j (List.mem_cons_of_mem _ hj)]
      | d x =>
        obtain ⟨a, w, q, _, h2⟩ := R
        rw [q, List.length_cons, List.length_cons, ih h2 nd hA]
  have io_inj : ∀ {bs : List AV} {k l i : Nat}, (ioIx bs).Nodup → bs[k]? = some (.io i) → bs[l]? = some (.io i) → k = l := fun {bs} => by
    have mem : ∀ {bs : List AV} {k i : Nat}, bs[k]? = some (.io i) → i ∈ ioIx bs := fun {bs} => by
      induction bs with
      | nil => intro k i e; cases e
      | cons b bs ih =>
        intro k i e
        cases k with
        | zero =>
          cases e
          exact List.mem_cons_self
        | succ k =>
          have m := ih (k := k) (i := i) (by simpa using e)
          cases b with
          | io j => exact List.mem_cons_of_mem _ m
          | d x => exact m
    induction bs with
    | nil => intro k l i _ e; cases e
    | cons b bs ih =>
      intro k l i hn e1 e2
      cases k with
      | zero =>
        cases e1
        cases l with
        | zero => rfl
        | succ l => exact absurd (mem (k := l) (by simpa using e2)) (List.nodup_cons.mp hn).1
      | succ k =>
        cases l with
        | zero =>
          cases e2
          exact absurd (mem (k := k) (by simpa using e1)) (List.nodup_cons.mp hn).1
        | succ l =>
          have hn' : (ioIx bs).Nodup := by
            cases b with
            | io j => exact (List.nodup_cons.mp hn).2
            | d x => exact hn
          rw [ih hn' (k := k) (l := l) (i := i) (by simpa using e1) (by simpa using e2)]
  refine ⟨⟨Same.refl _, wo_same, S.sub, fun b _ q _ => q⟩, by rw [List.length_map, hv, mkS_len h], fun k s e => ?_, fun k l s t y z b hkl e1 e2 e3 e4 f1 f2 => ?_, ⟨[], fun u hu => absurd hu List.not_mem_nil, fun k xs e => ?_⟩⟩
  · obtain ⟨v, h1, h2, _⟩ := mkS_ok S hA R h k s e
    exact ⟨some v, by rw [List.getElem?_map, h1]; rfl, h2⟩
  · obtain ⟨v, h1, _, h2⟩ := mkS_ok S hA R h k s e1
    obtain ⟨u, h3, _, h4⟩ := mkS_ok S hA R h l t e2
    rcases h2 with ⟨x, rfl⟩ | ⟨i, a, xs, k1, rfl, rfl, k2, t1, k3, k4⟩
    · exact f1
    rcases h4 with ⟨x, rfl⟩ | ⟨j, c, ys, l1, rfl, rfl, l2, t2, l3, l4⟩
    · exact f2
    rw [List.getElem?_map, h1] at e3
    rw [List.getElem?_map, h3] at e4
    have q1 : y = some (.ref b) := f1
    have q2 : z = some (.ref b) := f2
    subst q1 q2
    cases e3
    cases e4
    refine S.sep i j t1 t2 _ _ b (fun c => ?_) k3 l3 k2 l2 ((foot_own k4).mpr rfl) ((foot_own l4).mpr rfl)
    subst c
    exact hkl (io_inj nd k1 l1)
  · obtain ⟨v, _, _, h2⟩ := mkS_ok S hA R h k _ e
    rcases h2 with ⟨x, q⟩ | ⟨i, a, xs, _, q, _⟩
    · cases q
    · cases q
/-- the names behind a call -/
theorem putB_get : ∀ {bs : List AV} {vs : List V} {ss : List Slot} {ls : List (List D)} {r r2 : Env} {rr : Env}, (∀ j s, j ∈ ioIx bs → r[j]? = some s → rr[j]? = some s) → RepI K σ F bs vs → mkS rr (adr σ) bs = some ss → IoEnd K F' H' ss ls → (ioIx bs).Nodup → putB bs ls r = some r2 →
    r2.length = r.length ∧ ∀ j s, r2[j]? = some s → (j ∈ ioIx bs ∧ ∃ s0 l us, r[j]? = some s0 ∧ s = reslot s0 l ∧ H' (adr σ j) = some (.lst us) ∧ F' (adr σ j) = none ∧ RepL K F' l us) ∨ (j ∉ ioIx bs ∧ r[j]? = some s)
  | [], vs, ss, ls, r, r2, rr, _, _, _, _, _, h => by
    cases ls with
    | nil =>
      cases h
      exact ⟨rfl, fun j s e => .inr ⟨List.not_mem_nil, e⟩⟩
    | cons l ls => cases h
  | .d x :: bs, vs, ss, ls, r, r2, rr, hr, ⟨v, w, q, h1, h2⟩, hm, hi, nd, h => by
    have h' : (mkS rr (adr σ) bs).map (.d x :: ·) = some ss := hm
    cases e : mkS rr (adr σ) bs with
    | none => rw [e] at h'; cases h'
    | some tt =>
      rw [e] at h'
      cases h'
      exact putB_get (bs := bs) hr h2 e (show IoEnd K F' H' tt ls from hi) nd (show putB bs ls r = some r2 by cases ls <;> exact h)
  | .io i :: bs, vs, ss, ls, r, r2, rr, hr, ⟨a, w, q, h1, h2⟩, hm, hi, nd, h => by
    unfold mkS at hm
    split at hm
    · rename_i xs ex
      cases e : mkS rr (adr σ) bs with
      | none => rw [e] at hm; cases hm
      | some tt =>
        rw [e] at hm
        cases hm
        obtain ⟨l, ls', rfl, ⟨us, i1, i2, i3⟩, i4⟩ := hi
        have h'' : putB bs ls' (ioSet r i l) = some r2 := h
        obtain ⟨ni, nd'⟩ := List.nodup_cons.mp nd
        have gs : ∀ j, j ≠ i → (ioSet r i l)[j]? = r[j]? := fun j c => by
          unfold ioSet
          split
          · exact List.getElem?_set_ne (Ne.symm c)
          · rfl
        obtain ⟨hl, hg⟩ := putB_get (bs := bs) (r := ioSet r i l) (rr := rr) (fun j s hj e => hr j s (List.mem_cons_of_mem _ hj) (by rw [gs j fun c => ni (by rw [← c]; exact hj)] at e; exact e)) h2 e i4 nd' h''
        refine ⟨hl.trans (by unfold ioSet; split <;> simp), fun j s ej => ?_⟩
        rcases hg j s ej with ⟨m, s0, l0, us0, k1, k2, k3⟩ | ⟨m, k⟩
        · exact .inl ⟨List.mem_cons_of_mem _ m, s0, l0, us0, by rw [gs j fun c => ni (by rw [← c]; exact m)] at k1; exact k1, k2, k3⟩
        · by_cases c : j = i
          · subst c
            unfold ioSet at k
            split at k
            · rename_i s0 e0
              rw [List.getElem?_set_self (get_lt e0)] at k
              cases k
              rw [adr_of h1] at i1 i2
              exact .inl ⟨List.mem_cons_self, s0, l, us, e0, rfl, by rw [adr_of h1]; exact i1, by rw [adr_of h1]; exact i2, i3⟩
            · rename_i e0
              rw [e0] at k; cases k
          · rw [gs j c] at k
            exact .inr ⟨fun z => (List.mem_cons.mp z).elim c m, k⟩
    · cases hm
theorem call_io (S : SR K F0 B r σ H F) {bs : List AV} {vs : List V} {ss : List Slot} {ls : List (List D)} (R : RepI K σ F bs vs) (h : mkS r (adr σ) bs = some ss) (nd : (ioIx bs).Nodup) {A : List Addr} (hA : ∀ b ∈ A, (∃ i ∈ ioIx bs, b = adr σ i) ∨ (¬ Feet r σ H b ∧ B b = none))
    (g : Gr F (wo H A) F' H') (ie : IoEnd K F' H' ss ls) (hp : putB bs ls r = some r2) : SR K F0 B r2 σ H' F' := by
  obtain ⟨hl, hg⟩ := putB_get (fun _ _ _ e => e) R h ie nd hp
  -- the lists that are passed are own ones
  have io : ∀ {i : Nat}, i ∈ ioIx bs → ∃ s a xs, r[i]? = some s ∧ σ[i]? = some (some (.ref a)) ∧ (s = .own xs ∨ s = .io a xs) ∧ B a = none := fun {i} m => by
    have : ∃ xs, ioXs r i = some xs := by
      clear ie hp hg hl g hA R nd
      induction bs generalizing ss with
      | nil => cases m
      | cons b bs ih =>
        cases b with
        | d x =>
          have h' : (mkS r (adr σ) bs).map (.d x :: ·) = some ss := h
          cases e : mkS r (adr σ) bs with
          | none => rw [e] at h'; cases h'
          | some tt => exact ih e m
        | io j =>
          unfold mkS at h
          split at h
          · rename_i xs ex
            cases e : mkS r (adr σ) bs with
            | none => rw [e] at h; cases h
            | some tt =>
              rcases List.mem_cons.mp m with c | c
              · rw [c]; exact ⟨xs, ex⟩
              · exact ih e c
          · cases h
    obtain ⟨xs, ex⟩ := this
    obtain ⟨s, a, us, k1, k2, _, _, k5, _, k7⟩ := S.io_at ex
    exact ⟨s, a, xs, k1, k2, k7, k5⟩
  have A_B : ∀ b ∈ A, B b = none := fun b m => by
    rcases hA b m with ⟨i, hi, rfl⟩ | ⟨_, k⟩
    · obtain ⟨s, a, xs, _, k2, _, k4⟩ := io hi
      rw [adr_of k2]; exact k4
    · exact k
  -- the lists of the other names
  have fr : ∀ {j : Nat} {s : Slot} {y : Option V}, j ∉ ioIx bs → r[j]? = some s → σ[j]? = some y → ∀ b, Foot H s y b → H' b = H b ∧ F' b = none := fun {j s y} nj e1 e2 b f => by
    have nA : b ∉ A := fun m => by
      rcases hA b m with ⟨i, hi, rfl⟩ | ⟨k, _⟩
      · obtain ⟨s', a, xs, k1, k2, k3, _⟩ := io hi
        rw [adr_of k2] at f
        exact S.sep j i s s' y _ a (fun c => nj (by rw [c]; exact hi)) e1 k1 e2 k2 f ((foot_own k3).mpr rfl)
      · exact k ⟨j, s, y, e1, e2, f⟩
    obtain ⟨u, k1, k2, _, k4⟩ := S.feet ⟨j, s, y, e1, e2, f⟩
    have k5 : wo H A b = some u := by rw [wo_out nA]; exact k1
    exact ⟨by rw [k1]; exact g.h b u k5, g.n b (by rw [k5]; exact fun z => nomatch z) k2 fun vs e => k4 vs (Option.some.inj (k5.symm.trans e))⟩
  refine ⟨⟨S.gr.f.trans g.f, fun b x q => ?_, g.i, fun b hb q t => ?_⟩, by rw [hl]; exact S.len, fun j s e => ?_, fun i j s t y z b hij e1 e2 e3 e4 f1 f2 => ?_, ?_⟩
  · have nA : b ∉ A := fun m => by rw [A_B b m] at q; cases q
    exact g.h b x (by rw [wo_out nA]; exact S.gr.h b x q)
  · have nA : b ∉ A := fun m => hb (A_B b m)
    cases eb : B b with
    | none => exact absurd eb hb
    | some u =>
      have k5 : wo H A b = some u := by rw [wo_out nA]; exact S.gr.h b u eb
      exact g.n b (by rw [k5]; exact fun z => nomatch z) (S.gr.n b hb q t) fun vs e => t vs (eb.trans (k5.symm.trans e))
  · rcases hg j s e with ⟨m, s0, l, us, k1, rfl, k3, k4, k5⟩ | ⟨m, k⟩
    · obtain ⟨s', a, xs, l1, l2, l3, l4⟩ := io m
      rw [k1] at l1
      cases l1
      rw [adr_of l2] at k3 k4
      refine ⟨_, l2, ?_⟩
      rcases l3 with rfl | rfl
      · exact ⟨a, us, rfl, k3, k4, l4, k5⟩
      · exact ⟨us, rfl, k3, k4, l4, k5⟩
    · obtain ⟨y, h1, h2⟩ := S.ok j s k
      exact ⟨y, h1, h2.frame g.f (fr m k h1)⟩
  · have back : ∀ {j : Nat} {s : Slot} {y : Option V}, r2[j]? = some s → σ[j]? = some y → Foot H' s y b → ∃ s0, r[j]? = some s0 ∧ Foot H s0 y b := fun {j s y} e1 e2 f => by
      rcases hg j s e1 with ⟨m, s0, l, us, k1, rfl, _⟩ | ⟨m, k⟩
      · obtain ⟨s', a, xs, l1, l2, l3, _⟩ := io m
        rw [k1] at l1
        cases l1
        refine ⟨s0, k1, (foot_own l3).mpr ?_⟩
        rcases l3 with rfl | rfl
        · exact f
        · exact f
      · exact ⟨s, k, f.back (S.slot k e2) fun c fc => (fr m k e2 c fc).1⟩
    obtain ⟨s0, k1, k2⟩ := back e1 e3 f1
    obtain ⟨t0, k3, k4⟩ := back e2 e4 f2
    exact S.sep i j s0 t0 y z b hij k1 k3 e3 e4 k2 k4
  · obtain ⟨us, h1, h2⟩ := S.tag
    refine ⟨us, h1, fun j xs e => ?_⟩
    rcases hg j _ e with ⟨m, s0, l, us', k1, k2, _⟩ | ⟨m, k⟩
    · obtain ⟨s', a, xs', l1, l2, l3, _⟩ := io m
      rw [k1] at l1
      cases l1
      rcases l3 with rfl | rfl
      · cases k2
      · cases k2
    · obtain ⟨a, k1, k2⟩ := h2 j xs k
      exact ⟨a, k1, g.f.seq k2⟩
end
/-! ### the promise of a def that changes lists -/
def spIo (K : PySem.W.Frag) (ec : EC) (n : Nat) (g : List Slot → RI) : Sp := fun vs H Q E => ∃ ss F B, ss.length = n ∧ vs.length = n ∧ SR K F B ss (vs.map some) H F ∧ (∀ s ∈ ss, (∃ x, s = .d x) ∨ ∃ a xs, s = .io a xs) ∧
  match g ss with
  | none => False
  | some (.ok d, ls) => ∀ v F' H', Gr F B F' H' → Rep K F' d v → IoEnd K F' H' ss ls → Q v H'
  | some (.error e, ls) => ∀ dx F' H', Gr F B F' H' → ErrOk K F' H' e dx → IoEnd K F' H' ss ls → E (.ref (ec e.cls)) dx H'
theorem ioOut_end {K : PySem.W.Frag} {B H F : Hp} : ∀ {ss : List Slot} {r : Env} {σ : L2.St} {ls : List (List D)}, (∀ (k : Nat) (s : Slot), r[k]? = some s → ∃ y, σ[k]? = some y ∧ SlotOk K B H F s y) → (∀ s ∈ ss, (∃ x, s = .d x) ∨ ∃ a xs, s = .io a xs) → ioOut ss r = some ls → IoEnd K F H ss ls
  | [], _, _, _, _, _, _ => trivial
  | .io a xs :: ss, [], σ, ls, ok, hs, h => by cases h
  | .io a xs :: ss, t :: r, σ, ls, ok, hs, h => by
    cases t with
    | io b ys =>
      have h' : (if a = b then (ioOut ss r).map (ys :: ·) else none) = some ls := h
      by_cases c : a = b
      · rw [if_pos c] at h'
        cases e : ioOut ss r with
        | none => rw [e] at h'; cases h'
        | some ls' =>
          rw [e] at h'
          cases h'
          obtain ⟨y, h1, us, rfl, h2, h3, _, h5⟩ := ok 0 _ rfl
          exact ⟨ys, ls', rfl, ⟨us, by rw [c]; exact h2, by rw [c]; exact h3, h5⟩, ioOut_end (σ := σ.tail) (fun k s q => by
            obtain ⟨y, k1, k2⟩ := ok (k + 1) s (by simpa using q)
            exact ⟨y, by rw [List.getElem?_tail]; exact k1, k2⟩) (fun s m => hs s (List.mem_cons_of_mem _ m)) e⟩
      · rw [if_neg c] at h'; cases h'
    | _ => cases h
  | .d x :: ss, [], σ, ls, ok, hs, h => by cases h
  | .d x :: ss, t :: r, σ, ls, ok, hs, h => ioOut_end (ss := ss) (r := r) (σ := σ.tail) (fun k s q => by
      obtain ⟨y, k1, k2⟩ := ok (k + 1) s (by simpa using q)
      exact ⟨y, by rw [List.getElem?_tail]; exact k1, k2⟩) (fun s m => hs s (List.mem_cons_of_mem _ m)) (show ioOut ss r = some ls from h)
  | .un :: ss, _, _, _, _, hs, _ => by
    rcases hs _ List.mem_cons_self with ⟨x, q⟩ | ⟨a, xs, q⟩ <;> cases q
  | .own _ :: ss, _, _, _, _, hs, _ => by
    rcases hs _ List.mem_cons_self with ⟨x, q⟩ | ⟨a, xs, q⟩ <;> cases q
  | .tg _ :: ss, _, _, _, _, hs, _ => by
    rcases hs _ List.mem_cons_self with ⟨x, q⟩ | ⟨a, xs, q⟩ <;> cases q
  | .nest _ :: ss, _, _, _, _, hs, _ => by
    rcases hs _ List.mem_cons_self with ⟨x, q⟩ | ⟨a, xs, q⟩ <;> cases q
  | .dct _ :: ss, _, _, _, _, hs, _ => by
    rcases hs _ List.mem_cons_self with ⟨x, q⟩ | ⟨a, xs, q⟩ <;> cases q
/-- names behind the parameters -/
theorem SR.pad {K : PySem.W.Frag} {F0 B H F : Hp} {r : Env} {σ : L2.St} (S : SR K F0 B r σ H F) (n : Nat) : SR K F0 B (r ++ List.replicate n .un) (σ ++ List.replicate n none) H F := by
  have lo : ∀ {i : Nat} {s : Slot}, (r ++ List.replicate n .un)[i]? = some s → s ≠ .un → r[i]? = some s ∧ (σ ++ List.replicate n none)[i]? = σ[i]? := fun {i s} e c => by
    by_cases hl : i < r.length
    · rw [List.getElem?_append_left hl] at e
      exact ⟨e, by rw [List.getElem?_append_left (by rw [← S.len]; exact hl)]⟩
    · rw [List.getElem?_append_right (by omega), List.getElem?_replicate] at e
      split at e
      · exact absurd (Option.some.inj e).symm c
      · cases e
  have nu : ∀ {s : Slot} {y : Option V} {a : Addr}, Foot H s y a → s ≠ .un := fun f c => by subst c; exact f
  refine ⟨S.gr, by simp [S.len], fun i s e => ?_, fun i j s t y z a hij e1 e2 e3 e4 f1 f2 => ?_, ?_⟩
  · by_cases c : s = .un
    · subst c
      have hl := get_lt e
      have hl' : i < (σ ++ List.replicate n none).length := by simpa [S.len] using hl
      exact ⟨_, List.getElem?_eq_getElem hl', trivial⟩
    · obtain ⟨k1, k2⟩ := lo e c
      obtain ⟨y, h1, h2⟩ := S.ok i s k1
      exact ⟨y, by rw [k2]; exact h1, h2⟩
  · obtain ⟨k1, k2⟩ := lo e1 (nu f1)
    obtain ⟨k3, k4⟩ := lo e2 (nu f2)
    exact S.sep i j s t y z a hij k1 k3 (by rw [← k2]; exact e3) (by rw [← k4]; exact e4) f1 f2
  · obtain ⟨us, h1, h2⟩ := S.tag
    refine ⟨us, h1, fun i xs e => ?_⟩
    obtain ⟨k1, k2⟩ := lo e fun z => nomatch z
    obtain ⟨a, k3, k4⟩ := h2 i xs k1
    exact ⟨a, by rw [k2]; exact k3, k4⟩
theorem fn_okI {P : Program} {w : World} {K : PySem.W.Frag} {mg : Str → Option Value} {base : Heap} {ec : EC} {x qual : Str} {st : Stmt} {f : Addr} {fd : FuncData} {N ps : List Str} {k n p : Nat} {b : SX} (F : Fun K x qual st f fd) (S : FnScope N ps (defScope st))
    (hn : N.length = n := by rfl) (hp : ps.length = p := by rfl)
    (body : ∀ (cdv : Value) (A : Around) (outer : List PySem.Env) (s : Shared) (H : Hp) (E : XK), Room k (A.deeper (envOfC qual (defScope st) s.heap.objs.size f cdv)) →
      DSs (cxOf (L2.CX P w) P w K mg base N qual (defScope st) f cdv A outer s H E) ec (fun c d _ H => E c d H) (defBody st) b) :
    FnOk P w K mg base (L2.CX P w) (k + 1) f fd ps (spIo K ec p (runI n p b)) := by
  refine F.okX S (fun vs H Q E h => by rw [hp]; obtain ⟨_, _, _, _, z, _⟩ := h; exact z) (fun cdv A outer s H vs Q E hr h => ⟨_, body cdv A outer s H E hr, ?_⟩)
  obtain ⟨ss, F, B, h1, h2, S0, hs, h3⟩ := h
  refine ⟨ss ++ List.replicate (n - p) .un, F, F, B, ?_, ?_⟩
  · have e := S0.pad (n - p)
    have e2 : L2.start N vs = vs.map some ++ List.replicate (n - p) none := by
      unfold L2.start
      rw [hn, h2]
    rw [e2]
    exact e
  · unfold runI at h3
    rw [if_pos h1] at h3
    generalize b (ss ++ List.replicate (n - p) .un) = o at h3 ⊢
    revert h3
    match o with
    | none => exact fun z => z
    | some (.nx r) =>
      intro z σ' F' H' sf S'
      dsimp only at z
      cases e : ioOut ss r with
      | none => rw [e] at z; exact False.elim z
      | some ls =>
        rw [e] at z
        exact z .non F' H' S'.gr rfl (ioOut_end S'.ok hs e)
    | some (.ri d r) =>
      intro z v σ' F' H' sf S' rv
      dsimp only at z
      cases e : ioOut ss r with
      | none => rw [e] at z; exact False.elim z
      | some ls =>
        rw [e] at z
        exact z v F' H' S'.gr rv (ioOut_end S'.ok hs e)
    | some (.er e r) =>
      intro z dx σ' F' H' sf S' he
      dsimp only at z
      cases e : ioOut ss r with
      | none => rw [e] at z; exact False.elim z
      | some ls =>
        rw [e] at z
        exact z dx F' H' S'.gr he (ioOut_end S'.ok hs e)
    | some (.rt d) => exact fun z => False.elim z
    | some (.bk r) => exact fun z => False.elim z
    | some (.ct r) => exact fun z => False.elim z
    | some (.ro i r) => exact fun z => False.elim z
    | some (.rl xs) => exact fun z => False.elim z
structure DOkI (P : Program) (w : World) (K : PySem.W.Frag) (mg : Str → Option Value) (base : Heap) (ec : EC) (x : Str) (ps : List Str) (k p : Nat) (g : List Slot → RI) : Prop where
  ex : ∃ (f : Addr) (fd : FuncData), mg x = some (.ref f) ∧ PySem.W.keepIn K (.ref f) = true ∧ Binds K fd ps [] ∧ FnOk P w K mg base (L2.CX P w) k f fd ps (spIo K ec p g)
theorem DAt.okI {P : Program} {w : World} {K : PySem.W.Frag} {mg : Str → Option Value} {base : Heap} {ec : EC} {x : Str} {st : Stmt} {N ps : List Str} {k n p : Nat} {b : SX} (D : DAt K mg x st ps) (S : FnScope N ps (defScope st))
    (hn : N.length = n := by rfl) (hp : ps.length = p := by rfl)
    (body : ∀ (f : Addr) (cdv : Value) (A : Around) (outer : List PySem.Env) (s : Shared) (H : Hp) (E : XK), Room k (A.deeper (envOfC x (defScope st) s.heap.objs.size f cdv)) →
      DSs (cxOf (L2.CX P w) P w K mg base N x (defScope st) f cdv A outer s H E) ec (fun c d _ H => E c d H) (defBody st) b) :
    DOkI P w K mg base ec x ps (k + 1) p (runI n p b) := by
  obtain ⟨f, fd, h1, h2, h3⟩ := D.ex
  exact ⟨f, fd, h1, h2.kp, h3, fn_okI h2 S hn hp (body f)⟩
/-! ### arguments of such a call -/
def tAI (K : PySem.W.Frag) (ec : EC) (W : WX) (as : List AArg) : TA := fun σ H Q => ∃ r F F0 B, SR K F0 B r σ H F ∧ ThnS K ec W (wArgI as r) σ F0 B F fun bs _ F' H' => ∀ vs, RepI K σ F' bs vs → Q vs H'
abbrev DAI (X : Cx) (ec : EC) (W : WX) (es : List Expr) (as : List AArg) : Prop := PA X es (tAI X.K ec W as)
theorem wArgI_ix : ∀ {as : List AArg} {r r' : Env} {bs : List AV}, wArgI as r = some (.ok bs, r') → ioIx bs = ioIxA as ∧ bs.length = as.length
  | [], r, r', bs, h => by
    have h' : okS ([] : List AV) r = some (.ok bs, r') := h
    unfold okS at h'
    cases h'
    exact ⟨rfl, rfl⟩
  | .io i :: as, r, r', bs, h => by
    unfold wArgI at h
    split at h
    · obtain ⟨xs, r1, h1, h2⟩ := sb_eq_ok h
      unfold okS at h2
      cases h2
      obtain ⟨k1, k2⟩ := wArgI_ix h1
      exact ⟨by show i :: ioIx xs = i :: ioIxA as; rw [k1], by rw [List.length_cons, List.length_cons, k2]⟩
    · cases h
  | .ex a :: as, r, r', bs, h => by
    have h' : (sb (a r) fun x r1 => sb (wArgI as r1) fun xs r2 => okS (.d x :: xs) r2) = some (.ok bs, r') := h
    obtain ⟨x, r1, h1, h2⟩ := sb_eq_ok h'
    obtain ⟨xs, r2, h3, h4⟩ := sb_eq_ok h2
    unfold okS at h4
    cases h4
    obtain ⟨k1, k2⟩ := wArgI_ix h3
    exact ⟨k1, by rw [List.length_cons, List.length_cons, k2]⟩
section
variable {X : Cx} {ec : EC} {W : WX} {e : Expr} {es : List Expr} {pos p : Pos} {f1 : ES D}
theorem dai_nil : DAI X ec W [] [] := paImp pa_nil fun σ H Q ⟨r, F, F0, B, S, q⟩ => ThnS.ok (a := ([] : List AV)) S q [] rfl
theorem dai_ex {as : List AArg} (ha : DEs X ec W e f1) (hr : DAI X ec W es as) (hs : starEach (e :: es) X.env = (false, eval e X.env) :: starEach es X.env := by rfl) : DAI X ec W (e :: es) (.ex f1 :: as) :=
  paImp (pa_cons ha hr hs) fun σ H Q ⟨r, F, F0, B, S, q⟩ =>
    ⟨r, F, F0, B, S, (ThnS.bind q).imp fun x r1 F1 H1 _ g1 S1 h1 v rv => ⟨r1, F1, F0, B, S1, (ThnS.bind h1).imp fun xs r2 F2 H2 _ g2 S2 h2 vs rs =>
      ThnS.ok (a := AV.d x :: xs) S2 h2 (v :: vs) ⟨v, vs, rfl, rv.mono g2, rs⟩⟩⟩
theorem dai_io {as : List AArg} (i : Nat) {x : Str} {xp : Pos} (hr : DAI X ec W es as) (hN : X.N[i]? = some x := by rfl) (hv : Vis X.env.scope x := by first | exact Or.inl rfl | exact Or.inr (Or.inl rfl) | exact Or.inr (Or.inr rfl)) (hd : (x == ("__debug__" : Str)) = false := by decide)
    (hcd : (x == ("__classdict__" : Str)) = false := by decide) (hs : starEach (.Name x xp :: es) X.env = (false, eval (.Name x xp) X.env) :: starEach es X.env := by rfl) : DAI X ec W (.Name x xp :: es) (.io i :: as) :=
  paImp (pa_cons (pe_var hN hv hd hcd) hr hs) fun σ H Q ⟨r, F, F0, B, S, q⟩ => by
    have q' : ThnS X.K ec W (match ioXs r i with
      | some _ => sb (wArgI as r) fun xs r1 => okS (AV.io i :: xs) r1
      | none => none) σ F0 B F fun bs _ F' H' => ∀ vs, RepI X.K σ F' bs vs → Q vs H' := q
    cases ex : ioXs r i with
    | none => rw [ex] at q'; exact False.elim q'
    | some xs =>
      rw [ex] at q'
      obtain ⟨s, a, us, k1, k2, _⟩ := S.io_at ex
      refine ⟨.ref a, k2, r, F, F0, B, S, (ThnS.bind (f := fun xs r1 => okS (AV.io i :: xs) r1) q').imp fun xs r2 F2 H2 _ g2 S2 h2 vs rs => ?_⟩
      exact ThnS.ok (a := AV.io i :: xs) S2 h2 (.ref a :: vs) ⟨a, vs, rfl, k2, rs⟩
theorem mkS_kind {r : Env} {ad : Nat → Addr} : ∀ {bs : List AV} {ss : List Slot}, mkS r ad bs = some ss → ∀ s ∈ ss, (∃ x, s = .d x) ∨ ∃ a xs, s = .io a xs
  | [], ss, h, s, m => by cases h; cases m
  | .d x :: bs, ss, h, s, m => by
    have h' : (mkS r ad bs).map (.d x :: ·) = some ss := h
    cases e : mkS r ad bs with
    | none => rw [e] at h'; cases h'
    | some tt =>
      rw [e] at h'
      cases h'
      rcases List.mem_cons.mp m with c | c
      · exact .inl ⟨x, c⟩
      · exact mkS_kind e s c
  | .io i :: bs, ss, h, s, m => by
    unfold mkS at h
    split at h
    · cases e : mkS r ad bs with
      | none => rw [e] at h; cases h
      | some tt =>
        rw [e] at h
        cases h
        rcases List.mem_cons.mp m with c | c
        · exact .inr ⟨_, _, c⟩
        · exact mkS_kind e s c
    · cases h
theorem RepI.len {K : PySem.W.Frag} {σ : L2.St} {F : Hp} : ∀ {bs : List AV} {vs : List V}, RepI K σ F bs vs → vs.length = bs.length
  | [], vs, h => by
    have h' : vs = [] := h
    rw [h']; rfl
  | .io _ :: bs, vs, ⟨a, w, q, _, h2⟩ => by rw [q, List.length_cons, List.length_cons, RepI.len h2]
  | .d _ :: bs, vs, ⟨a, w, q, _, h2⟩ => by rw [q, List.length_cons, List.length_cons, RepI.len h2]
theorem des_callI {j k n : Nat} {ps : List Str} {g : List Slot → RI} {x : Str} {as : List AArg} (G : DOkI X.prog X.w X.K X.mg X.base ec x ps j n g) (hr : Room k X.A) (tk : Takes X W) (hjk : j ≤ k) (hg : Gl X x) (ha : DAI X ec W (e :: es) as) (hn : as.length = n := by rfl) (nd : (ioIxA as).Nodup := by decide) (hdb : (x == ("__debug__" : Str)) = false := by decide)
    (he : starEach (e :: es) X.env = (false, eval e X.env) :: starEach es X.env := by rfl) (hpl : (backTo pos (starEach es X.env)).any (·.1) = false := by rfl) : DEs X ec W (.Call (.Name x p) (e :: es) [] pos) (wCallI g as) := by
  obtain ⟨f, fd, h1, h2, h3, h4⟩ := G.ex
  refine peImp (pe_callS h4 (hr.mono hjk) hg h1 h2 h3 (fun σ => passAt tk σ) ha hdb he hpl) fun σ H Q ⟨r, F, F0, B, S, q⟩ =>
    ⟨r, F, F0, B, S, (ThnS.bind q).imp fun bs r1 F1 H1 ex g1 S1 k1 vs rs => ?_⟩
  obtain ⟨ix, bl⟩ := wArgI_ix ex
  have k1' : ThnS X.K ec W (callI g bs r1) σ F0 B F1 fun d _ F' H' => ∀ v, Rep X.K F' d v → Q v H' := k1
  unfold callI at k1'
  split at k1'
  · exact False.elim k1'
  · rename_i e' ls ea
    have ea' : (match mkS r1 (adr σ) bs with | some ss => g ss | none => none) = some (e', ls) := allA_eq ea (adr σ)
    split at ea'
    · rename_i ss es'
      have nd' : (ioIx bs).Nodup := by rw [ix]; exact nd
      have hA : ∀ i ∈ ioIx bs, adr σ i ∈ ads σ bs := fun i m => List.mem_map.mpr ⟨i, m, rfl⟩
      have hA2 : ∀ b ∈ ads σ bs, (∃ i ∈ ioIx bs, b = adr σ i) ∨ (¬ Feet r1 σ H1 b ∧ B b = none) := fun b m => by
        obtain ⟨i, hi, e⟩ := List.mem_map.mp m
        exact .inl ⟨i, hi, e.symm⟩
      refine ⟨ss, F1, wo H1 (ads σ bs), by rw [mkS_len es', bl]; exact hn, by rw [rs.len, bl]; exact hn, mkS_sr S1 rs es' nd' hA, mkS_kind es', ?_⟩
      rw [ea']
      split at k1'
      · rename_i r2 ep
        cases e' with
        | ok d => exact fun v F' H' g' rv ie => k1' F' H' g'.f (call_io S1 rs es' nd' hA2 g' ie ep) v rv
        | error e' => exact fun dx F' H' g' he ie => k1' dx F' H' g'.f (call_io S1 rs es' nd' hA2 g' ie ep) he
      · exact False.elim k1'
    · cases ea'
end
end DL
/-! Statements whose expressions change own lists; a new list as such a call's first argument. -/
namespace DL
open PySem PySem.Spec PyProof.Rows L2

theorem ThnS.toBas {α : Type} {K : PySem.W.Frag} {ec : EC} {W : WX} {σ : L2.St} {F0 B F H : Hp} {r : Env} {P : α → Env → Hp → Hp → Prop} {x : RS α} (S : SR K F0 B r σ H F) (h : ThnS K ec W x σ F0 B F P) : ThnS K ec W x σ F (bas r σ H) F P := by
  match x with
  | none => exact h
  | some (.error e, r') => exact fun dx F' H' g S' => h dx F' H' g (S.unbase S')
  | some (.ok a, r') => exact fun F' H' g S' => h F' H' g (S.unbase S')
theorem mkS_congr {r : Env} {ad ad' : Nat → Addr} (h : ∀ i, i < r.length → ad i = ad' i) : ∀ (bs : List AV), mkS r ad bs = mkS r ad' bs
  | [] => rfl
  | .d x :: bs => by
    show (mkS r ad bs).map (.d x :: ·) = (mkS r ad' bs).map (.d x :: ·)
    rw [mkS_congr h bs]
  | .io i :: bs => by
    unfold mkS
    rw [mkS_congr h bs]
    cases e : ioXs r i with
    | none => rfl
    | some xs =>
      have hl : i < r.length := by
        unfold ioXs at e
        split at e
        · exact get_lt (by assumption)
        · exact get_lt (by assumption)
        · cases e
      dsimp only
      rw [h i hl]
theorem SR.consIo {K : PySem.W.Frag} {F0 B H F : Hp} {r : Env} {σ : L2.St} {p : Addr} {xs : List D} {us : List V} (S : SR K F0 B r σ H F) (h1 : H p = some (.lst us)) (h2 : F p = none) (h3 : B p = none) (h4 : RepL K F xs us) (nf : ¬ Feet r σ H p) : SR K F0 B (.io p xs :: r) (some (.ref p) :: σ) H F := by
  refine ⟨S.gr, by rw [List.length_cons, List.length_cons, S.len], fun i s e => ?_, fun i j s t y z a hij e1 e2 e3 e4 f1 f2 => ?_, ?_⟩
  · cases i with
    | zero =>
      cases e
      exact ⟨_, rfl, us, rfl, h1, h2, h3, h4⟩
    | succ i => exact S.ok i s (by simpa using e)
  · cases i with
    | zero =>
      cases j with
      | zero => exact hij rfl
      | succ j =>
        cases e1
        cases e3
        have q : some (V.ref p) = some (V.ref a) := f1
        cases q
        exact nf ⟨j, t, z, by simpa using e2, by simpa using e4, f2⟩
    | succ i =>
      cases j with
      | zero =>
        cases e2
        cases e4
        have q : some (V.ref p) = some (V.ref a) := f2
        cases q
        exact nf ⟨i, s, y, by simpa using e1, by simpa using e3, f1⟩
      | succ j => exact S.sep i j s t y z a (fun c => hij (by rw [c])) (by simpa using e1) (by simpa using e2) (by simpa using e3) (by simpa using e4) f1 f2
  · obtain ⟨us', k1, k2⟩ := S.tag
    refine ⟨us', k1, fun i ys e => ?_⟩
    cases i with
    | zero => cases e
    | succ i => exact k2 i ys (by simpa using e)
section
variable {X : Cx} {ec : EC} {W : WX} {e : Expr} {es : List Expr} {pos p : Pos} {ι : EL}
theorem des_callN {j k n : Nat} {ps : List Str} {g : List Slot → RI} {x : Str} {as : List AArg} (G : DOkI X.prog X.w X.K X.mg X.base ec x ps j n g) (hr : Room k X.A) (tk : Takes X W) (hjk : j ≤ k) (hg : Gl X x) (h0 : DLi X ec W e ι) (ha : DAI X ec W es as) (hn : as.length + 1 = n := by rfl) (nd : (ioIxA as).Nodup := by decide) (hdb : (x == ("__debug__" : Str)) = false := by decide)
    (he : starEach (e :: es) X.env = (false, eval e X.env) :: starEach es X.env := by rfl) (hpl : (backTo pos (starEach es X.env)).any (·.1) = false := by rfl) : DEs X ec W (.Call (.Name x p) (e :: es) [] pos) (wCallN g ι as) := by
  obtain ⟨f, fd, h1, h2, h3, h4⟩ := G.ex
  refine peImp (pe_callS h4 (hr.mono hjk) hg h1 h2 h3 (fun σ => passAt tk σ) (pa_cons h0 ha he) hdb he hpl) fun σ H Q ⟨r, F, F0, B, S, q⟩ =>
    ⟨r, F, F0, B, S, ((ThnS.bind q).up S).imp fun xs F1 H1 _ g1 k1 p us hp hv => ?_⟩
  have S0 := S.grow g1
  have go := Gr.own g1.i hp (.lst us)
  have S1 := S0.grow go
  have nf1 : ¬ Feet r σ (upd H1 p (.lst us)) p := fun c => by
    obtain ⟨_, z, _⟩ := S0.feet (S0.feet_grow go c)
    rw [hp] at z; cases z
  have bp : bas r σ (upd H1 p (.lst us)) p = some (.lst us) := by rw [bas_out nf1, upd_same]
  have Bp : B p = none := S0.gr.h.free hp
  refine ⟨r, F1, F1, _, S1.rebase, (ThnS.toBas S1 (ThnS.bind k1)).imp fun bs r2 F2 H2 ex sf2 S2b z vs rs => ?_⟩
  have S2 := S1.unbase S2b
  obtain ⟨ix, bl⟩ := wArgI_ix ex
  have Hp : H2 p = some (.lst us) := S2b.gr.h _ _ bp
  have Fp : F2 p = none := S2b.gr.n p (by rw [bp]; exact fun z => nomatch z) (g1.i.free hp) fun vs e => by rw [bp] at e; cases e
  have nf2 : ¬ Feet r2 σ H2 p := fun c => by
    obtain ⟨_, _, _, z, _⟩ := S2b.feet c
    rw [bp] at z; cases z
  have z0 : ThnS X.K ec W (callN g xs bs r2) σ F0 B F2 fun d _ F' H' => ∀ v, Rep X.K F' d v → Q v H' := z
  unfold callN at z0
  split at z0
  · rename_i e' l0 ls ea
    have ea' : (match mkS r2 (fun i => if i = r2.length then p else adr σ i) bs with | some ss => g (.io (if r2.length = r2.length then p else adr σ r2.length) xs :: ss) | none => none) = some (e', l0 :: ls) := allA_eq ea (fun i => if i = r2.length then p else adr σ i)
    rw [if_pos rfl, mkS_congr (ad' := adr σ) (fun i hi => if_neg (by omega)) bs] at ea'
    split at ea'
    · rename_i ss es'
      have nd' : (ioIx bs).Nodup := by rw [ix]; exact nd
      have hA : ∀ i ∈ ioIx bs, adr σ i ∈ p :: ads σ bs := fun i m => List.mem_cons_of_mem _ (List.mem_map.mpr ⟨i, m, rfl⟩)
      have hA2 : ∀ b ∈ p :: ads σ bs, (∃ i ∈ ioIx bs, b = adr σ i) ∨ (¬ Feet r2 σ H2 b ∧ B b = none) := fun b m => by
        rcases List.mem_cons.mp m with c | c
        · subst c; exact .inr ⟨nf2, Bp⟩
        · obtain ⟨i, hi, e⟩ := List.mem_map.mp c
          exact .inl ⟨i, hi, e.symm⟩
      have nfs : ¬ Feet ss (vs.map some) H2 p := fun ⟨k, s, y, e1, e2, f⟩ => by
        obtain ⟨v, m1, _, m2⟩ := mkS_ok S2 hA rs es' k s e1
        rcases m2 with ⟨x, rfl⟩ | ⟨i, a, ys, _, rfl, rfl, n1, t, n2, n3⟩
        · exact f
        · rw [List.getElem?_map, m1] at e2
          cases e2
          have q : some (V.ref a) = some (V.ref p) := f
          cases q
          exact nf2 ⟨i, t, _, n2, n1, (foot_own n3).mpr rfl⟩
      refine ⟨.io p xs :: ss, F2, wo H2 (p :: ads σ bs), by rw [List.length_cons, mkS_len es', bl]; exact hn, by rw [List.length_cons, rs.len, bl]; exact hn, (mkS_sr S2 rs es' nd' hA).consIo Hp Fp (wo_in List.mem_cons_self) (hv.mono sf2) nfs, fun s m => ?_, ?_⟩
      · rcases List.mem_cons.mp m with c | c
        · exact .inr ⟨_, _, c⟩
        · exact mkS_kind es' s c
      · rw [ea']
        split at z0
        · rename_i r3 ep
          cases e' with
          | ok d =>
            intro v F' H' g' rv ⟨l, ls', q1, _, ie⟩
            cases q1
            exact z0 F' H' g'.f (call_io S2 rs es' nd' hA2 g' ie ep) v rv
          | error e' =>
            intro dx F' H' g' he ⟨l, ls', q1, _, ie⟩
            cases q1
            exact z0 dx F' H' g'.f (call_io S2 rs es' nd' hA2 g' ie ep) he
        · exact False.elim z0
    · cases ea'
  · exact False.elim z0
end
/-! ### statements -/
theorem Aft.soS {α : Type} {K : PySem.W.Frag} {ec : EC} {W : WX} {F0 B F : Hp} {σ : L2.St} {Dn : Ends} {x : RS α} {f : α → Env → Option Out}
    (h : Aft K ec W F0 B F (soS x f) Dn) : ThnS K ec W x σ F0 B F fun a r F' H' => Aft K ec W F0 B F' (f a r) Dn := by
  match x with
  | none => exact h
  | some (.error e, r) => exact fun dx F' H' g S q => h dx σ F' H' g S q
  | some (.ok a, r) => exact fun F' H' g S => Aft.mono g (show Aft K ec W F0 B F (f a r) Dn from h)
section
variable {X : Cx} {ec : EC} {W : WX} {st : Stmt} {sts rest es els : List Stmt} {e c tg iter : Expr} {pos : Pos} {a b : SX} {f1 f2 : ES D} {t1 : ES Bool} {l1 : ES (List D)}
theorem ds_zret (h : DEs X ec W e f1) : DS X ec W (.Return (some e) pos) (zRet f1) := psImp (ps_ret h) fun D σ H ⟨r, F, F0, B, S, q⟩ =>
  ⟨r, F, F0, B, S, (Aft.soS (σ := σ) (h := q)).imp fun d r1 F1 H1 _ g S1 k v rv => k v σ F1 H1 (Same.refl _) S1 rv⟩
theorem ds_zrt (h : DEs X ec W e f1) : DS X ec W (.Return (some e) pos) (zRt f1) := psImp (ps_ret h) fun D σ H ⟨r, F, F0, B, S, q⟩ =>
  ⟨r, F, F0, B, S, (Aft.soS (σ := σ) (h := q)).imp fun d r1 F1 H1 _ g S1 k v rv => k v F1 H1 (Same.refl _) S1.gr rv⟩
theorem ds_zexpr (h : DEs X ec W e f1) (hs : swapsWith e none pos.line X.env = pure false := by rfl) : DS X ec W (.Expr e pos) (zExpr f1) := psImp (ps_expr h hs) fun D σ H ⟨r, F, F0, B, S, q⟩ =>
  ⟨r, F, F0, B, S, (Aft.soS (σ := σ) (h := q)).imp fun d r1 F1 H1 _ g S1 k v rv => k σ F1 H1 (Same.refl _) S1⟩
theorem ds_zif (hc : DTs X ec W c t1) (ha : DSs X ec W sts a) (hb : DSs X ec W els b) : DS X ec W (.If c sts els pos) (zIf t1 a b) := psImp (ps_if hc ha hb) fun D σ H ⟨r, F, F0, B, S, q⟩ =>
  ⟨r, F, F0, B, S, (Aft.soS (σ := σ) (h := q)).imp fun k r1 F1 H1 _ g S1 h1 => by
    cases k with
    | true => exact iteT ⟨r1, F1, F0, B, S1, h1⟩
    | false => exact iteF ⟨r1, F1, F0, B, S1, h1⟩⟩
theorem zset_use {K : PySem.W.Frag} {i : Nat} {D : Ends} {σ : L2.St} {H : Hp} (h : tS K ec W (zSet i f1) D σ H) : tAsg (tDs K ec W f1) (gName i) D σ H := by
  obtain ⟨r, F, F0, B, S, q⟩ := h
  exact ⟨r, F, F0, B, S, (Aft.soS (σ := σ) (h := q)).imp fun d r1 F1 H1 _ g S1 k v rv => k _ F1 H1 (Same.refl _) (S1.set rv)⟩
theorem zown_use {K : PySem.W.Frag} {i : Nat} {D : Ends} {σ : L2.St} {H : Hp} (h : tS K ec W (zOwn i l1) D σ H) : tAsg (tLs K ec W l1) (gName i) D σ H := by
  obtain ⟨r, F, F0, B, S, q⟩ := h
  exact ⟨r, F, F0, B, S, (Aft.soS (σ := σ) (h := q)).imp fun d r1 F1 H1 _ g S1 k p vs hp hv => k _ F1 _ (Same.refl _) (S1.setOwn hp hv)⟩
theorem ds_zset {i : Nat} {x : Str} {pos' : Pos} (hN : X.N.Nodup) (hi : X.N[i]? = some x) (hx : Loc X.env.scope x) (he : DEs X ec W e f1) (hs : swapsWith e (some (.Name x pos')) pos.line X.env = pure false := by rfl)
    (hf : X.fn x = true ∨ X.env.scope.names.lookup x = some .local := by first | exact .inl rfl | exact .inr rfl | assumption) : DS X ec W (.Assign [.Name x pos'] e pos) (zSet i f1) := psImp (ps_set hN hi hx he hs hf) fun _ _ _ h => zset_use h
theorem ds_zown {i : Nat} {x : Str} {pos' : Pos} (hN : X.N.Nodup) (hi : X.N[i]? = some x) (hx : Loc X.env.scope x) (he : DLs X ec W e l1) (hs : swapsWith e (some (.Name x pos')) pos.line X.env = pure false := by rfl)
    (hf : X.fn x = true ∨ X.env.scope.names.lookup x = some .local := by first | exact .inl rfl | exact .inr rfl | assumption) : DS X ec W (.Assign [.Name x pos'] e pos) (zOwn i l1) := psImp (ps_set hN hi hx he hs hf) fun _ _ _ h => zown_use h
theorem ds_zput {g : Tg} (he : DEs X ec W e f1) (hg : PG X tg (tgT X.K g)) (hs : swapsWithSole [tg] e pos.line X.env = pure false := by rfl) (hw : swappedStores [tg] e X.env = pure none := by rfl)
    (h1 : (assignEach [tg] X.env).map (·.2) = [assign tg X.env] := by rfl) : DS X ec W (.Assign [tg] e pos) (zPut g f1) := psImp (ps_asg he hg hs hw h1) fun D σ H ⟨r, F, F0, B, S, q⟩ => by
  refine ⟨r, F, F0, B, S, (Aft.soS (σ := σ) (h := q)).imp fun d r1 F1 H1 _ g1 S1 k v rv => ?_⟩
  match ep : g.put d r1 with
  | none => rw [ep] at k; exact False.elim k
  | some r2 =>
    rw [ep] at k
    exact put_ok S1 rv ep fun σ2 S2 _ => k σ2 F1 H1 (Same.refl _) S2
theorem ds_zfor {g : Tg} (hp : PassesOwn (model X.prog X.w) X.A X.env X.xe) (hc : X.calm = true) (hi : DIs X ec W tg iter l1) (hg : PG X tg (tgT X.K g)) (hb : DSs X ec W sts b) (hs : ∀ x, foldedSetIterable iter X.env x = pure x := by intro _; rfl) : DS X ec W (.For tg iter sts [] pos) (zFor l1 g b) :=
  psImp (ps_for hp hc hi hg hb hs) fun D σ H ⟨r, F, F0, B, S, q⟩ => ⟨r, F, F0, B, S, (Aft.soS (σ := σ) (h := q)).imp fun xs r1 F1 H1 _ g1 S1 k J hJ => loop_use hJ S1 k⟩
/-- x = [.. for .. in ..] -/
theorem ds_zownC {i : Nat} {y : Str} {py : Pos} {elt tg iter : Expr} {ifs : List Expr} {scope : Scope} {own : List (Str × Nat)} {spos : Pos} {g : Tg} {β : EB} {φ : ES D} {ι : ES (List D)} (hc : X.calm = true) (hN : X.N.Nodup) (hy : X.N[i]? = some y) (hyl : X.env.scope.names.lookup y = some .local)
    (hsw : swapsWith (.ListComp elt [⟨tg, iter, ifs, 0⟩] scope pos) (some (.Name y py)) spos.line X.env = pure true) (hi : DIs X ec W tg iter ι) (okB : BlkOk X.N X.env.scope scope own) (hv : own.map (·.2) = g.slots)
    (hg : ∀ (s : Shared) (H : Hp) (C : Addr) (cl : List (Str × Addr)) (fp : List Addr), PG (X.blk s H scope (compEnvC scope cl C X.env) fp) tg (tgT X.K g)) (ht : ∀ (s : Shared) (H : Hp) (C : Addr) (cl : List (Str × Addr)) (fp : List Addr), PTs (X.blk s H scope (compEnvC scope cl C X.env) fp) ifs (tT X.K ec W0 β))
    (he : ∀ (s : Shared) (H : Hp) (C : Addr) (cl : List (Str × Addr)) (fp : List Addr), DEs (X.blk s H scope (compEnvC scope cl C X.env) fp) ec W0 elt φ) (hs : ∀ x, foldedSetIterable iter X.env x = pure x := by intro _; rfl) :
    DS X ec W (.Assign [.Name y py] (.ListComp elt [⟨tg, iter, ifs, 0⟩] scope pos) spos) (zOwn i (wComp ι g β φ)) := psImp (ps_setLc hc hN hy hyl hsw hi okB hg ht he hs) fun D σ H h => by
  have h' := zown_use h
  exact lcs_use hv h'
/-- the same, the list a datum at once -/
theorem ds_zsetC {i : Nat} {y : Str} {py : Pos} {elt tg iter : Expr} {ifs : List Expr} {scope : Scope} {own : List (Str × Nat)} {spos : Pos} {g : Tg} {β : EB} {φ : ES D} {ι : ES (List D)} (hc : X.calm = true) (hN : X.N.Nodup) (hy : X.N[i]? = some y) (hyl : X.env.scope.names.lookup y = some .local)
    (hsw : swapsWith (.ListComp elt [⟨tg, iter, ifs, 0⟩] scope pos) (some (.Name y py)) spos.line X.env = pure true) (hi : DIs X ec W tg iter ι) (okB : BlkOk X.N X.env.scope scope own) (hv : own.map (·.2) = g.slots)
    (hg : ∀ (s : Shared) (H : Hp) (C : Addr) (cl : List (Str × Addr)) (fp : List Addr), PG (X.blk s H scope (compEnvC scope cl C X.env) fp) tg (tgT X.K g)) (ht : ∀ (s : Shared) (H : Hp) (C : Addr) (cl : List (Str × Addr)) (fp : List Addr), PTs (X.blk s H scope (compEnvC scope cl C X.env) fp) ifs (tT X.K ec W0 β))
    (he : ∀ (s : Shared) (H : Hp) (C : Addr) (cl : List (Str × Addr)) (fp : List Addr), DEs (X.blk s H scope (compEnvC scope cl C X.env) fp) ec W0 elt φ) (hs : ∀ x, foldedSetIterable iter X.env x = pure x := by intro _; rfl) :
    DS X ec W (.Assign [.Name y py] (.ListComp elt [⟨tg, iter, ifs, 0⟩] scope pos) spos) (zSet i (wL (wComp ι g β φ))) := psImp (ds_zownC (ι := ι) (φ := φ) (β := β) (W := W) hc hN hy hyl hsw hi okB hv hg ht he hs) fun D σ H ⟨r, F, F0, B, S, q⟩ => by
  refine ⟨r, F, F0, B, S, ?_⟩
  have q' : Aft X.K ec W F0 B F (soS (sb (wComp ι g β φ r) fun xs r1 => okS (PyData.list xs) r1) fun x r1 => some (.nx (r1.set i (.d x)))) D := q
  show Aft X.K ec W F0 B F (soS (wComp ι g β φ r) fun xs r1 => some (.nx (r1.set i (.own xs)))) D
  revert q'
  match wComp ι g β φ r with
  | none => exact fun z => z
  | some (.error _, _) => exact fun z => z
  | some (.ok xs, r1) =>
    intro z σ' F' H' sf S'
    by_cases hl : i < r1.length
    · have hi' : (r1.set i (.own xs))[i]? = some (.own xs) := List.getElem?_set_self hl
      obtain ⟨F2, s2, S2⟩ := S'.freeze hi'
      have e : (r1.set i (.own xs)).set i (.d (.list xs)) = r1.set i (.d (.list xs)) := by rw [List.set_set]
      rw [e] at S2
      exact z σ' F2 H' (sf.trans s2) S2
    · have e1 : r1.set i (.own xs) = r1 := List.set_eq_of_length_le (by omega)
      have e2 : r1.set i (Slot.d (.list xs)) = r1 := List.set_eq_of_length_le (by omega)
      rw [e1] at S'
      exact z σ' F' H' sf (by rw [e2]; exact S')
/-- a list that is known is changed -/
theorem SR.ioWrite {K : PySem.W.Frag} {F0 B : Hp} {r : Env} {σ : L2.St} {H F : Hp} (S : SR K F0 B r σ H F) {i : Nat} {xs ys : List D} {a : Addr} {us : List V} (hi : ioXs r i = some xs) (ha : σ[i]? = some (some (.ref a))) (h : RepL K F ys us) :
    SR K F0 B (ioSet r i ys) σ (upd H a (.lst us)) F := by
  obtain ⟨s, a', vs, k1, k2, _, _, _, _, k7⟩ := S.io_at hi
  rw [ha] at k2
  cases k2
  unfold ioSet
  rw [k1]
  rcases k7 with rfl | rfl
  · exact S.write k1 ha h
  · exact S.writeIo k1 ha h
theorem ds_zapp {i : Nat} {x : Str} {xp apos cpos : Pos} (hN : X.N[i]? = some x) (hv : Vis X.env.scope x) (ha : DEs X ec W e f1) (hd : (x == ("__debug__" : Str)) = false := by decide) (hcd : (x == ("__classdict__" : Str)) = false := by decide)
    (hs : swapsWith (.Call (.Attribute (.Name x xp) "append" apos) [e] [] cpos) none pos.line X.env = pure false := by rfl)
    (hbase : attributeBase (.Name x xp) "append" X.env (eval (.Name x xp) X.env) = eval (.Name x xp) X.env := by rfl)
    (hfew : ((backTo cpos (starEach [e] X.env)).all (fun x => !x.1) && (backToKw cpos (keywordEach [] X.env)).all (fun x => x.1.isSome)
      && decide ([e].length + ([] : List Keyword).length + (if ([] : List Keyword).isEmpty then 0 else 1) < 30)) = true := by rfl)
    (hline : (apos.endLine == cpos.line) = true := by rfl) (hst : starEach [e] X.env = (false, eval e X.env) :: starEach [] X.env := by rfl) (hplain : (backTo cpos (starEach [] X.env)).any (·.1) = false := by rfl) :
    DS X ec W (.Expr (.Call (.Attribute (.Name x xp) "append" apos) [e] [] cpos) pos) (zApp i f1) :=
  psImp (ps_expr (pe_bm PySem.F.plainAttrs_list PySem.F.slot_list_append PySem.F.type_list_append mt_append (pe_var hN hv hd hcd) (pa_cons ha pa_nil hst) hbase hfew hline hst hplain) hs) fun D σ H ⟨r, F, F0, B, S, q⟩ => by
    have q' : Aft X.K ec W F0 B F (match ioXs r i with
      | some _ => DL.soS (f1 r) fun x r1 => (match ioXs r1 i with
        | some xs => if xs.length < lim then some (.nx (ioSet r1 i (xs ++ [x]))) else none
        | none => none)
      | none => none) D := q
    cases ex : ioXs r i with
    | none => rw [ex] at q'; exact False.elim q'
    | some xs =>
      rw [ex] at q'
      obtain ⟨s, p, vs, k1, k2, k3, _⟩ := S.io_at ex
      refine ⟨.ref p, k2, .inl ⟨rfl, _, .inl (.inl k3)⟩, r, F, F0, B, S, (Aft.soS (σ := σ) (h := q')).imp fun d r1 F1 H1 _ g S1 k v rv => ?_⟩
      cases ex1 : ioXs r1 i with
      | none => rw [ex1] at k; exact False.elim k
      | some ys =>
        rw [ex1] at k
        obtain ⟨s', p', us, m1, m2, m3, m4, m5, m6, m7⟩ := S1.io_at ex1
        rw [k2] at m2
        cases m2
        have k' : Aft X.K ec W F0 B F1 (if ys.length < lim then some (.nx (ioSet r1 i (ys ++ [d]))) else none) D := k
        by_cases hl : ys.length < lim
        · rw [if_pos hl] at k'
          refine ⟨p, us, v, rfl, rfl, m3, by rw [m6.length]; exact lim_lt hl, ?_⟩
          exact k' σ F1 _ (Same.refl _) (S1.ioWrite ex1 k2 (m6.append ⟨v, [], rfl, rv, rfl⟩))
        · rw [if_neg hl] at k'
          exact False.elim k'
end
end DL
/-! A tuple so many times. -/
namespace DL
open PySem PySem.Spec PyProof.Rows L2
theorem o_repT {K : PySem.W.Frag} : Op2 K dRepT (rRepT K) := by
  intro x y d F H v u Q hf e rx ry k
  unfold dRepT at hf
  split at hf
  · rename_i xs i
    split at hf
    · rename_i hl
      cases hf
      obtain ⟨a, vs, rfl, h1, h2⟩ := rx
      have hne : vs ≠ [] := fun c => by
        have := h2.length
        rw [c] at this
        have h0 : xs = [] := List.eq_nil_of_length_eq_zero this.symm
        rw [h0] at hl
        exact absurd hl.1 (by decide)
      refine ⟨a, i, vs, rfl, ry, tupT e h1, hne, hl.2.1, hl.2.2.1, by rw [h2.length]; exact hl.2.2.2, fun p hp => ?_⟩
      have g' := Gr.new e hp (.tup (List.replicate i.toNat vs).flatten)
      refine k _ _ _ g' ⟨p, _, rfl, upd_same, RepL.mono g'.f ?_⟩
      generalize i.toNat = m
      induction m with
      | zero => exact (rfl : ([] : List V) = [])
      | succ m ih =>
        rw [List.replicate_succ, List.flatten_cons, List.replicate_succ, List.flatten_cons]
        exact h2.append ih
    · cases hf
  · cases hf
end DL
/-! own.pop(e), own.extend(e), min of a list. -/
namespace DL
open PySem PySem.Spec PyProof.Rows L2
theorem seqIx {j : Int} {n : Nat} (h0 : 0 ≤ j) (h : j < n) : seqIndex? j n = some j.toNat := by
  unfold seqIndex?
  have c : ¬ j < 0 := by omega
  simp [c, h0, h]
theorem RepL.erase {K : PySem.W.Frag} {F : Hp} : ∀ (n : Nat) {ds : List D} {vs : List V}, RepL K F ds vs → RepL K F (ds.eraseIdx n) (vs.eraseIdx n)
  | _, [], vs, h => by
    have h' : vs = [] := h
    rw [h']; exact (rfl : ([] : List V) = [])
  | 0, x :: ds, vs, ⟨v, r, q, h1, h2⟩ => by rw [q]; exact h2
  | n + 1, x :: ds, vs, ⟨v, r, q, h1, h2⟩ => by rw [q]; exact ⟨v, r.eraseIdx n, rfl, h1, RepL.erase n h2⟩
section
variable {X : Cx} {ec : EC} {W : WX} {e : Expr} {f1 : ES D} {ι : EL}
theorem des_pop {i : Nat} {x : Str} {xp apos cpos : Pos} (hN : X.N[i]? = some x) (hv : Vis X.env.scope x) (ha : DEs X ec W e f1) (hd : (x == ("__debug__" : Str)) = false := by decide) (hcd : (x == ("__classdict__" : Str)) = false := by decide)
    (hbase : attributeBase (.Name x xp) "pop" X.env (eval (.Name x xp) X.env) = eval (.Name x xp) X.env := by rfl)
    (hfew : ((backTo cpos (starEach [e] X.env)).all (fun x => !x.1) && (backToKw cpos (keywordEach [] X.env)).all (fun x => x.1.isSome)
      && decide ([e].length + ([] : List Keyword).length + (if ([] : List Keyword).isEmpty then 0 else 1) < 30)) = true := by rfl)
    (hline : (apos.endLine == cpos.line) = true := by rfl) (hst : starEach [e] X.env = (false, eval e X.env) :: starEach [] X.env := by rfl) (hplain : (backTo cpos (starEach [] X.env)).any (·.1) = false := by rfl) :
    DEs X ec W (.Call (.Attribute (.Name x xp) "pop" apos) [e] [] cpos) (wPop i f1) :=
  peImp (pe_bm PySem.F.plainAttrs_list PySem.F.slot_list_pop PySem.F.type_list_pop mt_popAt (pe_var hN hv hd hcd) (pa_cons ha pa_nil hst) hbase hfew hline hst hplain) fun σ H Q ⟨r, F, F0, B, S, q⟩ => by
    have q' : ThnS X.K ec W (match ioXs r i with | some _ => sb (f1 r) fun d r1 => (match d, ioXs r1 i with | .int j, some xs => if 0 ≤ j ∧ j < xs.length ∧ xs.length ≤ lim then (match xs[j.toNat]? with | some y => okS y (ioSet r1 i (xs.eraseIdx j.toNat)) | none => none) else none | _, _ => none) | none => none) σ F0 B F fun d _ F' H' => ∀ v, Rep X.K F' d v → Q v H' := q
    cases ex : ioXs r i with
    | none => rw [ex] at q'; exact False.elim q'
    | some xs =>
      rw [ex] at q'
      obtain ⟨s, p, vs, k1, k2, k3, _⟩ := S.io_at ex
      refine ⟨.ref p, k2, .inl ⟨rfl, _, .inl (.inl k3)⟩, r, F, F0, B, S, (ThnS.bind q').imp fun d r1 F1 H1 _ g S1 k v rv => ?_⟩
      cases d with
      | int j =>
        cases ex1 : ioXs r1 i with
        | none => rw [ex1] at k; exact False.elim k
        | some ys =>
          rw [ex1] at k
          obtain ⟨s', p', us, m1, m2, m3, m4, m5, m6, m7⟩ := S1.io_at ex1
          rw [k2] at m2
          cases m2
          have k' : ThnS X.K ec W (if 0 ≤ j ∧ j < ys.length ∧ ys.length ≤ lim then (match ys[j.toNat]? with | some y => okS y (ioSet r1 i (ys.eraseIdx j.toNat)) | none => none) else none) σ F0 B F1 fun d _ F' H' => ∀ v, Rep X.K F' d v → Q v H' := k
          split at k'
          · rename_i c
            have hlt : j.toNat < ys.length := by omega
            rw [List.getElem?_eq_getElem hlt] at k'
            obtain ⟨u, hu, ru⟩ := m6.get (List.getElem?_eq_getElem hlt)
            have hv' : v = .int j := rv
            subst hv'
            have hL : lim = 16777216 := rfl
            refine ⟨p, us, j, j.toNat, u, rfl, rfl, m3, by omega, by omega, by rw [m6.length]; exact seqIx c.1 c.2.1, hu, ?_⟩
            have S2 := S1.ioWrite ex1 k2 (RepL.erase j.toNat m6)
            exact k' F1 _ (Same.refl _) S2 u ru
          · exact False.elim k'
      | _ => exact False.elim k
/-- own.extend(.., a new list) -/
theorem ds_ext {i : Nat} {x : Str} {xp apos cpos pos : Pos} (hN : X.N[i]? = some x) (hv : Vis X.env.scope x) (ha : DLi X ec W e ι) (hd : (x == ("__debug__" : Str)) = false := by decide) (hcd : (x == ("__classdict__" : Str)) = false := by decide)
    (hs : swapsWith (.Call (.Attribute (.Name x xp) "extend" apos) [e] [] cpos) none pos.line X.env = pure false := by rfl)
    (hbase : attributeBase (.Name x xp) "extend" X.env (eval (.Name x xp) X.env) = eval (.Name x xp) X.env := by rfl)
    (hfew : ((backTo cpos (starEach [e] X.env)).all (fun x => !x.1) && (backToKw cpos (keywordEach [] X.env)).all (fun x => x.1.isSome)
      && decide ([e].length + ([] : List Keyword).length + (if ([] : List Keyword).isEmpty then 0 else 1) < 30)) = true := by rfl)
    (hline : (apos.endLine == cpos.line) = true := by rfl) (hst : starEach [e] X.env = (false, eval e X.env) :: starEach [] X.env := by rfl) (hplain : (backTo cpos (starEach [] X.env)).any (·.1) = false := by rfl) :
    DS X ec W (.Expr (.Call (.Attribute (.Name x xp) "extend" apos) [e] [] cpos) pos) (sExt i ι) :=
  psImp (ps_expr (pe_bm PySem.F.plainAttrs_list PySem.F.slot_list_extend PySem.F.type_list_extend mt_extend (pe_var hN hv hd hcd) (pa_cons ha pa_nil hst) hbase hfew hline hst hplain) hs) fun D σ H ⟨r, F, F0, B, S, q⟩ => by
    unfold sExt at q
    split at q
    · rename_i xs hi
      obtain ⟨y, h1, p, vs, rfl, h2, h3, h4, h5⟩ := S.ok i _ hi
      refine ⟨.ref p, h1, .inl ⟨rfl, _, .inl (.inl h2)⟩, r, F, F0, B, S, (Aft.so S q).imp fun ys F1 H1 _ g k b zs hb rz => ?_⟩
      by_cases hl : (xs ++ ys).length ≤ lim
      · rw [if_pos hl] at k
        have go := Gr.own g.i hb (.lst zs)
        have hp : upd H1 b (.lst zs) p = some (.lst vs) := go.h _ _ (g.h _ _ h2)
        refine ⟨p, b, vs, zs, rfl, rfl, hp, upd_same, ?_, ?_⟩
        · rw [h5.length, rz.length, sizeLine_eq, ← List.length_append]; exact hl
        · exact k σ F1 _ (Same.refl _) (((S.grow g).grow go).write hi h1 ((h5.mono g.f).append rz))
      · rw [if_neg hl] at k
        exact False.elim k
    · rename_i p xs hi
      obtain ⟨y, h1, vs, rfl, h2, h3, h4, h5⟩ := S.ok i _ hi
      refine ⟨.ref p, h1, .inl ⟨rfl, _, .inl (.inl h2)⟩, r, F, F0, B, S, (Aft.so S q).imp fun ys F1 H1 _ g k b zs hb rz => ?_⟩
      by_cases hl : (xs ++ ys).length ≤ lim
      · rw [if_pos hl] at k
        have go := Gr.own g.i hb (.lst zs)
        have hp : upd H1 b (.lst zs) p = some (.lst vs) := go.h _ _ (g.h _ _ h2)
        refine ⟨p, b, vs, zs, rfl, rfl, hp, upd_same, ?_, ?_⟩
        · rw [h5.length, rz.length, sizeLine_eq, ← List.length_append]; exact hl
        · exact k σ F1 _ (Same.refl _) (((S.grow g).grow go).writeIo hi h1 ((h5.mono g.f).append rz))
      · rw [if_neg hl] at k
        exact False.elim k
    · exact False.elim q
end
section
variable {X : Cx} {ec : EC} {W : WX} {e : Expr} {pos : Pos} {f1 : ES D}
/-- -a, a changing own lists -/
theorem des_un {op : UnaryOp} {t : V → Hp → VK → Prop} {f : D → Option D} (ho : UnR X (unaryOp op) t) (hs : Op1 X.K f t) (ha : DEs X ec W e f1) : DEs X ec W (.UnaryOp op e pos) (DL.w1 f f1) := peImp (pe_un ho ha) fun σ H Q ⟨r, F, F0, B, S, q⟩ => by
  refine ⟨r, F, F0, B, S, (ThnS.bind q).imp fun x r1 F1 H1 _ g1 S1 h1 v rv => ?_⟩
  obtain ⟨d, ed, k⟩ := (h1.up S1).po
  exact hs x d F1 H1 v _ ed S1.sub (rv.x S1.sub) fun w F' H' g' rw' => k F' H' g' w rw'
end
end DL
/-! Own errors: raise, try. -/
namespace DL
open PySem PySem.Spec PyProof.Rows L2

/-- an own class of errors without an __init__ of its own -/
def errF (K : PySem.W.Frag) (C : Addr) : Bool := PySem.W.excIn K C [.type "ValueError", .type "Exception", .type "BaseException", .type "object"] "ValueError.__new__" && (PySem.W.keepIn K (.ref C) && (decide (PySem.W.subIn K (.ref C) (.type "BaseException") = some true) && decide (PySem.W.typeIn K (.ref C) = some (.type "type"))))
structure ErrC (K : PySem.W.Frag) (mg : Str → Option Value) (ec : EC) (c : String) : Prop where
  g : mg (PySem.Str.ofString c) = some (.ref (ec c))
  f : errF K (ec c) = true
section
variable {X : Cx} {ec : EC} {W : WX}
theorem ds_raise {c : String} {m : Str} {j : Nat} {p p2 pos' pos : Pos} (hc : X.calm = true) (tk : Takes X W) (T : ErrC X.K X.mg ec c) (hg : Gl X (PySem.Str.ofString c)) (hdb : ((PySem.Str.ofString c) == ("__debug__" : Str)) = false := by decide +kernel) :
    DS X ec W (.Raise (some (.Call (.Name (PySem.Str.ofString c) p) [.Constant (.str m) j p2] [] pos')) none pos) (sErr c) := by
  have f := T.f
  unfold errF at f
  rw [Bool.and_eq_true, Bool.and_eq_true, Bool.and_eq_true, decide_eq_true_eq, decide_eq_true_eq] at f
  exact psImp (ps_raise hc tk (pmk_own PySem.F.excBase_ValueError f.1 T.g f.2.1 (raises_own f.2.2.1 f.2.2.2) hg hdb)) fun D σ H ⟨r, F, F0, B, S, q⟩ => q none σ F H (Same.refl _) S rfl
/-- the clauses -/
inductive HdsD (X : Cx) (ec : EC) (W : WX) : List ExceptHandler → List (String × SX) → Prop
  | nil : HdsD X ec W [] []
  | cons {c : String} {b₀ : Stmt} {suite : List Stmt} {np pos' : Pos} {hds : List ExceptHandler} {b : SX} {l : List (String × SX)} (hc : Names X (PySem.Str.ofString c) (.ref (ec c)))
      (hs : ∀ (a : Addr) (pn : List (Addr × Obj)), DSs (X.suite a pn) ec W (b₀ :: suite) b) (r : HdsD X ec W hds l) : HdsD X ec W (.ExceptHandler (some (.Name (PySem.Str.ofString c) np)) none (b₀ :: suite) pos' :: hds) ((c, b) :: l)
abbrev hdL (K : PySem.W.Frag) (ec : EC) (W : WX) (l : List (String × SX)) : List (Value × (Addr → Value → Option Addr → TS)) := l.map fun x => (.ref (ec x.1), fun _ _ _ => tS K ec W x.2)
theorem hds_ok {hds : List ExceptHandler} {l : List (String × SX)} (h : HdsD X ec W hds l) : HdsOk X hds (hdL X.K ec W l) := by
  induction h with
  | nil => exact .nil
  | cons hc hs r ih => exact .cons hc (fun a oe cls d pn _ _ => hs a _) ih
/-- what tab tells of the classes -/
def TabT (K : PySem.W.Frag) (ec : EC) (tab : List ((String × String) × Bool)) : Prop := ∀ a c b, tab.lookup (a, c) = some b → PySem.W.exmOne K (.ref (ec a)) (.ref (ec c)) = some b
theorem pick_use {tab : List ((String × String) × Bool)} (T : TabT X.K ec tab) {e : Err} {r : Env} {F0 B F : Hp} {D : Ends} : ∀ {l : List (String × SX)}, Aft X.K ec W F0 B F (pickH tab e r l) D →
    ∀ dx σ' F' H', Same F F' → SR X.K F0 B r σ' H' F' → ErrOk X.K F' H' e dx → wMany X.K W D (hdL X.K ec W l) (.ref (ec e.cls)) dx σ' H'
  | [], q, dx, σ', F', H', sf, S, he => q dx σ' F' H' sf S he
  | (c, b) :: l, q, dx, σ', F', H', sf, S, he => by
    unfold pickH at q
    cases hl : tab.lookup (e.cls, c) with
    | none => rw [hl] at q; exact False.elim q
    | some k =>
      rw [hl] at q
      refine ⟨k, T _ _ _ hl, fun hk a _ => ?_, fun hk => ?_⟩
      · subst hk
        exact ⟨r, F', F0, B, S, Aft.mono sf q⟩
      · subst hk
        exact pick_use T (Aft.mono sf q) dx σ' F' H' (Same.refl _) S he
theorem ds_try {body : List Stmt} {h₀ : ExceptHandler} {hds : List ExceptHandler} {pos : Pos} {a : SX} {l : List (String × SX)} {tab : List ((String × String) × Bool)} (hs : X.stack = X.env :: X.outer) (hf : X.env.frame = some X.env.locals) (tk : Takes X W) (T : TabT X.K ec tab)
    (hb : ∀ (W' : WX) (pn : List (Addr × Obj)) (xe : Value → Shared → Prop), Takes (X.tr pn xe) W' → PassesOwn (model X.prog X.w) X.A X.env xe → DSs (X.tr pn xe) ec W' body a) (hh : HdsD X ec W (h₀ :: hds) l) :
    DS X ec W (.Try body (h₀ :: hds) [] [] pos) (sTry tab a l) := psImp (ps_try_many hs hf tk (tb := fun W' => tS X.K ec W' a) hb (hds_ok hh)) fun D σ H ⟨r, F, F0, B, S, q⟩ => by
  refine ⟨r, F, F0, B, S, ?_⟩
  have q' : Aft X.K ec W F0 B F (match a r with | some (.er e r1) => pickH tab e r1 l | o => o) D := q
  revert q'
  match a r with
  | none => exact fun z => z
  | some (.nx r1) => exact fun z => z
  | some (.bk r1) => exact fun z => z
  | some (.ct r1) => exact fun z => z
  | some (.ro i r1) => exact fun z => z
  | some (.ri d r1) => exact fun z => z
  | some (.rl xs) => exact fun z => z
  | some (.rt d) => exact fun z => z
  | some (.er e r1) => exact fun z => pick_use T z
end
/-- the classes' places by their names -/
def ecL (l : List (String × Addr)) : EC := fun y => (l.lookup y).getD 0
theorem tabT_nil {K : PySem.W.Frag} {ec : EC} : TabT K ec [] := fun _ _ _ h => nomatch h
theorem tabT_cons {K : PySem.W.Frag} {ec : EC} {a c : String} {b : Bool} {tab : List ((String × String) × Bool)} (h : PySem.W.exmOne K (.ref (ec a)) (.ref (ec c)) = some b) (T : TabT K ec tab) : TabT K ec (((a, c), b) :: tab) := fun a' c' b' e => by
  rw [List.lookup_cons] at e
  split at e
  · rename_i q
    have q' : (a', c') = (a, c) := by simpa using q
    cases q'
    cases e
    exact h
  · exact T _ _ _ e
end DL
/-! enumerate over a tuple or a list. -/
namespace DL
open PySem PySem.Spec PyProof.Rows L2
open AutoSeq1 (wpAny_loadPart')

theorem new_enumT (l : Addr) (items : Array Value) (n : Nat) (dct : Option Addr) (sl : Array (Option Value)) :
    Meets (Builtin.«enumerate.__new__» ⟨[.type "enumerate", .ref l], []⟩) (fun _ R s => s.heap.get? l = some { cls := .type "tuple", dict := dct, data := .seq items n, slots := sl } ∧
      R (.ok (.ret (.ref (s.heap.push { cls := .type "tuple_iterator", data := .fields #[.ref l, .int 0 0] }).objs.size)))
        { s with heap := (s.heap.push { cls := .type "tuple_iterator", data := .fields #[.ref l, .int 0 0] }).push { cls := .type "enumerate", data := .fields #[.none, .bool false, .ref s.heap.objs.size, rawInt 0, .none, .none] } }) :=
  .of_wp fun prog w A R s h => by
    obtain ⟨hp, g, d, tk, os⟩ := s; obtain ⟨hl, h⟩ := h
    have hsub := sub_enumerate
    have hL : Heap.IsTuple (Shared.heap ⟨hp, g, d, tk, os⟩) l items := ⟨_, hl, rfl, n, rfl⟩
    wp_walk using wpAny_loadPart' hl
    refine wpAny_stack_any fun st => wpAny_pure ?_
    split
    · rename_i c _ _ _ _ _
      cases (c == Value.type "enumerate")
      · wp_walk using wpAny_loadPart' hl, wpAny_pyIter_tuple hL
        exact ⟨_, rfl, h⟩
      · wp_walk using wpAny_loadPart' hl, wpAny_pyIter_tuple hL
        exact ⟨_, rfl, h⟩
    · wp_walk using wpAny_loadPart' hl, wpAny_pyIter_tuple hL
      exact ⟨_, rfl, h⟩
theorem call_enumT {prog : Program} {w : World} {A : Around} {E : Value → Shared → Prop} {s : Shared} {l : Addr} {items : Array Value} {Q : Value → Shared → Prop} (hL : s.heap.IsTuple l items)
    (h : ∀ h', IsEnum h' (s.heap.objs.size + 1) s.heap.objs.size 0 .none → h'.IsTupleIter s.heap.objs.size l 0 → h'.objs.size = s.heap.objs.size + 2 →
      (∀ b o, s.heap.get? b = some o → h'.get? b = some o) → Q (.ref (s.heap.objs.size + 1)) { s with heap := h' }) :
    wpAny (model prog w) A (call (.type "enumerate") [.ref l]) Q E s := by
  obtain ⟨⟨c, dct, dt, sl⟩, hl, hc, n, hd⟩ := hL
  replace hc : c = .type "tuple" := hc
  replace hd : dt = .seq items n := hd
  subst hc hd
  refine callType_new PySem.F.called_enumerate (by decide) (PySem.F.typeCall_enumerate_1 _) (PySem.F.newCall_enumerate_1 _) (fun obj => PySem.F.args_object_init_2 obj _) PySem.F.entry_enumerate_new
    (new_enumT l items n dct sl) ⟨hl, ?_⟩
  have hz : (s.heap.push { cls := .type "tuple_iterator", data := .fields #[.ref l, .int 0 0] }).objs.size = s.heap.objs.size + 1 := Heap.size_push ..
  show _ ∧ _
  rw [hz]
  have he : IsEnum ((s.heap.push { cls := .type "tuple_iterator", data := .fields #[.ref l, .int 0 0] }).push
      { cls := .type "enumerate", data := .fields #[.none, .bool false, .ref s.heap.objs.size, rawInt 0, .none, .none] }) (s.heap.objs.size + 1) s.heap.objs.size 0 .none := by
    have := Heap.get?_push_size (s.heap.push { cls := .type "tuple_iterator", data := .fields #[.ref l, .int 0 0] })
      (o := { cls := .type "enumerate", data := .fields #[.none, .bool false, .ref s.heap.objs.size, rawInt 0, .none, .none] }) rfl
    rw [hz] at this; exact this
  refine ⟨⟨_, he, rfl⟩, h _ he ⟨_, Heap.get?_push_of_some _ (Heap.get?_push_size _ rfl), rfl, rfl⟩ (by rw [Heap.size_push, hz]) fun b o x => Heap.get?_push_of_some _ (Heap.get?_push_of_some _ x)⟩
/-- the tuple at a, each item in a new pair -/
def ItE (K : PySem.W.Frag) (a : Addr) : It :=
  ⟨fun i H => ∃ (xs : List V) (x : V), SqT K H a xs ∧ xs[i]? = some x, fun i H v H' => ∃ T x, v = .ref T ∧ H T = none ∧ H' = upd H T (.tup [.int (i : Nat), x]) ∧ ∀ xs, SqT K H a xs → xs[i]? = some x, fun i H => ∃ xs : List V, SqT K H a xs ∧ xs.length = i⟩
theorem turn_enumT {P : Program} {w : World} {K : PySem.W.Frag} {elts : List Expr} {kk : Nat} {tpos : Pos} (a e it : Addr) (hai : a ≠ it) (hae : a ≠ e) :
    Turn P w K (.Tuple elts kk tpos) (ItE K a) [e, it] e (fun i h => (∃ old, IsEnum h e it ((i : Nat) : Int) old) ∧ h.IsTupleIter it a i ∧ e ≠ it) where
  mem := by simp
  obj := fun i h st b hb => by
    obtain ⟨⟨old, he⟩, ⟨o, ho, hc, hd⟩, _⟩ := st
    have e' : b = e ∨ b = it := by simpa using hb
    rcases e' with z | z
    · rw [z]; exact ⟨_, he, fun v q => nomatch q⟩
    · rw [z]; exact ⟨o, ho, fun v q => by rw [hd] at q; cases q⟩
  keep := fun i h h' st k => let ⟨⟨old, he⟩, hi, hne⟩ := st; ⟨⟨old, k e (by simp) _ he⟩, hi.at fun o q => k it (by simp) o q, hne⟩
  item := by
    intro X hP hw hK hc i pins s σ H E I hf st hg
    subst hP hw hK
    obtain ⟨⟨old, he⟩, hit, hne⟩ := st
    obtain ⟨xs, x, hq, hx⟩ := hg
    obtain ⟨its, rv, p, hz⟩ := I.tuple hq
    obtain ⟨u, hu, ru⟩ := rv.get hx
    have hel : e < s.heap.objs.size := Heap.lt_size he
    have hil : it < s.heap.objs.size := by obtain ⟨_, q, _⟩ := hit; exact Heap.lt_size q
    have hT : s.heap.IsTuple a its.toArray := p
    have hlt : i < its.toArray.size := by
      have := (List.getElem?_eq_some_iff.mp hu).1
      simpa using this
    refine wpAny_pyNext_enum_itemD (Draws.tuple (A := X.A.in1) (show X.A.in1.handled = none from I.ok.hd hc) it a hai its.toArray) he ⟨hit, hT⟩ hlt hne (by simp [hne, Ne.symm hae]) fun x' h' tk hPx ho hst hT2 hsz hk => ?_
    have hxu : x' = u := by
      have h1 : its.toArray[i]? = some x' := hPx
      have h2 : its.toArray[i]? = some u := by simpa using hu
      rw [h1] at h2
      exact Option.some.inj h2
    subst hxu
    refine ⟨_, rfl, wpAny_letOwnedTupleGo_enum (s := { s with heap := h', toks := tk + 1 }) ho fun h'' he' sb => ?_⟩
    have hT3 : h''.get? s.heap.objs.size = some { cls := .type "tuple", data := .seq #[.int i tk, x'] } := (sb.2 _ (Nat.ne_of_gt hel)).trans hT2
    have new : ObjOk X.prog X.w (upd H s.heap.objs.size (.tup [.int (i : Nat), x])) h'' s.heap.objs.size (.tup [.int (i : Nat), x]) :=
      ⟨by show 2 ≤ sizeLine; decide, [.int i tk, x'], .cons ⟨_, rfl⟩ (.cons ru .nil), ⟨_, hT3, rfl, _, rfl⟩⟩
    have I1 : Inv X pins σ (upd H s.heap.objs.size (.tup [.int (i : Nat), x])) { s with heap := h'', toks := tk + 1 } :=
      I.turnedNew (ch := [e, it]) (fun b ob hb q => (sb.2 b (fun z => hb (by simp [z]))).trans (hk b ob (fun z => hb (by simp [z])) (fun z => hb (by simp [z])) q)) hf (Nat.le_refl _) new
    refine ⟨.ref s.heap.objs.size, _, I1, rfl, ⟨_, x, rfl, I.hok.fresh (Nat.le_refl _), rfl, fun ys hy => by rw [I.tuple_inj hy hq]; exact hx⟩, ⟨⟨x', ?_⟩, hst.1.at fun o q => (sb.2 it (Ne.symm hne)).trans q, hne⟩, fun b hb => ?_⟩
    · have e1 : ((i + 1 : Nat) : Int) = (i : Int) + 1 := by omega
      rw [e1]; exact he'
    · have hb' : b < s.heap.objs.size := by
        have e' : b = e ∨ b = it := by simpa using hb
        rcases e' with z | z
        · rw [z]; exact hel
        · rw [z]; exact hil
      rw [upd_ne (Nat.ne_of_lt hb')]
      exact (hf b hb).1
  done := by
    intro X hP hw hK hc i pins s σ H E I hf st hg
    subst hP hw hK
    obtain ⟨⟨old, he⟩, hit, hne⟩ := st
    obtain ⟨xs, hq, hx⟩ := hg
    obtain ⟨its, rv, p, hz⟩ := I.tuple hq
    obtain ⟨f0, f1, f2, f3, f4, f5⟩ := hf it (by simp)
    have hl := rv.length
    have hT : s.heap.IsTuple a its.toArray := p
    have hn : its.toArray.size = i := by rw [List.size_toArray, ← hl, hx]
    subst hn
    exact wpAny_pyNext_enum_endD (Draws.tuple (A := X.A.in1) (show X.A.in1.handled = none from I.ok.hd hc) it a hai its.toArray) he ⟨hit, hT⟩ fun h' eb => ⟨rfl, I.turned (t' := s.toks) (fun b o hb q => eb b o hb q) f0 f1 f3 f4 f5⟩
  self := fun A i s Q E st h => let ⟨⟨_, he⟩, _⟩ := st; wpAny_pyIter_enum he h
theorem walk_enumT {K : PySem.W.Frag} {a : Addr} {xs : List V} : Walk (ItE K a) xs.length (fun H => SqT K H a xs) (YPair (fun i => some (.int (i : Nat))) (fun i => xs[i]?)) := by
  refine ⟨fun i _ hi q => ⟨xs, xs[i], q, by simp [hi]⟩, fun _ q => ⟨xs, q, rfl⟩, fun i H v H' _ q y => ?_⟩
  obtain ⟨T, x, h1, h2, h3, h4⟩ := y
  exact ⟨T, .int (i : Nat), x, h1, h2, h3, rfl, h4 xs q⟩
theorem enumL_at : ∀ (xs : List DL.D) (k i : Nat) (d : DL.D), (enumL k xs)[i]? = some d → ∃ x, xs[i]? = some x ∧ d = .tuple [.int ((k + i : Nat) : Int), x]
  | [], _, _, _, h => nomatch h
  | x :: xs, k, 0, d, h => ⟨x, rfl, by cases h; rfl⟩
  | x :: xs, k, i + 1, d, h => by
    obtain ⟨y, h1, h2⟩ := enumL_at xs (k + 1) i d h
    exact ⟨y, h1, by rw [h2, show k + 1 + i = k + (i + 1) by omega]⟩
theorem enumL_len : ∀ (xs : List DL.D) (k : Nat), (enumL k xs).length = xs.length
  | [], _ => rfl
  | x :: xs, k => by rw [enumL, List.length_cons, List.length_cons, enumL_len xs]
/-- pairs of a number and an item -/
theorem pair_use {K : PySem.W.Frag} {Bh Fb : Hp} {J : It} {xs : List DL.D} {vs : List V} {G : Hp → Prop} (w : Walk J vs.length G (YPair (fun i => some (.int (i : Nat))) (fun i => vs[i]?))) (hG : ∀ H, Same Bh H → G H) (hr : RepL K Fb xs vs) : IterOk K Bh Fb J (enumL 0 xs) := by
  refine ⟨G, _, (by rw [enumL_len, ← hr.length] at *; exact w), hG, fun i d H x H' F hd _ f e y => ?_⟩
  obtain ⟨T, p, q, rfl, hT, rfl, hp, hq⟩ := y
  obtain ⟨z, hz, rfl⟩ := enumL_at xs 0 i d hd
  obtain ⟨v, h1, h2⟩ := hr.get hz
  have hq' : vs[i]? = some q := hq
  have hp' : some (V.int (i : Nat)) = some p := hp
  rw [h1] at hq'
  cases hq'
  cases hp'
  have g := Gr.new e hT (.tup [.int (i : Nat), q])
  refine ⟨_, g, T, _, rfl, upd_same, .int (i : Nat), [q], rfl, ?_, q, [], rfl, (h2.mono f).mono g.f, rfl⟩
  show V.int (i : Nat) = V.int ((0 + i : Nat) : Int)
  rw [Nat.zero_add]
def iEnumS (K : PySem.W.Frag) (ta : TA) : TI := fun σ H R => ta σ H fun vs H1 => ∃ a, vs = [.ref a] ∧ ((∃ xs, SqL K H1 a xs ∧ R (Ite K a) H1) ∨ ∃ xs, SqT K H1 a xs ∧ R (ItE K a) H1)
theorem pi_enumS {X : Cx} {e : Expr} {ta : TA} {p pos tpos : Pos} {elts : List Expr} {kk : Nat} (hg : Gl X "enumerate") (hm : X.mg "enumerate" = none) (ha : PA X [e] ta) (hs : starEach [e] X.env = [(false, eval e X.env)] := by rfl) :
    PI X (.Tuple elts kk tpos) (.Call (.Name "enumerate" p) [e] [] pos) (iEnumS X.K ta) := by
  refine ⟨fun pins s σ H R I h => ?_⟩
  refine Call_ (ld_blt I hg hm boot_enumerate (PyProof.Rows.callWith_type1 (thn (ha.run pos pins s σ H _ I h) fun us s1 ⟨vs, H1, I1, r1, q1⟩ => ?_) hs rfl))
  obtain ⟨a, ex, q⟩ := q1
  subst ex
  cases r1 with
  | cons r rr =>
    cases rr
    cases r
    have near : ∀ b, b ∈ [s1.heap.objs.size + 1, s1.heap.objs.size] → s1.heap.objs.size ≤ b := fun b hb => by
      have e' : b = s1.heap.objs.size + 1 ∨ b = s1.heap.objs.size := by simpa using hb
      rcases e' with z | z
      · rw [z]; exact Nat.le_add_right _ _
      · rw [z]; exact Nat.le_refl _
    rcases q with ⟨xs, hq, q⟩ | ⟨xs, hq, q⟩
    · obtain ⟨its, rv, p', hz⟩ := I1.list hq
      refine call_enumerate_list p'.isList fun h' he hit hsz hk => wpAny_pyIter_enum he ?_
      have I2 : Inv X pins σ H1 { s1 with heap := h' } := I1.kept (t' := s1.toks) hk
      exact ⟨s1.heap.objs.size + 1, [s1.heap.objs.size + 1, s1.heap.objs.size], _, _, H1, rfl, I2, turn_enum a (s1.heap.objs.size + 1) s1.heap.objs.size, ⟨⟨.none, he⟩, hit, Nat.succ_ne_self _⟩, fun b hb => I1.fpOk (near b hb) (I1.hok.fresh (near b hb)), q⟩
    · obtain ⟨its, rv, p', hz⟩ := I1.tuple hq
      have hT : s1.heap.IsTuple a its.toArray := p'
      have ha : a < s1.heap.objs.size := by obtain ⟨o, ho, _⟩ := hT; exact Heap.lt_size ho
      refine call_enumT hT fun h' he hit hsz hk => wpAny_pyIter_enum he ?_
      have I2 : Inv X pins σ H1 { s1 with heap := h' } := I1.kept (t' := s1.toks) hk
      exact ⟨s1.heap.objs.size + 1, [s1.heap.objs.size + 1, s1.heap.objs.size], _, _, H1, rfl, I2, turn_enumT a (s1.heap.objs.size + 1) s1.heap.objs.size (Nat.ne_of_lt ha) (Nat.ne_of_lt (Nat.lt_succ_of_lt ha)), ⟨⟨.none, he⟩, hit, Nat.succ_ne_self _⟩, fun b hb => I1.fpOk (near b hb) (I1.hok.fresh (near b hb)), q⟩
section
variable {X : Cx} {ec : EC} {W : WX} {e : Expr} {pos p tpos : Pos} {elts : List Expr} {kk : Nat} {φ : EX}
theorem pa1D (ha : DE X ec W e φ) (hs : starEach [e] X.env = (false, eval e X.env) :: starEach [] X.env := by rfl) : PA X [e] (fun σ H Q => ∃ r F F0 B, SR X.K F0 B r σ H F ∧ Thn X.K ec W (φ r) σ F H fun d F' H' => ∀ v, Rep X.K F' d v → Q [v] H') := paImp (pa_cons ha pa_nil hs) fun σ H Q ⟨r, F, F0, B, S, q⟩ => ⟨r, F, F0, B, S, q⟩
theorem di_enum (hg : Gl X "enumerate") (hm : X.mg "enumerate" = none) (ha : DE X ec W e φ) (hs : starEach [e] X.env = [(false, eval e X.env)] := by rfl) : DI X ec W (.Tuple elts kk tpos) (.Call (.Name "enumerate" p) [e] [] pos) (iEnumE φ) :=
  piImp (pi_enumS hg hm (pa1D ha hs) hs) fun σ H R ⟨r, F, F0, B, S, q⟩ => by
    refine ⟨r, F, F0, B, S, (Thn.bind q).imp fun x F1 H1 _ g1 h1 v rv => ?_⟩
    obtain ⟨xs, ex, k⟩ := h1.po
    have k' := k F1 H1 (Gr.refl g1.i)
    cases x with
    | list ys =>
      have ex' : enumL 0 ys = xs := Option.some.inj ex
      subst ex'
      obtain ⟨a, vs, rfl, h2, h3⟩ := rv
      exact ⟨a, rfl, .inl ⟨vs, g1.i.seq h2, k' _ (pair_use (walk_enum (xs := vs)) (fun H q => q.seq h2) h3)⟩⟩
    | tuple ys =>
      have ex' : enumL 0 ys = xs := Option.some.inj ex
      subst ex'
      obtain ⟨a, vs, rfl, h2, h3⟩ := rv
      exact ⟨a, rfl, .inr ⟨vs, tupT g1.i h2, k' _ (pair_use (walk_enumT (xs := vs)) (fun H q => tupT q h2) h3)⟩⟩
    | _ => cases ex
end
end DL
/-! max of a list; calls by names; range with a step. -/
namespace DL
open PySem PySem.Spec PyProof.Rows L2

theorem nums_rep {K : PySem.W.Frag} {F : Hp} : ∀ {xs : List DL.D} {ns : List Int} {vs : List V}, DL.numsOf xs = some ns → RepL K F xs vs → vs = ns.map V.int ∧ xs = ns.map PyData.int
  | [], ns, vs, h, r => by
    have h' : some ([] : List Int) = some ns := h
    cases h'
    have r' : vs = [] := r
    exact ⟨r', rfl⟩
  | x :: xs, ns, vs, h, r => by
    cases x with
    | int i =>
      obtain ⟨ms, e1, e2⟩ := Option.map_eq_some_iff.mp (show (DL.numsOf xs).map (i :: ·) = some ns from h)
      obtain ⟨v, t, rfl, h1, h2⟩ := r
      obtain ⟨g1, g2⟩ := nums_rep e1 h2
      have h1' : v = V.int i := h1
      subst e2
      exact ⟨by rw [h1', g1]; rfl, by rw [g2]; rfl⟩
    | _ => cases h
theorem fold_max : ∀ (ns : List Int) (n : Int), (ns.foldl max n = n ∨ ns.foldl max n ∈ ns) ∧ n ≤ ns.foldl max n ∧ ∀ y ∈ ns, y ≤ ns.foldl max n
  | [], n => ⟨.inl rfl, Int.le_refl _, fun y h => (nomatch h)⟩
  | x :: ns, n => by
    obtain ⟨h1, h2, h3⟩ := fold_max ns (max n x)
    rw [List.foldl_cons]
    refine ⟨?_, Int.le_trans (Int.le_max_left n x) h2, fun y hy => ?_⟩
    · rcases h1 with h1 | h1
      · rw [h1]
        by_cases c : n ≤ x
        · right; rw [Int.max_eq_right c]; exact List.mem_cons_self
        · left; exact Int.max_eq_left (by omega)
      · exact .inr (List.mem_cons_of_mem _ h1)
    · rcases List.mem_cons.mp hy with e | hy
      · rw [e]; exact Int.le_trans (Int.le_max_right n x) h2
      · exact h3 y hy
theorem b_maxL {K : PySem.W.Frag} : B1 K dMaxL (L2.rMax K) := by
  intro x d F H v Q hf e rx k
  unfold dMaxL at hf
  split at hf
  · rename_i xs
    split at hf
    · rename_i n ns hn
      cases hf
      obtain ⟨a, vs, rfl, h1, h2⟩ := rx
      obtain ⟨g1, _⟩ := nums_rep hn h2
      subst g1
      refine ⟨a, n :: ns, rfl, h1, Nat.succ_pos _, fun m hm hu => ?_⟩
      obtain ⟨f1, f2, f3⟩ := fold_max ns n
      have em : m = ns.foldl max n := by
        apply Int.le_antisymm
        · rcases List.mem_cons.mp hm with e | hm
          · rw [e]; exact f2
          · exact f3 m hm
        · rcases f1 with f1 | f1
          · rw [f1]; exact hu n List.mem_cons_self
          · exact hu _ (List.mem_cons_of_mem _ f1)
      rw [em]
      exact k _ F H (Gr.refl e) rfl
    · cases hf
  · cases hf
/-! ### max(.., default=..) -/
def rMaxDf (K : PySem.W.Frag) (d : Int) : List V → List V → Hp → VK → Prop := fun vs zs H Q => ∃ (a : Addr) (ns : List Int), vs = [V.ref a] ∧ zs = [V.int d] ∧ SqL K H a (ns.map V.int) ∧ Q (.int (match ns with | [] => d | n :: r => r.foldl max n)) H
theorem ints_reads {h : Heap} : ∀ {ns : List Int} {us : List Value}, Vals (ns.map V.int) us → ReadsAll h us (ns.map PyData.int) []
  | [], _, .nil => .nil
  | n :: ns, _, .cons r t => by
    obtain ⟨tk, rfl⟩ := r
    exact ReadsAll.cons (as := []) (bs := []) (Reads.int n tk) (ints_reads t)
theorem ints_depth : ∀ ns : List Int, PyData.depthAll (ns.map PyData.int) ≤ 1
  | [] => Nat.zero_le _
  | n :: ns => by
    have ih := ints_depth ns
    rw [List.map_cons]
    unfold PyData.depthAll
    have : (PyData.int n).depth ≤ 1 := by simp [PyData.depth]
    omega
theorem cr_maxDf {X : Cx} {d : Int} (hc : X.calm = true) (hu : X.A.units + 65 < cLine) : CallRK X (.builtin "max") [Str.ofString "default"] (rMaxDf X.K d) := by
  intro pins s σ H vs zs us ws Q I r rz h
  obtain ⟨a, ns, rfl, rfl, hs, q⟩ := h
  obtain rfl := Vals.ref1 r
  obtain ⟨its, rv, hl, _⟩ := I.list hs
  cases rz with
  | cons r1 r2 =>
    cases r2
    obtain ⟨tk, rfl⟩ := r1
    have hr : ReadsAll s.heap its.toArray.toList (ns.map PyData.int) [] := by simpa using ints_reads (h := s.heap) rv
    have isI : ∀ x ∈ ns.map PyData.int, ∃ i, x = .int i := fun x hx => by
      obtain ⟨i, _, e⟩ := List.mem_map.mp hx
      exact ⟨i, e.symm⟩
    have ha : PySem.W.AlikeAll (ns.map PyData.int) := ⟨fun x hx y hy => by
      obtain ⟨i, rfl⟩ := isI x hx
      obtain ⟨j, rfl⟩ := isI y hy
      rfl, fun x hx => by
      obtain ⟨i, rfl⟩ := isI x hx
      simp⟩
    have hd : PyData.depthAll (ns.map PyData.int) ≤ 1 := by
      exact ints_depth ns
    refine PySem.W.max_list_default (I.ok.hd hc) hl.isList hr ha (by omega) (fun e h' tk' hk => ?_) fun y ys i v h' tk' bs e hv hrd hk => ?_
    · have en : ns = [] := by cases ns with | nil => rfl | cons => cases e
      subst en
      exact ⟨.int d, H, I.kept hk, ⟨_, rfl⟩, q⟩
    · cases ns with
      | nil => cases e
      | cons n r =>
        have e1 : y = .int n := by cases e; rfl
        have e2 : ys = r.map PyData.int := by cases e; rfl
        subst e1 e2
        rw [PySem.W.maxD_ints] at hrd
        cases hrd with
        | int _ t => exact ⟨.int _, H, I.kept hk, ⟨t, rfl⟩, q⟩
section
variable {X : Cx} {ec : EC} {W : WX} {e : Expr} {pos p p2 kpos : Pos} {φ : EX}
theorem de_maxdef {d : Int} {j : Nat} (hc : X.calm = true) (hu : X.A.units + 65 < cLine) (hg : Gl X "max") (hm : X.mg "max" = none) (ha : DX X ec W e φ)
    (hb : bootBuiltins "max" = some (.builtin "max") := by decide +kernel) (hs : starEach [e] X.env = (false, eval e X.env) :: starEach [] X.env := by rfl)
    (he : backTo pos (starEach [e] X.env) = (false, eval e X.env) :: backTo pos (starEach [] X.env) := by rfl) (hpl : (backTo pos (starEach [e] X.env)).any (·.1) = false := by rfl)
    (hall : (backToKw pos (keywordEach [⟨some "default", .Constant (.int d) j p2, kpos⟩] X.env)).all (·.1.isSome) = true := by rfl) (hnone : (backToKw pos (keywordEach [⟨some "default", .Constant (.int d) j p2, kpos⟩] X.env)).any (·.1.isNone) = false := by rfl)
    (hks : (backToKw pos (keywordEach [⟨some "default", .Constant (.int d) j p2, kpos⟩] X.env)).filterMap (·.1) = [Str.ofString "default"] := by rfl) :
    DE X ec W (.Call (.Name "max" p) [e] [⟨some "default", .Constant (.int d) j p2, kpos⟩] pos) (v1 (dMaxD d) φ) :=
  peImp (pe_callBK (cr_maxDf (d := d) hc hu) hg hm hb (pa1 ha hs) (pk_cons pe_int pk_nil) (by decide) (by decide) he hpl hall hnone hks) fun σ H Q ⟨r, F, F0, B, S, q⟩ => by
    refine ⟨r, F, F0, B, S, (Thn.bind q).imp fun x F1 H1 _ g1 h1 v rv => ?_⟩
    obtain ⟨y, ey, k⟩ := h1.po
    unfold dMaxD at ey
    split at ey
    · rename_i xs
      obtain ⟨a, vs, rfl, h4, h5⟩ := rv
      split at ey
      · rename_i hn
        cases ey
        obtain ⟨g2, _⟩ := nums_rep hn h5
        subst g2
        exact ⟨a, [], rfl, rfl, h4, k F1 H1 (Gr.refl g1.i) _ rfl⟩
      · rename_i n ns hn
        cases ey
        obtain ⟨g2, _⟩ := nums_rep hn h5
        subst g2
        exact ⟨a, n :: ns, rfl, rfl, h4, k F1 H1 (Gr.refl g1.i) _ rfl⟩
      · cases ey
    · cases ey
/-! ### calls by names -/
structure DKw (K : PySem.W.Frag) (mg : Str → Option Value) (x : Str) (ps ks : List Str) (is : List Nat) : Prop where
  ex : ∃ (f : Addr) (fd : FuncData), mg x = some (.ref f) ∧ (∀ (s : Shared) (ws : List Value), ws.length = ks.length → BindsTo s fd ⟨[], ks.zip ws⟩ (ps.zip (is.map fun i => ws.getD i .none))) ∧ ∃ oc od sl, K.lookup f = some ⟨oc, od, .func fd, sl⟩
theorem rep_at {K : PySem.W.Frag} {F : Hp} : ∀ {ds : List DL.D} {vs : List V}, RepL K F ds vs → ∀ i, i < ds.length → Rep K F (ds.getD i .none) (vs.getD i .non)
  | [], _, _, _, h => absurd h (Nat.not_lt_zero _)
  | d :: ds, _, ⟨v, t, rfl, h1, h2⟩, 0, _ => h1
  | d :: ds, _, ⟨v, t, rfl, h1, h2⟩, i + 1, h => rep_at h2 i (Nat.lt_of_succ_lt_succ h)
theorem rep_perm {K : PySem.W.Frag} {F : Hp} {ds : List DL.D} {vs : List V} (r : RepL K F ds vs) : ∀ (is : List Nat), (∀ i ∈ is, i < ds.length) → RepL K F (is.map fun i => ds.getD i .none) (is.map fun i => vs.getD i .non)
  | [], _ => rfl
  | i :: is, h => ⟨_, _, rfl, rep_at r i (h i List.mem_cons_self), rep_perm r is fun j hj => h j (List.mem_cons_of_mem _ hj)⟩
theorem vals_at : ∀ {vs : List V} {us : List Value}, Vals vs us → ∀ i, i < vs.length → RelV (vs.getD i .non) (us.getD i .none)
  | _, _, .nil, _, h => absurd h (Nat.not_lt_zero _)
  | _, _, .cons r _, 0, _ => r
  | _, _, .cons _ t, i + 1, h => vals_at t i (Nat.lt_of_succ_lt_succ h)
theorem vals_perm {vs : List V} {us : List Value} (r : Vals vs us) : ∀ (is : List Nat), (∀ i ∈ is, i < vs.length) → Vals (is.map fun i => vs.getD i .non) (is.map fun i => us.getD i .none)
  | [], _ => .nil
  | i :: is, h => .cons (vals_at r i (h i List.mem_cons_self)) (vals_perm r is fun j hj => h j (List.mem_cons_of_mem _ hj))
/-- values of keywords -/
def DPK (X : Cx) (ec : EC) (W : WX) (kws : List Keyword) (as : List EX) : Prop := PK X kws (tAs X.K ec W (vArgs as))
theorem dk_nil : DPK X ec W [] [] := ⟨fun pos pins s σ H Q I h => pk_nil.run pos pins s σ H Q I (by
  obtain ⟨r, F, F0, B, S, q⟩ := h
  exact Thn.ok S.sub q [] rfl)⟩
theorem dk_cons {nm : Option Str} {kws : List Keyword} {as : List EX} (ha : DE X ec W e φ) (hr : DPK X ec W kws as) : DPK X ec W (⟨nm, e, kpos⟩ :: kws) (φ :: as) :=
  ⟨fun pos pins s σ H Q I h => (pk_cons (nm := nm) (kpos := kpos) ha hr).run pos pins s σ H Q I (by
    obtain ⟨r, F, F0, B, S, q⟩ := h
    exact ⟨r, F, F0, B, S, (Thn.bind q).imp fun x F1 H1 _ g1 h1 v rv => ⟨r, F1, F0, B, S.grow g1, (Thn.bind h1).imp fun xs F2 H2 _ g2 h2 vs rs =>
      Thn.ok g2.i h2 (v :: vs) ⟨v, vs, rfl, rv.mono g2.f, rs⟩⟩⟩)⟩
theorem de_callK {j k n : Nat} {ps ks : List Str} {is : List Nat} {g : List DL.D → R DL.D} {x : Str} {kws : List Keyword} {as : List EX} (G : DOk X.prog X.w X.K X.mg X.base ec x ps j n g) (B : DKw X.K X.mg x ps ks is) (hr : Room k X.A) (tk : Takes X W) (hjk : j ≤ k) (hg : Gl X x) (hkw : DPK X ec W kws as)
    (hn : is.length = n := by rfl) (hin : ∀ i ∈ is, i < as.length := by decide) (hlen : ks.length = as.length := by rfl) (hdb : (x == ("__debug__" : Str)) = false := by decide)
    (hall : (backToKw pos (keywordEach kws X.env)).all (·.1.isSome) = true := by rfl) (hks : (backToKw pos (keywordEach kws X.env)).filterMap (·.1) = ks := by rfl)
    (hpl : ((backTo pos (starEach [] X.env)).any (·.1) || (backToKw pos (keywordEach kws X.env)).any (·.1.isNone)) = false := by rfl) :
    DE X ec W (.Call (.Name x p) [] kws pos) (vCallK g is as) := by
  refine ⟨fun pins s σ H Q I h => ?_⟩
  obtain ⟨f, fd, h1, h2, h3, h4, oc, od, sl, h5⟩ := G.ex
  obtain ⟨f', fd', h1', h3', oc', od', sl', h5'⟩ := B.ex
  rw [h1] at h1'
  have ef : f = f' := by simpa using h1'
  subst ef
  rw [h5] at h5'
  have ed : fd = fd' := by
    have := Option.some.inj h5'
    simp only [Obj.mk.injEq, Data.func.injEq] at this
    exact this.2.2.1
  subst ed
  obtain ⟨r, F, F0, Bh, S, q⟩ := h
  refine wpAny_Call_Name_kw (ld_glob I hg h1 ?_ hdb)
  refine PySem.W.callWith_of hpl (PySem.W.keeps_K h2) (evalArgs_kw2_nil hall (thn (hkw.run pos pins s σ H (fun vs H1 => ∃ ds F1, ds.length = as.length ∧ Same F1 H1 ∧ RepL X.K F1 ds vs ∧ Thn X.K ec W (g (is.map fun i => ds.getD i .none)) σ F1 H1 fun d F' H' => ∀ v, Rep X.K F' d v → Q v H') I
    ⟨r, F, F0, Bh, S, (Thn.bind q).imp fun ds F1 H1 ex g1 k vs rs => ⟨ds, F1, vArgs_len ex, g1.i, rs, k⟩⟩) fun us s1 ⟨vs, H1, I1, r1, ds, F1, hl, sf, rs, k⟩ => ⟨I1.kIn, ?_⟩))
  rw [hks]
  have hvl : vs.length = ds.length := rs.length
  have r2 := vals_perm r1 is fun i hi => by rw [hvl, hl]; exact hin i hi
  have hus : us.length = ks.length := by rw [← r1.length, hvl, hl, hlen]
  have hq : spD X.K ec n g (is.map fun i => vs.getD i .non) H1 Q (WE W σ) := by
    refine ⟨is.map fun i => ds.getD i .none, F1, by rw [List.length_map]; exact hn, sf, rep_perm rs is fun i hi => by rw [hl]; exact hin i hi, ?_⟩
    revert k
    match g (is.map fun i => ds.getD i .none) with
    | none => exact fun z => z
    | some (.error _) => exact fun z => z
    | some (.ok k) => exact fun z => z
  refine wpAny_call (codeAny_mono (h4.run X.A X.stack s1 H1 ⟨[], ks.zip us⟩ _ _ Q (WE W σ) (hr.mono hjk) I1.env0 (h3' s1 us hus) r2 hq) fun rr s' hq' => ?_)
  cases rr with
  | error e => exact passAt tk σ pins H1 s1 e s' I1 hq'
  | ok fl =>
    cases fl with
    | ret u => exact I1.after hq'
    | next => exact False.elim hq'
    | brk => exact False.elim hq'
    | cont => exact False.elim hq'
/-! ### range with a step -/
theorem iter_rngC {K : PySem.W.Frag} {Bh Fb : Hp} {lo c : Int} {n : Nat} : IterOk K Bh Fb (Itc lo c n) ((List.range n).map fun (k : Nat) => PyData.int (lo + (k : Nat) * c)) := by
  refine ⟨fun _ => True, YFn fun i => .int (lo + (i : Nat) * c), by rw [List.length_map, List.length_range]; exact walk_rangeC, fun _ _ => trivial, fun i d H x H' F hd _ f e y => ?_⟩
  obtain ⟨rfl, rfl⟩ := y
  rw [List.getElem?_map] at hd
  cases eq : (List.range n)[i]? with
  | none => rw [eq] at hd; cases hd
  | some k =>
    rw [eq] at hd
    obtain ⟨h3, h4⟩ := List.getElem?_eq_some_iff.mp eq
    have hk : k = i := by simpa using h4.symm
    subst hk
    cases hd
    exact ⟨F, Gr.refl e, rfl⟩
theorem small_up {j c : Int} (h0 : 0 ≤ j) (h1 : j ≤ 16777216) (h2 : 1 ≤ c) (h3 : c ≤ 16777216) : Builtin.Range.small 0 j c = true := by
  have hq : 0 ≤ (j + c - 1) / c := Int.ediv_nonneg (by omega) (by omega)
  have hq2 : (j + c - 1) / c ≤ 33554432 := Int.le_trans (Int.ediv_le_self _ (by omega)) (by omega)
  have hm1 : 0 ≤ (j + c - 1) / c * c := Int.mul_nonneg hq (by omega)
  have hm2 : (j + c - 1) / c * c ≤ j + c - 1 := Int.ediv_mul_le _ (by omega)
  unfold Builtin.Range.small
  rw [PyProof.Rows.rangeSize_pos h2 h0]
  simp only [Builtin.Range.rangeFitsLong, Bool.and_eq_true, Bool.or_eq_true, decide_eq_true_eq, beq_iff_eq]
  refine ⟨by omega, .inr ?_⟩
  rw [if_pos (by omega), Bool.and_eq_true, decide_eq_true_eq, decide_eq_true_eq]
  omega
theorem di_range3 {tg b c : Expr} {ψ χ : EX} (hg : Gl X "range") (hm : X.mg "range" = none) (ha : DA X ec W [e, b, c] (vArgs [φ, ψ, χ]))
    (hs : starEach [e, b, c] X.env = (false, eval e X.env) :: starEach [b, c] X.env := by rfl) (hpl : (backTo pos (starEach [b, c] X.env)).any (·.1) = false := by rfl) : DI X ec W tg (.Call (.Name "range" p) [e, b, c] [] pos) (iRange3 φ ψ χ) :=
  piImp (pi_range3 hg hm ha hs hpl) fun σ H R ⟨r, F, F0, B, S, q⟩ => by
    refine ⟨r, F, F0, B, S, (Thn.bind q).imp fun ds F1 H1 _ g1 h1 vs rs => ?_⟩
    match ds with
    | [] => exact False.elim h1
    | [_] => exact False.elim h1
    | [_, _] => exact False.elim h1
    | _ :: _ :: _ :: _ :: _ => exact False.elim h1
    | [x, y, z] =>
      obtain ⟨xs, ex, k⟩ := Thn.po h1
      unfold rng3 at ex
      split at ex
      · rename_i i j c' _
        split at ex
        · rename_i hc
          cases ex
          obtain ⟨rfl, hj0, hj1, hc1, hc2⟩ := hc
          obtain ⟨u1, t1, rfl, e1, u2, t2, rfl, e2, u3, t3, rfl, e3, e4⟩ := rs
          have e4' : t3 = [] := e4
          subst e4'
          have e1' : u1 = V.int 0 := e1
          have e2' : u2 = V.int j := e2
          have e3' : u3 = V.int c' := e3
          subst e1' e2' e3'
          refine ⟨0, j, c', ((j + c' - 1) / c').toNat, rfl, ⟨by omega, by omega, ?_, ?_⟩, k F1 H1 (Gr.refl g1.i) _ ?_⟩
          · exact small_up hj0 hj1 hc1 hc2
          · rw [PyProof.Rows.rangeSize_pos hc1 hj0]
            have : 0 ≤ (j + c' - 1) / c' := Int.ediv_nonneg (by omega) (by omega)
            omega
          · exact iter_rngC
        · cases ex
      · cases ex
end
end DL
/-! sorted(..) of integers, of pairs of integers: any number of them. -/
namespace DL
open PySem PySem.Spec PyProof.Rows L2

theorem ms_int {ns ms : List Int} (hp : ms.Perm ns) (hs : ms.Pairwise (· ≤ ·)) : ns.mergeSort (fun i j => decide (i ≤ j)) = ms := by
  have h1 : (ns.mergeSort fun i j => decide (i ≤ j)).Pairwise (fun i j => decide (i ≤ j) = true) := List.pairwise_mergeSort (fun a b c h1 h2 => by
    have := of_decide_eq_true h1
    have := of_decide_eq_true h2
    exact decide_eq_true (by omega)) (fun a b => by
    rcases Int.le_total a b with h | h
    · rw [decide_eq_true h, Bool.true_or]
    · rw [decide_eq_true h, Bool.or_true]) ns
  refine List.Perm.eq_of_pairwise (le := (· ≤ ·)) (fun a b _ _ x y => Int.le_antisymm x y) (h1.imp fun h => of_decide_eq_true h) hs ((List.mergeSort_perm ns _).trans hp.symm)
theorem prLe_iff {p q : Int × Int} : prLe p q = true ↔ p.1 < q.1 ∨ (p.1 = q.1 ∧ p.2 ≤ q.2) := by
  unfold prLe
  rw [Bool.or_eq_true, Bool.and_eq_true, decide_eq_true_iff, decide_eq_true_iff, decide_eq_true_iff]
theorem ms_pr {ns ms : List (Int × Int)} (hp : ms.Perm ns) (hs : ms.Pairwise (fun x y => prLe x y = true)) : ns.mergeSort prLe = ms := by
  have h1 : (ns.mergeSort prLe).Pairwise (fun x y => prLe x y = true) := List.pairwise_mergeSort (fun a b c h1 h2 => by
    have := prLe_iff.mp h1
    have := prLe_iff.mp h2
    exact prLe_iff.mpr (by omega)) (fun a b => by
    rw [Bool.or_eq_true, prLe_iff, prLe_iff]
    omega) ns
  refine List.Perm.eq_of_pairwise (le := fun x y => prLe x y = true) (fun a b _ _ x y => ?_) h1 hs ((List.mergeSort_perm ns _).trans hp.symm)
  have x' := prLe_iff.mp x
  have y' := prLe_iff.mp y
  have e1 : a.1 = b.1 := by omega
  have e2 : a.2 = b.2 := by omega
  exact Prod.ext e1 e2
theorem b_sortI {K : PySem.W.Frag} : B1L K lSortI (rSortedI K) := by
  intro x xs F H v Q ex e r k
  unfold lSortI at ex
  split at ex
  · rename_i ds
    split at ex
    · rename_i ns hn
      cases ex
      obtain ⟨a, vs, rfl, h, rl⟩ := r
      obtain ⟨e1, e2⟩ := nums_rep hn rl
      refine ⟨a, ns, rfl, by rw [← e1]; exact h, fun ns' p hp hs hq => ?_⟩
      refine k p _ hq ?_
      rw [ms_int hp hs]
      exact ints_rep ns'
    · cases ex
  · cases ex

/-- sorted(xs), pairs of ints that may be read, any number of them -/
def rSortedQ (K : PySem.W.Frag) : List V → Hp → VK → Prop := fun vs H Q => ∃ (a : Addr) (l : List (V × (Int × Int))), vs = [V.ref a] ∧ SqL K H a (l.map (·.1)) ∧ (∀ e ∈ l, ∃ t, e.1 = V.ref t ∧ SqT K H t [.int e.2.1, .int e.2.2]) ∧
  ∀ (l' : List (V × (Int × Int))) (p : Addr), l'.Perm l → l'.Pairwise (fun x y => prLe x.2 y.2 = true) → H p = none → Q (.ref p) (upd H p (.lst (l'.map (·.1))))
theorem isPair_fun {h : Heap} {v : Value} {i j i' j' : Int} (p : Srt.IsPair h v i j) (q : Srt.IsPair h v i' j') : (i', j') = (i, j) := by
  obtain ⟨a, o, t, u, n, rfl, h1, h2, h3⟩ := p
  obtain ⟨a', o', t', u', n', e, g1, g2, g3⟩ := q
  cases e
  rw [h1] at g1
  cases g1
  rw [h3] at g3
  cases g3
  rfl
theorem tup_at {h : Heap} {a : Addr} {its : Array Value} (t : IsTup h a its) : ∃ o n, h.get? a = some o ∧ o.cls = .type "tuple" ∧ o.data = .seq its n := by
  obtain ⟨o, h1, h2, n, h3⟩ := t
  exact ⟨o, n, h1, h2, h3⟩
open Classical in
noncomputable def kOf (h : Heap) (v : Value) : Int × Int := if x : ∃ p : Int × Int, Srt.IsPair h v p.1 p.2 then x.choose else (0, 0)
theorem kOf_eq {h : Heap} {v : Value} {i j : Int} (p : Srt.IsPair h v i j) : kOf h v = (i, j) := by
  have x : ∃ p : Int × Int, Srt.IsPair h v p.1 p.2 := ⟨(i, j), p⟩
  unfold kOf
  rw [dif_pos x]
  exact isPair_fun p x.choose_spec
theorem zip_back {h : Heap} : ∀ {l : List (V × (Int × Int))} {us : List Value}, Vals (l.map (·.1)) us → (∀ e ∈ l, ∃ t, e.1 = V.ref t ∧ Srt.IsPair h (.ref t) e.2.1 e.2.2) →
    l = us.map (fun u => (backV u, kOf h u)) ∧ ∀ u ∈ us, Srt.IsPair h u (kOf h u).1 (kOf h u).2
  | [], _, .nil, _ => ⟨rfl, fun u hu => nomatch hu⟩
  | e :: l, _ :: us, .cons r rs, g => by
    obtain ⟨t, e1, e2⟩ := g e List.mem_cons_self
    obtain ⟨g1, g2⟩ := zip_back rs fun x m => g x (List.mem_cons_of_mem _ m)
    have r' : RelV e.1 _ := r
    rw [e1] at r'
    obtain rfl : _ = Value.ref t := r'
    have ek := kOf_eq e2
    refine ⟨?_, fun u hu => ?_⟩
    · rw [List.map_cons, ← g1, ek]
      obtain ⟨x, y, z⟩ := e
      cases e1
      rfl
    · rcases List.mem_cons.mp hu with rfl | hu
      · rw [ek]
        exact e2
      · exact g2 u hu
section
variable {X : Cx}
theorem cr_sortedQ : CallR X (.builtin "sorted") (rSortedQ X.K) := by
  intro pins s σ H vs us Q I r h
  obtain ⟨a, l, rfl, hs, hx, q⟩ := h
  obtain ⟨its, rv, hl, hz⟩ := I.list hs
  obtain ⟨u, rfl, ru⟩ := vals1 r
  obtain rfl : u = Value.ref a := ru
  obtain ⟨e1, hp⟩ := zip_back (h := s.heap) rv fun e m => by
    obtain ⟨t, e1, ht⟩ := hx e m
    obtain ⟨its2, r2, hT, _⟩ := I.tuple ht
    obtain ⟨o, n, ho, hc, hd⟩ := tup_at hT
    obtain ⟨u1, u2, rfl, ri, rj⟩ := vals2 r2
    obtain ⟨t1, rfl⟩ := ri
    obtain ⟨t2, rfl⟩ := rj
    exact ⟨t, e1, t, o, t1, t2, n, rfl, ho, hc, hd⟩
  refine SrtO.sorted_pairsO (k := kOf s.heap) hl.isList (by rw [← rv.length]; exact hz) hp fun h' d out h1 h2 kp hd hn => ?_
  have h3 : ∀ u ∈ out, ∃ a, u = Value.ref a := fun u hu => by
    obtain ⟨a, o, t, u, n, e, _⟩ := hp _ (h2.perm.mem_iff.mp hu)
    exact ⟨a, e⟩
  obtain ⟨n, hn⟩ := hn
  have em : (out.map fun u => (backV u, kOf s.heap u)).map (·.1) = out.map backV := by rw [List.map_map]; rfl
  have hlen : (out.map backV).length ≤ sizeLine := by
    have := h2.perm.length_eq
    have := rv.length
    rw [List.length_map] at *
    omega
  refine ⟨.ref d, upd H d (.lst (out.map backV)), I.laid (t' := s.toks) kp hd ⟨hlen, out, n, vals_back h3, hn⟩, rfl, ?_⟩
  rw [← em]
  refine q _ d ?_ ?_ (I.hok.fresh hd)
  · rw [e1]
    exact h2.perm.map _
  · refine List.pairwise_map.mpr (h1.imp fun {x y} h => ?_)
    have := SrtO.lexB_no.mp h
    exact prLe_iff.mpr (by dsimp only; omega)
end
theorem prs_rep {K : PySem.W.Frag} {F : Hp} : ∀ {xs : List DL.D} {ps : List (Int × Int)} {vs : List V}, prsOf xs = some ps → RepL K F xs vs → ∃ l : List (V × (Int × Int)), l.map (·.1) = vs ∧ l.map (·.2) = ps ∧ ∀ e ∈ l, Rep K F (prD e.2) e.1
  | [], ps, vs, h, r => by
    have h' : some ([] : List (Int × Int)) = some ps := h
    cases h'
    have r' : vs = [] := r
    exact ⟨[], r'.symm, rfl, fun e m => nomatch m⟩
  | x :: xs, ps, vs, h, r => by
    unfold prsOf at h
    split at h
    · rename_i e
      cases e
    · rename_i i j ys e
      cases e
      obtain ⟨ms, e1, e2⟩ := Option.map_eq_some_iff.mp h
      obtain ⟨v, t, rfl, h1, h2⟩ := r
      obtain ⟨l, g1, g2, g3⟩ := prs_rep e1 h2
      subst e2
      refine ⟨(v, (i, j)) :: l, by rw [List.map_cons, g1], by rw [List.map_cons, g2], fun e m => ?_⟩
      rcases List.mem_cons.mp m with rfl | m
      · exact h1
      · exact g3 e m
    · cases h
theorem prs_back {K : PySem.W.Frag} {F : Hp} : ∀ {l : List (V × (Int × Int))}, (∀ e ∈ l, Rep K F (prD e.2) e.1) → RepL K F ((l.map (·.2)).map prD) (l.map (·.1))
  | [], _ => rfl
  | e :: l, h => ⟨e.1, _, rfl, h e List.mem_cons_self, prs_back fun x m => h x (List.mem_cons_of_mem _ m)⟩
theorem b_sortP {K : PySem.W.Frag} : B1L K lSortP (rSortedQ K) := by
  intro x xs F H v Q ex e r k
  unfold lSortP at ex
  split at ex
  · rename_i ds
    split at ex
    · rename_i ps hn
      cases ex
      obtain ⟨a, vs, rfl, h, rl⟩ := r
      obtain ⟨l, e1, e2, e3⟩ := prs_rep hn rl
      refine ⟨a, l, rfl, by rw [e1]; exact h, fun x m => ?_, fun l' p hp hs hq => ?_⟩
      · obtain ⟨t, ws, et, ht, rw'⟩ := e3 x m
        obtain ⟨v1, r1, rfl, h1, v2, r2, rfl, h2, h3⟩ := rw'
        cases (show v1 = V.int x.2.1 from h1)
        cases (show v2 = V.int x.2.2 from h2)
        cases (show r2 = [] from h3)
        exact ⟨t, et, tupT e ht⟩
      · refine k p _ hq ?_
        have hm : ps.mergeSort prLe = l'.map (·.2) := ms_pr (by rw [← e2]; exact hp.map _) (List.pairwise_map.mpr hs)
        rw [hm]
        exact prs_back fun x m => e3 x (hp.mem_iff.mp m)
    · cases ex
  · cases ex
theorem b_sum {K : PySem.W.Frag} : B1 K dSum (rSum K) := by
  intro x d F H v Q hf e rx k
  unfold dSum at hf
  split at hf
  · rename_i xs
    split at hf
    · rename_i ns hn
      cases hf
      obtain ⟨a, vs, rfl, h1, h2⟩ := rx
      obtain ⟨g1, _⟩ := nums_rep hn h2
      subst g1
      exact ⟨a, ns, rfl, h1, k _ F H (Gr.refl e) rfl⟩
    · cases hf
  · cases hf
end DL
/-! zip of two tuples. -/
namespace DL
open PySem PySem.Spec PyProof.Rows L2
/-- the tuples at a and b, the items in new pairs -/
def ItZ (K : PySem.W.Frag) (a b : Addr) : It :=
  ⟨fun i H => ∃ (xs ys : List V) (x y : V), SqT K H a xs ∧ SqT K H b ys ∧ xs[i]? = some x ∧ ys[i]? = some y,
    fun i H v H' => ∃ T x y, v = .ref T ∧ H T = none ∧ H' = upd H T (.tup [x, y]) ∧ (∀ xs, SqT K H a xs → xs[i]? = some x) ∧ ∀ ys, SqT K H b ys → ys[i]? = some y,
    fun i H => ∃ xs ys : List V, SqT K H a xs ∧ SqT K H b ys ∧ i = min xs.length ys.length⟩
theorem turn_zipT {P : Program} {w : World} {K : PySem.W.Frag} {elts : List Expr} {kk : Nat} {tpos : Pos} {a b z TI TO i1 i2 : Addr} (S : ZipSep2 z TI TO i1 i2 [i1, a] [i2, b]) (ha : a ≠ i1) (hb : b ≠ i2) (h12 : i1 ≠ i2) :
    Turn P w K (.Tuple elts kk tpos) (ItZ K a b) [z, TI, TO, i1, i2] z (fun i h => IsZip h z TI TO .none ∧ IsTupOf2 h TI (.ref i1) (.ref i2) ∧ (∃ x y, IsTupOf2 h TO x y) ∧ h.IsTupleIter i1 a i ∧ h.IsTupleIter i2 b i) where
  mem := by simp
  obj := fun i h st c hc => by
    obtain ⟨hz, hTI, ⟨x, y, hTO⟩, ⟨o1, e1, _, d1⟩, ⟨o2, e2, _, d2⟩⟩ := st
    have e' : c = z ∨ c = TI ∨ c = TO ∨ c = i1 ∨ c = i2 := by simpa using hc
    rcases e' with q | q | q | q | q
    · rw [q]; exact ⟨_, hz, fun v q => nomatch q⟩
    · rw [q]; exact ⟨_, hTI, fun v q => nomatch q⟩
    · rw [q]; exact ⟨_, hTO, fun v q => nomatch q⟩
    · rw [q]; exact ⟨o1, e1, fun v q => by rw [d1] at q; cases q⟩
    · rw [q]; exact ⟨o2, e2, fun v q => by rw [d2] at q; cases q⟩
  keep := fun i h h' st k => by
    obtain ⟨hz, hTI, ⟨x, y, hTO⟩, h1, h2⟩ := st
    exact ⟨k z (by simp) _ hz, k TI (by simp) _ hTI, ⟨x, y, k TO (by simp) _ hTO⟩, h1.at fun o q => k i1 (by simp) o q, h2.at fun o q => k i2 (by simp) o q⟩
  item := by
    intro X hP hw hK hc i pins s σ H E I hf st hg
    subst hP hw hK
    obtain ⟨hz, hTI, ⟨x0, y0, hTO⟩, h1, h2⟩ := st
    obtain ⟨xs, ys, x, y, hqx, hqy, hx, hy⟩ := hg
    obtain ⟨its, rv, p, _⟩ := I.tuple hqx
    obtain ⟨its2, rv2, p2, _⟩ := I.tuple hqy
    obtain ⟨u, hu, ru⟩ := rv.get hx
    obtain ⟨u2, hu2, ru2⟩ := rv2.get hy
    have hzl : z < s.heap.objs.size := Heap.lt_size hz
    have t1 : s.heap.IsTuple a its.toArray := p
    have t2 : s.heap.IsTuple b its2.toArray := p2
    have l1 : i < its.toArray.size := by have := (List.getElem?_eq_some_iff.mp hu).1; simpa using this
    have l2 : i < its2.toArray.size := by have := (List.getElem?_eq_some_iff.mp hu2).1; simpa using this
    have hh : X.A.in1.handled = none := I.ok.hd hc
    refine wpAny_pyNext_zipD2_item S (Draws.tuple (A := X.A.in1) hh i1 a ha its.toArray) (Draws.tuple (A := X.A.in1) hh i2 b hb its2.toArray) hz hTI hTO ⟨h1, t1⟩ ⟨h2, t2⟩ l1 l2 fun x1 x2 h' tk q1 q2 z' TO' st1 st2 hT hsz hk => ?_
    have e1 : x1 = u := by
      have g1 : its.toArray[i]? = some x1 := q1
      have g2 : its.toArray[i]? = some u := by simpa using hu
      rw [g1] at g2
      exact Option.some.inj g2
    have e2 : x2 = u2 := by
      have g1 : its2.toArray[i]? = some x2 := q2
      have g2 : its2.toArray[i]? = some u2 := by simpa using hu2
      rw [g1] at g2
      exact Option.some.inj g2
    subst e1 e2
    refine ⟨_, rfl, wpAny_letOwnedTupleGo_zip (s := { s with heap := h', toks := tk }) z' fun h'' z'' sb => ?_⟩
    have hT2 : h''.get? s.heap.objs.size = some { cls := .type "tuple", data := .seq #[x1, x2] } := (sb.2 _ (Nat.ne_of_gt hzl)).trans hT
    have new : ObjOk X.prog X.w (upd H s.heap.objs.size (.tup [x, y])) h'' s.heap.objs.size (.tup [x, y]) :=
      ⟨by show 2 ≤ sizeLine; decide, [x1, x2], .cons ru (.cons ru2 .nil), ⟨_, hT2, rfl, _, rfl⟩⟩
    have I1 : Inv X pins σ (upd H s.heap.objs.size (.tup [x, y])) { s with heap := h'', toks := tk } :=
      I.turnedNew (t' := tk) (ch := [z, TI, TO, i1, i2]) (fun c o hb q => (sb.2 c (fun q' => hb (by simp [q']))).trans (hk c o (fun q' => hb (by simp [q'])) (fun q' => hb (by simp [q'])) (fun q' => hb (by simp [q'])) (fun q' => hb (by simp [q'])) q)) hf (Nat.le_refl _) new
    refine ⟨.ref s.heap.objs.size, _, I1, rfl, ⟨_, x, y, rfl, I.hok.fresh (Nat.le_refl _), rfl, fun l hl => by rw [I.tuple_inj hl hqx]; exact hx, fun l hl => by rw [I.tuple_inj hl hqy]; exact hy⟩, ⟨z'', ?_, ⟨x1, x2, ?_⟩, ?_, ?_⟩, fun c hcm => ?_⟩
    · exact (sb.2 _ S.TIz).trans (hk _ _ S.TIz S.TITO S.TIi1 S.TIi2 hTI)
    · exact (sb.2 _ S.TOz).trans TO'
    · exact st1.1.at fun o q => (sb.2 _ (Ne.symm S.zi1)).trans q
    · exact st2.1.at fun o q => (sb.2 _ (Ne.symm S.zi2)).trans q
    · have hlt : c < s.heap.objs.size := by
        have e' : c = z ∨ c = TI ∨ c = TO ∨ c = i1 ∨ c = i2 := by simpa using hcm
        rcases e' with q | q | q | q | q
        · rw [q]; exact hzl
        · rw [q]; exact Heap.lt_size hTI
        · rw [q]; exact Heap.lt_size hTO
        · rw [q]; obtain ⟨_, e1, _⟩ := h1; exact Heap.lt_size e1
        · rw [q]; obtain ⟨_, e2, _⟩ := h2; exact Heap.lt_size e2
      rw [upd_ne (Nat.ne_of_lt hlt)]
      exact (hf c hcm).1
  done := by
    intro X hP hw hK hc i pins s σ H E I hf st hg
    subst hP hw hK
    obtain ⟨hz, hTI, ⟨x0, y0, hTO⟩, h1, h2⟩ := st
    obtain ⟨xs, ys, hqx, hqy, hend⟩ := hg
    obtain ⟨its, rv, p, _⟩ := I.tuple hqx
    obtain ⟨its2, rv2, p2, _⟩ := I.tuple hqy
    have t1 : s.heap.IsTuple a its.toArray := p
    have t2 : s.heap.IsTuple b its2.toArray := p2
    have l1 := rv.length
    have l2 := rv2.length
    have s1 : its.toArray.size = xs.length := by rw [List.size_toArray, ← l1]
    have s2 : its2.toArray.size = ys.length := by rw [List.size_toArray, ← l2]
    have hh : X.A.in1.handled = none := I.ok.hd hc
    exact wpAny_pyNext_zipD2_end S (Draws.tuple (A := X.A.in1) hh i1 a ha its.toArray) (Draws.tuple (A := X.A.in1) hh i2 b hb its2.toArray) hz hTI hTO ⟨h1, t1⟩ ⟨h2, t2⟩ (by omega) (by omega) (by omega) fun h' tk hk => ⟨rfl, I.turnedL (t' := tk) (ch := [z, TI, TO, i1, i2]) (fun c o hb q =>
      hk c o (fun q' => hb (by simp [q'])) (fun q' => hb (by simp [q'])) (fun q' => hb (by simp [q'])) (fun q' => hb (by simp [q'])) q) hf⟩
  self := fun A i s Q E st h => wpAny_pyIter_zip st.1 h
theorem walk_zipT {K : PySem.W.Frag} {a b : Addr} {xs ys : List V} {n : Nat} (hn : n = min xs.length ys.length) : Walk (ItZ K a b) n (fun H => SqT K H a xs ∧ SqT K H b ys) (YPair (fun i => xs[i]?) (fun i => ys[i]?)) := by
  subst hn
  refine ⟨fun i _ hi q => ?_, fun _ q => ⟨xs, ys, q.1, q.2, rfl⟩, fun i H v H' _ q y => ?_⟩
  · have h1 : i < xs.length := by omega
    have h2 : i < ys.length := by omega
    exact ⟨xs, ys, xs[i], ys[i], q.1, q.2, by simp [h1], by simp [h2]⟩
  · obtain ⟨T, x, z, h1, h2, h3, h4, h5⟩ := y
    exact ⟨T, x, z, h1, h2, h3, h4 xs q.1, h5 ys q.2⟩
theorem zipL_at : ∀ (xs ys : List DL.D) (i : Nat) (d : DL.D), (zipL xs ys)[i]? = some d → ∃ x y, xs[i]? = some x ∧ ys[i]? = some y ∧ d = .tuple [x, y]
  | [], _, _, _, h => nomatch h
  | _ :: _, [], _, _, h => nomatch h
  | x :: xs, y :: ys, 0, d, h => ⟨x, y, rfl, rfl, by cases h; rfl⟩
  | x :: xs, y :: ys, i + 1, d, h => zipL_at xs ys i d h
theorem zipL_len : ∀ (xs ys : List DL.D), (zipL xs ys).length = min xs.length ys.length
  | [], ys => by simp [zipL]
  | _ :: _, [] => by simp [zipL]
  | x :: xs, y :: ys => by rw [zipL, List.length_cons, List.length_cons, List.length_cons, zipL_len xs ys]; omega
theorem iter_zip {K : PySem.W.Frag} {Bh Fb : Hp} {a b : Addr} {xs ys : List DL.D} {vs us : List V} (h1 : SqT K Bh a vs) (h2 : SqT K Bh b us) (r1 : RepL K Fb xs vs) (r2 : RepL K Fb ys us) : IterOk K Bh Fb (ItZ K a b) (zipL xs ys) := by
  refine ⟨_, _, walk_zipT (K := K) (a := a) (b := b) (xs := vs) (ys := us) (by rw [zipL_len, r1.length, r2.length]), fun H q => ⟨seqT q h1, seqT q h2⟩, fun i d H x H' F hd _ f e y => ?_⟩
  obtain ⟨T, p, q, rfl, hT, rfl, hp, hq⟩ := y
  obtain ⟨z1, z2, e1, e2, rfl⟩ := zipL_at xs ys i d hd
  obtain ⟨v, g1, g2⟩ := r1.get e1
  obtain ⟨u, k1, k2⟩ := r2.get e2
  have hp' : vs[i]? = some p := hp
  have hq' : us[i]? = some q := hq
  rw [g1] at hp'
  rw [k1] at hq'
  cases hp'
  cases hq'
  have g := Gr.new e hT (.tup [p, q])
  exact ⟨_, g, T, _, rfl, upd_same, p, [q], rfl, (g2.mono f).mono g.f, q, [], rfl, (k2.mono f).mono g.f, rfl⟩
theorem notin2 {x y z : Nat} (h1 : x ≠ y) (h2 : x ≠ z) : x ∉ [y, z] := by
  simp only [List.mem_cons, List.not_mem_nil, or_false, not_or]
  exact ⟨h1, h2⟩
theorem sep_of (n a b : Nat) (la : a < n) (lb : b < n) : ZipSep2 (n + 4) (n + 2) (n + 3) n (n + 1) [n, a] [n + 1, b] :=
  ⟨show n + 2 ≠ n + 4 by omega, show n + 3 ≠ n + 4 by omega, show n + 2 ≠ n + 3 by omega, show n + 2 ≠ n by omega, List.mem_cons_self, notin2 (show n + 4 ≠ n by omega) (show n + 4 ≠ a by omega), notin2 (show n + 3 ≠ n by omega) (show n + 3 ≠ a by omega),
    show n + 2 ≠ n + 1 by omega, List.mem_cons_self, notin2 (show n + 4 ≠ n + 1 by omega) (show n + 4 ≠ b by omega), notin2 (show n + 3 ≠ n + 1 by omega) (show n + 3 ≠ b by omega), notin2 (show n ≠ n + 1 by omega) (show n ≠ b by omega), notin2 (show n + 1 ≠ n by omega) (show n + 1 ≠ a by omega)⟩
def iZipT (K : PySem.W.Frag) (ta : TA) : TI := fun σ H R => ta σ H fun vs H1 => ∃ a b xs ys, vs = [.ref a, .ref b] ∧ SqT K H1 a xs ∧ SqT K H1 b ys ∧ R (ItZ K a b) H1
theorem pi_zipT {X : Cx} {e e2 : Expr} {ta : TA} {p pos tpos : Pos} {elts : List Expr} {kk : Nat} (hg : Gl X "zip") (hm : X.mg "zip" = none) (ha : PA X [e, e2] ta)
    (hs : starEach [e, e2] X.env = (false, eval e X.env) :: starEach [e2] X.env := by rfl) (hpl : (backTo pos (starEach [e2] X.env)).any (·.1) = false := by rfl) :
    PI X (.Tuple elts kk tpos) (.Call (.Name "zip" p) [e, e2] [] pos) (iZipT X.K ta) := by
  refine ⟨fun pins s σ H R I h => ?_⟩
  refine Call_ (ld_blt I hg hm PyProof.Rows.boot_zip (PyProof.Rows.callWith_type1 (thn (ha.run pos pins s σ H _ I h) fun us s1 ⟨vs, H1, I1, r1, q1⟩ => ?_) hs hpl))
  obtain ⟨a, b, xs, ys, ex, hqx, hqy, q⟩ := q1
  subst ex
  cases r1 with
  | cons r rr =>
    cases rr with
    | cons r' rr =>
      cases rr
      cases r
      cases r'
      obtain ⟨its, rv, p1, _⟩ := I1.tuple hqx
      obtain ⟨its2, rv2, p2, _⟩ := I1.tuple hqy
      have t1 : s1.heap.IsTuple a its.toArray := p1
      have t2 : s1.heap.IsTuple b its2.toArray := p2
      have la : a < s1.heap.objs.size := by obtain ⟨o, ho, _⟩ := t1; exact Heap.lt_size ho
      have lb : b < s1.heap.objs.size := by obtain ⟨o, ho, _⟩ := t2; exact Heap.lt_size ho
      refine zip_begins2 (begins_tuple a its.toArray) (begins_tuple b its2.toArray) t1 t2 fun h' hz hTI hTO h1 h2 hsz hk => wpAny_pyIter_zip hz ?_
      have I2 : Inv X pins σ H1 { s1 with heap := h' } := I1.kept (t' := s1.toks) hk
      have sep : ZipSep2 (s1.heap.objs.size + 4) (s1.heap.objs.size + 2) (s1.heap.objs.size + 3) s1.heap.objs.size (s1.heap.objs.size + 1) [s1.heap.objs.size, a] [s1.heap.objs.size + 1, b] := sep_of _ _ _ la lb
      refine ⟨s1.heap.objs.size + 4, [s1.heap.objs.size + 4, s1.heap.objs.size + 2, s1.heap.objs.size + 3, s1.heap.objs.size, s1.heap.objs.size + 1], _, _, H1, rfl, I2, turn_zipT sep (Nat.ne_of_lt la) (Nat.ne_of_lt (Nat.lt_succ_of_lt lb)) (Nat.ne_of_lt (Nat.lt_succ_self _)), ⟨hz, hTI, ⟨_, _, hTO⟩, ⟨_, h1, rfl, rfl⟩, ⟨_, h2, rfl, rfl⟩⟩, fun c hcm => ?_, q⟩
      have e' : c = s1.heap.objs.size + 4 ∨ c = s1.heap.objs.size + 2 ∨ c = s1.heap.objs.size + 3 ∨ c = s1.heap.objs.size ∨ c = s1.heap.objs.size + 1 := by simpa using hcm
      have hle : s1.heap.objs.size ≤ c := by
        rcases e' with z | z | z | z | z
        · rw [z]; exact Nat.le_add_right _ _
        · rw [z]; exact Nat.le_add_right _ _
        · rw [z]; exact Nat.le_add_right _ _
        · rw [z]; exact Nat.le_refl _
        · rw [z]; exact Nat.le_add_right _ _
      exact I1.fpOk hle (I1.hok.fresh hle)
section
variable {X : Cx} {ec : EC} {W : WX} {e e2 : Expr} {pos p tpos : Pos} {elts : List Expr} {kk : Nat} {φ ψ : EX}
/-- both are tuples -/
theorem di_zip (hg : Gl X "zip") (hm : X.mg "zip" = none) (ha : DE X ec W e φ) (hb : DE X ec W e2 ψ) (hs : starEach [e, e2] X.env = (false, eval e X.env) :: starEach [e2] X.env := by rfl) (hs2 : starEach [e2] X.env = (false, eval e2 X.env) :: starEach [] X.env := by rfl) (hpl : (backTo pos (starEach [e2] X.env)).any (·.1) = false := by rfl) :
    DI X ec W (.Tuple elts kk tpos) (.Call (.Name "zip" p) [e, e2] [] pos) (iZipTE φ ψ) :=
  piImp (pi_zipT hg hm (da_cons ha (da_cons hb da_nil hs2) hs) hs hpl) fun σ H R ⟨r, F, F0, B, S, q⟩ => by
    refine ⟨r, F, F0, B, S, (Thn.bind q).imp fun ds F1 H1 _ g1 h1 vs rs => ?_⟩
    match ds with
    | [] => exact False.elim h1
    | [_] => exact False.elim h1
    | _ :: _ :: _ :: _ => exact False.elim h1
    | [x, y] =>
      obtain ⟨xs, ex, k⟩ := Thn.po h1
      unfold zipT2 at ex
      split at ex
      · cases ex
        obtain ⟨v1, t1, rfl, ⟨a, vs1, rfl, s1, r1⟩, v2, t2, rfl, ⟨b, vs2, rfl, s2, r2⟩, e4⟩ := rs
        have e4' : t2 = [] := e4
        subst e4'
        exact ⟨a, b, vs1, vs2, rfl, tupT g1.i s1, tupT g1.i s2, k F1 H1 (Gr.refl g1.i) _ (iter_zip (.inl (.inl s1)) (.inl (.inl s2)) r1 r2)⟩
      · cases ex
end
end DL
/-! An own error whose __init__ keeps a number. -/
namespace DL
open PySem PySem.Spec PyProof.Rows L2
/-- the statements of a class's text -/
def clsBody : Stmt → List Stmt
  | .ClassDef (body := b) .. => b
  | _ => []
theorem hand_ve : PySem.W.handedIn (.builtin "ValueError.__init__") = true := by decide +kernel
/-- C.__init__(self, ..), C a class of the text over ValueError -/
theorem pe_reinit {X : Cx} {cR : Str} {Cr : Addr} {e : Expr} {es : List Expr} {ta : TA} {p1 p2 pos : Pos} {pl : Sem Bool} (hg : Gl X cR) (hm : X.mg cR = some (.ref Cr)) (sg : PySem.W.specialIn X.K (.ref Cr) "__getattribute__" = some (some (.builtin "type.__getattribute__")))
    (rd : PySem.W.readsIn X.K Cr (.type "type") = true) (fc : PySem.W.findCls X.K (.ref Cr) (.type "type") "__init__" = some (.val (.builtin "ValueError.__init__"))) (ha : PA X (e :: es) ta) (hdb : (cR == ("__debug__" : Str)) = false)
    (hc : eval (.Call (.Attribute (.Name cR p1) "__init__" p2) (e :: es) [] pos) X.env = (do
      let ov ← eval (.Name cR p1) X.env
      standAt p2.atName
      let (f, first) ← holding [ov] (getMethod ov "__init__" pl)
      callWith pos f first (backTo pos (starEach (e :: es) X.env)) (backToKw pos (keywordEach [] X.env))) := by rfl)
    (he : starEach (e :: es) X.env = (false, eval e X.env) :: starEach es X.env := by rfl) (hpl : (backTo pos (starEach es X.env)).any (·.1) = false := by rfl) :
    PE X (.Call (.Attribute (.Name cR p1) "__init__" p2) (e :: es) [] pos) (tVeI X.K ta) := by
  refine ⟨fun pins s σ H Q I h => ?_⟩
  refine PySem.W.methodCall_KW (ld_glob I hg hm ?_ hdb) hc
  refine PySem.W.method_cls I.kIn sg (PySem.W.cls_value I.kIn rd fc hand_ve ?_)
  show wpAny _ _ (callWith pos (Value.builtin "ValueError.__init__") [] (backTo pos (starEach (e :: es) X.env)) []) _ _ _
  refine PyProof.Rows.callWith_method1 (thn (ha.run pos pins _ σ H _ (I.tok _) h) fun us s1 ⟨vs, H1, I1, r1, a, C, ws, ev, hl, T, ea, q⟩ => ?_) he hpl
  subst ev
  cases r1 with
  | @cons _ u0 _ ur ra rw' =>
    obtain rfl : u0 = Value.ref a := ra
    have hlen : ur.length ≤ sizeLine := by
      rw [← Paired.length rw', sizeLine_eq]
      omega
    exact oinit_ok T I1 ea hlen fun s' J => ⟨.non, H1, J, rfl, q⟩
/-- what such an __init__ does -/
def spI (K : PySem.W.Frag) (C : Addr) (f : Str) : Sp := fun vs H Q _ => ∃ (a : Addr) (i : Int), vs = [.ref a, .int i] ∧ i.natAbs.log2 < 1920 ∧ OexC K C ∧ PySem.W.findIn K (.ref C) f = some none ∧ H a = some (exo a C none) ∧
  ∀ dx, H dx = none → dx ≠ a → Q .non (upd (upd H dx (exd dx [(f, .int i)])) a (exo a C (some dx)))
/-- its body: the base's __init__ with a text around the number, then the field -/
theorem init_use {K : PySem.W.Frag} {C a : Addr} {f : Str} {i : Int} {H : Hp} {R : TS} {t1 t2 : Str} (h1 : t1.length ≤ 1000) (h2 : t2.length ≤ 1000) (hl : i.natAbs.log2 < 1920) (T : OexC K C) (hf : PySem.W.findIn K (.ref C) f = some none) (ha : H a = some (exo a C none))
    {D : Ends} (q : ∀ dx, H dx = none → dx ≠ a → R D [some (.ref a), some (.int i)] (upd (upd H dx (exd dx [(f, .int i)])) a (exo a C (some dx)))) :
    tSeq (tDrop (tVeI K (tCons (tVar 0) (tCons (fun σ H Q => tJs [tC (V.str t1), tFmt (tVar 1), tC (V.str t2)] Str.empty σ H fun out H1 => Q (V.str out) H1) tNil)))) (tSeq (tOst K f (tVar 0) (tVar 1)) R) D [some (.ref a), some (.int i)] H := by
  have l0 : Str.empty.length = 0 := rfl
  have l1 := PyProof.Rows.int_text_len_1921 hl
  have z := sizeLine_eq
  refine ⟨.ref a, rfl, ?_⟩
  show tJs [tC (V.str t1), tFmt (tVar 1), tC (V.str t2)] Str.empty [some (.ref a), some (.int i)] H _
  refine ⟨t1, rfl, by rw [Str.length_append, l0, z]; omega, ?_⟩
  refine ⟨.int i, rfl, .inr ⟨i, rfl, hl, _, rfl, by rw [Str.length_append, Str.length_append, l0, z]; omega, ?_⟩⟩
  refine ⟨t2, rfl, by rw [Str.length_append, Str.length_append, Str.length_append, l0, z]; omega, ?_⟩
  refine ⟨a, C, _, rfl, ?_, T, ha, ?_⟩
  · show 1 ≤ 1000
    decide
  · refine ⟨.int i, rfl, .ref a, rfl, a, C, rfl, T, hf, .inl ⟨ha, fun dx n ne => q dx n ne⟩⟩
/-- an own class of errors with such an __init__ -/
structure ErrI (P : Program) (w : World) (K : PySem.W.Frag) (mg : Str → Option Value) (base : Heap) (ec : EC) (c : String) (f : Str) : Prop where
  g : mg (PySem.Str.ofString c) = some (.ref (ec c))
  t : OexC K (ec c)
  no : PySem.W.findIn K (.ref (ec c)) f = some none
  i : ∃ (fI : Addr) (fd : FuncData), PySem.W.findIn K (.ref (ec c)) "__init__" = some (some (.ref fI)) ∧ PySem.W.typeIn K (.ref fI) = some (.type "function") ∧ FnOk P w K mg base (L2.CX P w) 1 fI fd ["self", f] (spI K (ec c) f) ∧ Binds K fd ["self", f] []
theorem passF {X : Cx} : Passes (L2.CX X.prog X.w) X (fun _ _ _ => False) := fun _ _ _ _ _ _ _ h => by
  obtain ⟨_, _, _, _, _, _, _, _, _, _, _, _, z⟩ := h
  exact z.elim
theorem ds_raiseF {X : Cx} {ec : EC} {W : WX} {c : String} {f : Str} {e : Expr} {φ : EX} {p pos' pos : Pos} (hc : X.calm = true) (tk : Takes X W) (T : ErrI X.prog X.w X.K X.mg X.base ec c f) (hr : Room 2 X.A) (hg : Gl X (PySem.Str.ofString c)) (ha : DE X ec W e φ)
    (hdb : ((PySem.Str.ofString c) == ("__debug__" : Str)) = false := by decide +kernel) (he : starEach [e] X.env = (false, eval e X.env) :: starEach [] X.env := by rfl) (hpl : (backTo pos' (starEach [] X.env)).any (·.1) = false := by rfl) :
    DS X ec W (.Raise (some (.Call (.Name (PySem.Str.ofString c) p) [e] [] pos')) none pos) (sErrF c f φ) := by
  obtain ⟨fI, fd, i1, i2, i3, i4⟩ := T.i
  refine psImp (ps_raise hc tk (pmk_oex (ds := []) (dvs := []) T.t i1 i2 i3 hr i4 .nil passF hg T.g (pa1D ha he) hdb he hpl)) fun D σ H ⟨r, F, F0, B, S, q⟩ => ⟨r, F, F0, B, S, (Aft.so S q).imp fun d F1 H1 _ g k v rv => ⟨by show 1 ≤ 1000; decide, fun a haN => ?_⟩⟩
  cases d with
  | int i =>
    by_cases hl : i.natAbs.log2 < 1920
    · have hv : v = .int i := rv
      subst hv
      have k' : Aft X.K ec W F0 B F1 (if i.natAbs.log2 < 1920 then some (Out.er ⟨c, some (f, .int i)⟩ r) else none) D := k
      rw [if_pos hl] at k'
      refine ⟨a, i, rfl, hl, T.t, T.no, upd_same, fun dx hdx hne => ⟨rfl, dx, [(f, .int i)], upd_same, by rw [upd_ne (Ne.symm (Ne.symm hne)), upd_same], ?_, ?_⟩⟩
      · rw [upd_ne hne] at hdx; exact hdx
      · have hd1 : H1 dx = none := by rw [upd_ne hne] at hdx; exact hdx
        have e : upd (L2.del (upd (upd (upd H1 a (exo a (ec c) none)) dx (exd dx [(f, .int i)])) a (exo a (ec c) (some dx))) a) dx (.xd [(f, .int i)]) = upd H1 dx (.xd [(f, .int i)]) := by
          funext b
          by_cases hb : b = dx
          · rw [hb, upd_same, upd_same]
          · rw [upd_ne hb, upd_ne hb]
            by_cases hba : b = a
            · rw [hba, L2.del_same, haN]
            · rw [L2.del_ne hba, upd_ne hba, upd_ne hb, upd_ne hba]
        rw [e]
        have g2 : Gr F1 H1 (upd F1 dx (.xd [(f, .int i)])) (upd H1 dx (.xd [(f, .int i)])) := Gr.new g.i hd1 _
        exact k' (some dx) σ _ _ g2.f ((S.grow g).grow g2) ⟨dx, .int i, rfl, upd_same, rfl⟩
    · have k' : Aft X.K ec W F0 B F1 (if i.natAbs.log2 < 1920 then some (Out.er ⟨c, some (f, .int i)⟩ r) else none) D := k
      rw [if_neg hl] at k'
      exact False.elim k'
  | _ => exact False.elim k
/-- try: ..; except C as n: y = n.f -/
theorem ds_tryF {X : Cx} {ec : EC} {W : WX} {body : List Stmt} {c : String} {n y f : Str} {i j : Nat} {np pn' pa py ps pos' pos : Pos} {a : SX} {tab : List ((String × String) × Bool)} (hs : X.stack = X.env :: X.outer) (hf : X.env.frame = some X.env.locals) (hN : X.N.Nodup) (hi : X.N[i]? = some n) (hln : X.env.kindOf n = some .local)
    (hj : X.N[j]? = some y) (hyl : Loc X.env.scope y) (tk : Takes X W) (T : TabT X.K ec tab) (hc : Names X (PySem.Str.ofString c) (.ref (ec c))) (XF : XfC X.K (ec c)) (hno : PySem.W.findIn X.K (.ref (ec c)) f = some none)
    (hb : ∀ (W' : WX) (pn : List (Addr × Obj)) (xe : Value → Shared → Prop), Takes (X.tr pn xe) W' → PassesOwn (model X.prog X.w) X.A X.env xe → DSs (X.tr pn xe) ec W' body a)
    (hv : Vis X.env.scope n := by first | exact Or.inl rfl | exact Or.inr (Or.inl rfl) | exact Or.inr (Or.inr rfl)) (hd : (n == ("__debug__" : Str)) = false := by decide) (hcd : (n == ("__classdict__" : Str)) = false := by decide)
    (hba : attributeBase (.Name n pn') f X.env (eval (.Name n pn') X.env) = eval (.Name n pn') X.env := by rfl) (hsw : swapsWith (.Attribute (.Name n pn') f pa) (some (.Name y py)) ps.line X.env = pure false := by rfl)
    (hfn : X.fn y = true ∨ X.env.scope.names.lookup y = some .local := by first | exact .inl rfl | exact .inr rfl | assumption) :
    DS X ec W (.Try body [.ExceptHandler (some (.Name (PySem.Str.ofString c) np)) (some n) [.Assign [.Name y py] (.Attribute (.Name n pn') f pa) ps] pos'] [] [] pos) (sTryF tab a c i j f) :=
  psImp (ps_try_as hs hf hN hi hln hc tk (tb := fun W' => tS X.K ec W' a) hb (fun ad oe cls d pn hz hfl => pss_one (ps_set (X := X.suite ad ((ad, oe) :: pn)) hN hj hyl (pe_xf XF hno hz hfl (pe_var (X := X.suite ad ((ad, oe) :: pn)) hi hv hd hcd) hba) hsw hfn))) fun D σ H ⟨r, F, F0, B, S, q⟩ => by
    refine ⟨r, F, F0, B, S, ?_⟩
    have q' : Aft X.K ec W F0 B F (sTryF tab a c i j f r) D := q
    unfold sTryF at q'
    revert q'
    match a r with
    | none => exact fun z => z
    | some (.nx r1) => exact fun z => z
    | some (.bk r1) => exact fun z => z
    | some (.ct r1) => exact fun z => z
    | some (.ro i r1) => exact fun z => z
    | some (.ri d r1) => exact fun z => z
    | some (.rl xs) => exact fun z => z
    | some (.rt d) => exact fun z => z
    | some (.er e r1) =>
      intro z dx σ' F' H' sf S' he
      dsimp only at z
      cases hl : tab.lookup (e.cls, c) with
      | none => rw [hl] at z; exact False.elim z
      | some k =>
        rw [hl] at z
        refine ⟨k, T _ _ _ hl, fun hk ad _ => ?_, fun hk => ?_⟩
        · subst hk
          dsimp only at z
          unfold ErrOk at he
          cases hfl : e.fld with
          | none => rw [hfl] at z; exact False.elim z
          | some gd =>
            obtain ⟨g, d⟩ := gd
            rw [hfl] at z he
            dsimp only at z he
            split at z
            · rename_i hcond
              obtain ⟨rfl, hcls, hlt⟩ := hcond
              obtain ⟨dd, v, rfl, h1, h2⟩ := he
              have hlen : i < σ'.length := by rw [← S'.len]; exact hlt
              refine ⟨.ref ad, List.getElem?_set_self hlen, rfl, by rw [hcls], dd, _, v, rfl, S'.sub _ _ h1, ?_, ?_⟩
              · simp [List.lookup]
              · exact z _ F' H' sf (((S'.unset (i := i) (y0 := some (.ref ad))).set (i := j) h2).unset (i := i) (y0 := none))
            · exact False.elim z
        · subst hk
          exact z dx σ' F' H' sf S' he
/-- what must be written of the class, as a truth -/
def oexF (K : PySem.W.Frag) (C : Addr) : Bool := (match K.lookup C with
  | some ⟨.type "type", _, .cls cd, sl⟩ => (match cd.mro, sl.toList with
    | .ref C' :: bm, [_, _, _, _, some (.builtin n), _] => C' == C && n == "ValueError.__new__" && !cd.hasDel && cd.hasDict && PySem.HandSPX.refsVE bm
    | _, _ => false)
  | _ => false) && (decide (PySem.W.findIn K (.ref C) "__setattr__" = some (some (.builtin "object.__setattr__"))) && (decide (PySem.W.subIn K (.ref C) (.type "BaseException") = some true) && (decide (PySem.W.typeIn K (.ref C) = some (.type "type")) && PySem.W.keepIn K (.ref C))))
theorem oexF_ok {K : PySem.W.Frag} {C : Addr} (h : oexF K C = true) : OexC K C := by
  unfold oexF at h
  rw [Bool.and_eq_true, Bool.and_eq_true, Bool.and_eq_true, Bool.and_eq_true, decide_eq_true_eq, decide_eq_true_eq, decide_eq_true_eq] at h
  obtain ⟨q, h1, h2, h3, h4⟩ := h
  refine ⟨?_, h1, h2, h3, h4⟩
  split at q
  · rename_i dd cd sl ho
    split at q
    · rename_i C' bm k0 k1 k2 k3 n k5 hm hs
      simp only [Bool.and_eq_true, beq_iff_eq, Bool.not_eq_true'] at q
      obtain ⟨⟨⟨⟨rfl, rfl⟩, hdel⟩, hdict⟩, hv⟩ := q
      obtain ⟨nm, bs, mro, ns, qn, hd, sn, sub, ab, col, del⟩ := cd
      dsimp only at hm hdel hdict
      subst hm hdel hdict
      have hsl : sl = #[k0, k1, k2, k3, some (.builtin "ValueError.__new__"), k5] := by
        obtain ⟨l⟩ := sl
        simp only at hs
        rw [hs]
      subst hsl
      exact ⟨nm, qn, ns, bs, bm, sn, sub, ab, col, dd, k0, k1, k2, k3, k5, ho, hv⟩
    · cases q
  · cases q
end DL
/-! Caught errors that stay: an object of the heap like others. -/
namespace DL
open PySem PySem.Spec PyProof.Rows L2
section
variable {X : Cx} {pins : List (Addr × Obj)} {σ : L2.St} {H : Hp} {s : Shared} {a C : Addr} {d : Option Addr} {oe : Obj} {vs : Array Value}
theorem exk_ok {P : Program} {w : World} {H : Hp} {h : Heap} (he : h.get? a = some oe) (hc : oe.cls = .ref C) (hd : oe.dict = d) (hf : oe.data = .fields vs) : ObjOk P w H h a (exk a C d) :=
  ⟨⟨oe, vs, he, hc, hd, hf⟩, ⟨_, he⟩, fun h1 h2 ⟨o, vs', e, r⟩ k => ⟨o, vs', k o e, r⟩⟩
theorem exk_at {P : Program} {w : World} {H : Hp} {h : Heap} (hok : HOk P w H h) (e : H a = some (exk a C d)) : ∃ (o : Obj) (vs : Array Value), h.get? a = some o ∧ o.cls = .ref C ∧ o.dict = d ∧ o.data = .fields vs := (hok a _ e).1
/-- an object that stands in the heap is tracked from now on -/
theorem track (I : Inv X pins σ H s) {o : HO} (na : H a = none) (nL : a ≠ X.env.locals) (nc : ∀ v, ¬ s.heap.IsCell a v) (n0 : ∀ ob, X.s_0.heap.get? a = some ob → a ∈ X.ex) (np : ∀ p ∈ X.pn ++ pins, p.1 ≠ a)
    (new : ObjOk X.prog X.w (upd H a o) s.heap a o) : Inv X pins σ (upd H a o) s where
  ok := I.ok
  os := I.os
  bare := I.bare
  base :=
    { keep := I.base.keep
      slot := I.base.slot
      free := fun b ob e n x => by
        have hb : b ≠ a := fun z => x (by rw [z]; exact n0 ob (by rw [← z]; exact e))
        rw [upd_ne hb]
        exact I.base.free b ob e n x
      there := I.base.there
      tups := fun b xs e => by
        have q := I.base.tups b xs e
        rw [upd_ne (ne_of_none q na)]
        exact q
      frzs := fun b ob u e => by
        have q := I.base.frzs b ob u e
        rw [upd_ne (ne_of_none q na)]
        exact q
      tbls := fun b ps e => by
        obtain ⟨more, q⟩ := I.base.tbls b ps e
        exact ⟨more, by rw [upd_ne (ne_of_none q na)]; exact q⟩ }
  loc := I.loc
  cell := I.cell
  free := by rw [upd_ne (Ne.symm nL)]; exact I.free
  freeC := fun x c e => by
    have hc : c ≠ a := fun z => by
      obtain ⟨v, q⟩ := I.cell x c e
      rw [z] at q
      exact nc v q
    rw [upd_ne hc]
    exact I.freeC x c e
  pin := fun p hp => by
    obtain ⟨h1, h2, h3⟩ := I.pin p hp
    exact ⟨h1, by rw [upd_ne (np p hp)]; exact h2, h3⟩
  hok := I.hok.laidN (fun _ _ q => q) na new
  len := I.len
theorem suiteT (I : Inv X pins σ H s) : Inv (X.suite a (X.pn ++ pins)) [] σ H s :=
  ⟨I.ok.suite _ _, I.os, I.bare, I.base, I.loc, I.cell, I.free, I.freeC, fun p hp => I.pin p (by rw [List.append_nil] at hp; exact hp), I.hok, I.len⟩
theorem unsuiteT {pn' : List (Addr × Obj)} (I : Inv (X.suite a (X.pn ++ pins)) pn' σ H s) (ok : X.Ok) : Inv X pins σ H s :=
  ⟨ok, I.os, I.bare, I.base, I.loc, I.cell, I.free, I.freeC, fun p hp => I.pin p (List.mem_append_left _ hp), I.hok, I.len⟩
end
abbrev TEx := Addr → Value → Option Addr → TS
def gone (i : Nat) (D : Ends) : Ends := { nx := fun σ' H' => D.nx (σ'.set i none) H', rt := D.rt, bk := fun σ' H' => D.bk (σ'.set i none) H', ct := fun σ' H' => D.ct (σ'.set i none) H' }
/-- what the clauses wish, each keeping the error under a name -/
def wKeep (K : PySem.W.Frag) (Wout : WX) (D : Ends) : List (Value × Nat × TEx) → WX
  | [] => Wout
  | (c, i, ts) :: r => fun cls d σ H => ∃ b, PySem.W.exmOne K cls c = some b ∧ (b = true → ∃ C, cls = .ref C ∧ ∀ a, H a = none → ts a cls d (gone i D) (σ.set i (some (.ref a))) (upd H a (exk a C d))) ∧
      (b = false → wKeep K Wout D r cls d σ H)
inductive HdsK (X : Cx) : List ExceptHandler → List (Value × Nat × TEx) → Prop
  | nil : HdsK X [] []
  | cons {x n : Str} {c : Value} {i : Nat} {ts : TEx} {b₀ : Stmt} {suite : List Stmt} {np pos' : Pos} {hds : List ExceptHandler} {l : List (Value × Nat × TEx)} (hc : Names X x c) (hi : X.N[i]? = some n) (hln : X.env.kindOf n = some .local)
      (hsu : ∀ (a : Addr) (cls : Value) (d : Option Addr) (pn : List (Addr × Obj)), PSs (X.suite a pn) (b₀ :: suite) (ts a cls d)) (r : HdsK X hds l) :
      HdsK X (.ExceptHandler (some (.Name x np)) (some n) (b₀ :: suite) pos' :: hds) ((c, i, ts) :: l)
section
variable {X : Cx} {body : List Stmt} {h₀ : ExceptHandler} {hds : List ExceptHandler} {l : List (Value × Nat × TEx)} {pos : Pos} {tb : WX → TS} {Wout : WX}
theorem ps_try_keep (hs : X.stack = X.env :: X.outer) (hf : X.env.frame = some X.env.locals) (hN : X.N.Nodup) (tk : Takes X Wout)
    (hb : ∀ (W : WX) (pn : List (Addr × Obj)) (xe : Value → Shared → Prop), Takes (X.tr pn xe) W → PassesOwn (model X.prog X.w) X.A X.env xe → PSs (X.tr pn xe) body (tb W))
    (hh : HdsK X (h₀ :: hds) l) : PS X (.Try body (h₀ :: hds) [] [] pos) (fun D σ H => tb (wKeep X.K Wout D l) D σ H) := by
  refine ⟨fun pins s σ H D I h => ?_⟩
  have ok := I.ok
  have hfr : X.A.frames = some (X.env :: X.outer) := by rw [ok.frames, hs]
  refine wpAny_Try_except ?_
  refine wpAny_mono ((hb (wKeep X.K Wout D l) (X.pn ++ pins) (fun e s₁ => wpAny (model X.prog X.w) X.A (noteFrame e X.env) (fun _ s₂ => wpAny (model X.prog X.w) X.A (setFlight e none) (fun _ s₃ =>
    wpAny (model X.prog X.w) X.A (handleBy e X.env (h₀ :: hds)) (SP X pins D) X.xe s₃) X.xe s₂) X.xe s₁) (fun u s' xx => ?_) PassesOwn.looking).run [] s σ H D (I.toTry _) h) (fun f s1 hsp => ?_) (fun e s1 he => he)
  · obtain ⟨a, B, sI, pins', σ', H', cls, d, rfl, J', nb, up, sky, na, os, ag, w⟩ := xx
    have J : Inv X pins σ' H' sI := J'.ofTry ok
    have sky' : Sky B (X.env :: X.outer) a (Zc cls d) X.env.locals s'.heap := by rw [← hs]; exact sky
    show wpAny (model X.prog X.w) X.A (noteFrame (.ref a) X.env) _ _ _
    refine Sky.land Zc.steady hfr hf sky' fun h3 fl3 up3 => ?_
    have J3 : Inv X pins σ' H' { s' with heap := h3 } := J.landed nb fl3.1 (up.trans up3) os ag
    obtain ⟨oe3, vs3, he3, hz3, hd3⟩ := fl3.there
    have nfr : a ∉ frs (X.env :: X.outer) := fun hm => by
      obtain ⟨_, o', e', hnf⟩ := fl3.2.2.1.mem hm
      rw [he3] at e'; cases e'
      exact hnf _ hd3
    have nL : a ≠ X.env.locals := fun z => nfr (List.mem_filterMap.mpr ⟨X.env, List.mem_cons_self, by rw [hf, z]⟩)
    have nF : a ∉ X.fs := fun hm => by
      obtain ⟨e, he, q⟩ := List.mem_filterMap.mp hm
      exact nfr (List.mem_filterMap.mpr ⟨e, List.mem_cons_of_mem _ he, q⟩)
    have nI : ∀ o, sI.heap.get? a = some o → False := fun o e => by
      have q := nb a o e (by rw [hs]; exact nfr)
      rw [fl3.2.1] at q
      cases q
    have n0 : ∀ ob, X.s_0.heap.get? a = some ob → a ∈ X.ex := fun ob e => Classical.byContradiction fun c => by
      obtain ⟨o', q⟩ := J.base.there a ob e c
      exact nI o' q
    have np : ∀ p ∈ X.pn ++ pins, p.1 ≠ a := fun p hp z => by
      obtain ⟨q, _⟩ := J.pin p hp
      rw [z] at q
      exact nI _ q
    have S3 := J3.suite he3 hd3 na nL nF
    have go : ∀ {hds' : List ExceptHandler} {l' : List (Value × Nat × TEx)}, HdsK X hds' l' → wKeep X.K Wout D l' cls d σ' H' →
        wpAny (model X.prog X.w) X.A (handleBy (.ref a) X.env hds') (SP X pins D) X.xe { s' with heap := h3 } := by
      intro hds' l' hk
      induction hk with
      | nil =>
        intro w
        refine wpAny_handleBy_nil ?_
        obtain ⟨k1, k2, k3, oe, vs, T, oT, ts', he, hz, hd, h1, hr⟩ := id fl3
        unfold PySem.passOn
        refine wpAny_bind (wpAny_field he hd h1 ?_)
        rw [if_neg (show ¬ ((Value.ref T == Value.none) = true) from by simp)]
        have fin : wpAny (model X.prog X.w) X.A (setFlight (.ref a) X.env.frame) (fun _ s4 => wpAny (model X.prog X.w) X.A (throw (.ref a) : Sem Flow) (SP X pins D) X.xe s4) X.xe { s' with heap := h3 } := by
          rw [hf]
          refine HandSPX.setFlight_upZ fl3 fun h4 hh4 up4 => wpAny_throw (tk _ _ ?_)
          exact ⟨a, B, sI, pins, σ', H', cls, d, rfl, J, nb, (up.trans up3).trans up4, .inr (.inr (by rw [hs]; exact hh4)), na, os, ag, w⟩
        first
          | exact wpAny_bind (wpAny_pure (wpAny_bind fin))
          | exact wpAny_bind fin
      | @cons x n c i ts b₀ suite np' pos' hds2 l2 hc hi hln hsu r ih =>
        intro w
        obtain ⟨b, hb1, hyes, hno⟩ := w
        have hloc : Loc X.env.scope n := .inl hln
        refine wpAny_handleBy_cons (codeAny_handlers_test ?_) (by intro q; cases q)
        have LT : PySem.W.Looks (model X.prog X.w) h3 (typeOf (.ref a)) cls := fun A Q E s k q => wpAny_typeOf_ref (k _ _ he3) (by rw [hz3.1]; exact q)
        have LM := PySem.W.exm_one (M := model X.prog X.w) (J3.kIn) LT hb1
        have test : ∀ {Q : Value → Shared → Prop} {E : Value → Shared → Prop}, Q c { s' with heap := h3 } → wpAny (model X.prog X.w) (X.A.mark (some (.ref a))) (eval (.Name x np') X.env) Q E { s' with heap := h3 } := fun {Q E} q => by
          obtain ⟨hg, hdbg, hm | ⟨hm, hv, hnn⟩⟩ := hc
          · exact ld_glob (X := X.suite a ((a, oe3) :: (X.pn ++ pins))) S3 hg hm q hdbg
          · exact ld_blt (X := X.suite a ((a, oe3) :: (X.pn ++ pins))) S3 hg hm hv q hnn hdbg
        refine test (LM.here ?_)
        cases b with
        | true =>
          obtain ⟨C, hC, hts⟩ := hyes rfl
          refine codeAny_handlers_suite_as ?_
          refine HandSPX.lands_againZ fl3 fun h4 fl4 up4 => ?_
          have J4 : Inv X pins σ' H' { s' with heap := h4 } := J.landed nb fl4.1 ((up.trans up3).trans up4) os ag
          obtain ⟨oe4, vs4, he4, hz4, hd4⟩ := fl4.there
          have S4 := suiteT (a := a) (track (o := exk a C d) J4 na nL (fun v q => by
            obtain ⟨o, e1, e2⟩ := q
            rw [he4] at e1
            cases e1
            rw [hd4] at e2
            cases e2) n0 np (exk_ok he4 (hz4.1.trans hC) hz4.2 hd4))
          refine store_ok (X := X.suite a (X.pn ++ pins)) (v := .ref a) S4 hN hi hloc rfl (fun s5 S5 => ?_) (.inr hln)
          refine wpAny_mono ((hsu a cls d (X.pn ++ pins)).run [] s5 _ _ _ S5 (hts a na)) (fun f s6 hsp => ?_) (fun _ _ z => False.elim z)
          have end_ : ∀ {σ6 : L2.St} {H6 : Hp} {Q : Shared → Prop}, Inv (X.suite a (X.pn ++ pins)) [] σ6 H6 s6 → (∀ s7, Inv X pins (σ6.set i none) H6 s7 → Q s7) →
              wpAny (model X.prog X.w) X.A (do bindName X.env n .none; unbindBehindTheSuite X.env n pos') (fun _ s7 => Q s7) X.xe s6 := fun {σ6 H6 Q} S6 hq => gone_ok (unsuiteT S6 ok) hN hi hln hq
          cases f with
          | next =>
            obtain ⟨σ6, H6, S6, q6⟩ := hsp
            exact end_ S6 fun s7 J7 => ⟨_, _, J7, q6⟩
          | brk =>
            obtain ⟨σ6, H6, S6, q6⟩ := hsp
            exact end_ S6 fun s7 J7 => ⟨_, _, J7, q6⟩
          | cont =>
            obtain ⟨σ6, H6, S6, q6⟩ := hsp
            exact end_ S6 fun s7 J7 => ⟨_, _, J7, q6⟩
          | ret u =>
            obtain ⟨v6, σ6, H6, S6, r6, q6⟩ := hsp
            exact end_ S6 fun s7 J7 => ⟨_, _, _, J7, r6, q6⟩
        | false =>
          show wpAny _ X.A (handleBy (.ref a) X.env hds2) _ _ _
          exact ih (hno rfl)
    exact go hh w
  · cases f with
    | next =>
      obtain ⟨σ', H', J', q⟩ := hsp
      exact wpAny_execs_nil ⟨σ', H', J'.ofTry ok, q⟩
    | brk =>
      obtain ⟨σ', H', J', q⟩ := hsp
      exact ⟨σ', H', J'.ofTry ok, q⟩
    | cont =>
      obtain ⟨σ', H', J', q⟩ := hsp
      exact ⟨σ', H', J'.ofTry ok, q⟩
    | ret u =>
      obtain ⟨v, σ', H', J', r, q⟩ := hsp
      exact ⟨v, σ', H', J'.ofTry ok, r, q⟩
end
end DL
set_option maxHeartbeats 1600000
/-! Caught errors: isinstance, fields, kept under a name, passed to a def. -/
namespace PySem.W
open PySem PySem.Spec PySem.Calls PyProof.Rows
section
variable {prog : Program} {w : World} {A : Around} {E : Value → Shared → Prop} {s : Shared} {K : Frag} {x D : Addr} {ox : Obj} {od : Option Obj}
theorem findObj_bnd {C : Addr} {name : Str} {a g : Value} (hc : (clsIn K C).isSome = true) (ha : findIn K (.ref C) name = some (some a)) (hg : specialIn K a "__get__" = some (some g)) (ht : takesIn K a = some true) : findObj K C od name = some (.bind g a) := by
  obtain ⟨cd, hc⟩ := Option.isSome_iff_exists.mp hc
  unfold findObj
  rw [hc, Option.bind_some, ha, Option.bind_some]
  simp [hg, ht]
theorem kin_classO (hga : findIn K (.ref D) "__getattribute__" = some (some (.builtin "BaseException.__getattribute__"))) (hgt : findIn K (.ref D) "__getattr__" = some none) (hsub : subIn K (.ref D) (.type "BaseException") = some true)
    (hdct : hasDictIn K D = true) (ha : findIn K (.ref D) "__class__" = some (some (.builtin "object.__class__")))
    (hn : specialIn K (.builtin "object.__class__") "__get__" = some (some (.builtin "getset_descriptor.__get__"))) (htk : takesIn K (.builtin "object.__class__") = some true) (hm : mroIn K D (.type "object") = some true)
    {Q : Option Value → Shared → Prop} (X : K.In s.heap) (I : InstAt s.heap x ox D od) (h : Q (some (.ref D)) { s with toks := s.toks + 1 }) : wpAny (model prog w) A (getAttr? (.ref x) "__class__") Q E s := by
  have hf : findObj K D od "__class__" = some (.bind (.builtin "getset_descriptor.__get__") (.builtin "object.__class__")) := findObj_bnd (by obtain ⟨cd, hc, _⟩ := any_some hdct; rw [hc]; rfl) ha hn htk
  obtain ⟨hp, g, d, t, os⟩ := s
  have L0 := I.type (M := model prog w)
  have L1 := looks_findIn (M := model prog w) X hga
  have L2 := looks_findIn (M := model prog w) X hgt
  have L3 := looks_find (M := model prog w) X I hf
  have sub : Looks (model prog w) hp (isInstance (.ref x) (.type "BaseException")) true := L0.andThen (looks_subIn X hsub)
  have hx0 : (false && onTheHeap (Value.builtin "BaseException.__getattribute__")) = false := rfl
  have hx2 : (Value.builtin "BaseException.__getattribute__" == Value.builtin "object.__getattribute__") = false := by decide +kernel
  have hx1 : (onTheHeap (Value.ref D) && Value.builtin "BaseException.__getattribute__" == Value.builtin "object.__getattribute__") = false := by rw [hx2]; rfl
  unfold getAttr? getAttrBy? getAttrBy
  refine wpAny_bind (wpAny_mkText (wpAny_bind (wpAny_attempt (wpAny_holding (wpAny_bind (L0.at (wpAny_bind (L1.at ?_))))))))
  show wpAny _ _ (if (onTheHeap (Value.ref D) && Value.builtin "BaseException.__getattribute__" == Value.builtin "object.__getattribute__") = true then _ else _) _ _ _
  rw [hx1, if_neg Bool.false_ne_true]
  unfold getAttrByItsOwn hookBefore
  refine wpAny_bind ?_
  rw [if_pos (show onTheHeap (Value.ref D) = true from rfl)]
  refine L2.at ?_
  refine wpAny_bind (wpAny_attempt (wpAny_holding ?_))
  unfold callGetattribute
  rw [hx0, if_neg Bool.false_ne_true]
  unfold boundAndCalled
  rw [PySem.F.excAttr_ValueError.ga.bind (.ref x)]
  refine wpAny_bind (wpAny_pure ?_)
  show wpAny _ _ (call (.builtin "BaseException.__getattribute__") [.ref x, .str "__class__" t]) _ _ _
  refine wpAny_call (codeAny_call_builtin PySem.F.excAttr_ValueError.ga.plain PySem.F.entry_bexc_ga ?_)
  refine @check_slot (model prog w) _ _ ⟨hp, g, d, t + 1, os⟩ "BaseException.__getattribute__" "BaseException" "__getattribute__" (.ref x) [.str "__class__" t] [] _ (by decide +kernel) (by decide +kernel) sub (PySem.F.args_bexc_ga (.ref x) (.str "__class__" t)) ?_
  unfold Builtin.«object.__getattribute__»
  refine wpAny_bind (wpAny_of_eq (a := ((Value.ref x : Value), [Value.str "__class__" t])) (by first | rfl | (simp only [slotArgs]; rfl)) ?_)
  refine wpAny_bind (wpAny_pure (wpAny_bind (L0.at (wpAny_bind (L3.at ?_)))))
  show wpAny _ _ (holding [Value.builtin "object.__class__"] (call (.builtin "getset_descriptor.__get__") [.builtin "object.__class__", .ref x, .ref D]) >>= ret) _ _ _
  refine wpAny_bind (wpAny_holding (wpAny_call (class_get (s := ⟨hp, g, d, t + 1, os⟩) (ox := ox) (od := od) X I hm ?_)))
  refine wpAny_pure ?_
  show wpAny _ _ (handedOut (.ref D)) _ _ _
  rw [handedOut_of (v := .ref D) rfl]
  first
    | exact wpAny_pure (wpAny_pure h)
    | exact wpAny_pure h
    | exact wpAny_pure (wpAny_bind (wpAny_pure (wpAny_pure h)))
end
end PySem.W
namespace DL
open PySem PySem.Spec PyProof.Rows L2
theorem kitx_keep {K : PySem.W.Frag} {x D : Addr} {ox : Obj} {od : Option Obj} (C : ExcC K D) : PySem.W.KitX K (.ref x) (.ref D) (fun h => PySem.W.InstAt h x ox D od) where
  ty := fun _ _ _ I => I.type
  it := fun _ _ X _ => by
    obtain ⟨cdD, hcD, _⟩ := PySem.W.any_some C.hd
    unfold PySem.W.clsIn at hcD
    split at hcD
    · rename_i c' d' cd' sl' ho
      intro A' Q' E' s' k q
      unfold isType loadHead
      exact wpAny_bind (wpAny_loadPart (k _ _ (X _ _ ho)) (wpAny_pure q))
    · cases hcD
  ne := (PySem.W.handS_kitx_exc (x := x) (ox := { cls := .ref D, dict := none, data := .fields #[] }) C.hg C.hk C.hs C.hd C.ha C.hn C.ht C.hm).ne
  ca := fun X I k => PySem.W.kin_classO C.hg C.hk C.hs C.hd C.ha C.hn C.ht C.hm X I k
/-- isinstance(e, c), e a kept error -/
def rIsK (K : PySem.W.Frag) : List V → Hp → VK → Prop := fun xs H Q => ∃ (c : V) (cv : Value) (b : Bool) (a D : Addr) (dx : Option Addr), xs = [.ref a, c] ∧ (∀ u, RelV c u → u = cv) ∧ H a = some (exk a D dx) ∧
  (dx = none ∨ ∃ dd fs, dx = some dd ∧ H dd = some (.xd fs)) ∧ ExcC K D ∧ PySem.W.kitOne K (.ref D) cv = some b ∧ Q (.bl b) H
theorem cr_isK {X : Cx} : CallR X (.builtin "isinstance") (rIsK X.K) := by
  intro pins s σ H xs us Q I r h
  obtain ⟨c, cv, b, a, D, dx, rfl, hcv, ea, hd, C, e, q⟩ := h
  cases r with
  | cons rx rr =>
    cases rr with
    | cons rt rr =>
      cases rr
      cases rx
      have ec := hcv _ rt
      subst ec
      obtain ⟨oe, vs, hget, hc, hdi, hf⟩ := exk_at I.hok ea
      have J : ∃ od, PySem.W.InstAt s.heap a oe D od := by
        have hn : PySem.W.notCls oe = true := by unfold PySem.W.notCls; rw [hf] <;> rfl
        rcases hd with rfl | ⟨dd, fs, rfl, ed⟩
        · exact ⟨none, hget, hc, hn, by rw [hdi]; trivial⟩
        · have hx : ObjOk X.prog X.w H s.heap dd (.xd fs) := I.hok dd _ ed
          obtain ⟨mA, hns, _⟩ := hx
          obtain ⟨od, ho, _⟩ := lookIn_ns hns
          exact ⟨some od, hget, hc, hn, by rw [hdi]; exact ho⟩
      obtain ⟨od, J⟩ := J
      exact PySem.W.kia_one (kitx_keep C) I.kIn J e (fun z => nomatch z) fun tk => ⟨.bl b, H, I.kept (t' := tk) fun _ _ z => z, rfl, q⟩
/-- a class by its name -/
def cvOf (ec : EC) (T : String) : Value := if T = "ValueError" then .type T else .ref (ec T)
/-- what tab tells of isinstance -/
def TabI (K : PySem.W.Frag) (ec : EC) (tab : List ((String × String) × Bool)) : Prop := ∀ c T b, tab.lookup (c, T) = some b → PySem.W.nsIn K mainGlobals (PySem.Str.ofString c) = some (some (.ref (ec c))) ∧ ExcC K (ec c) ∧ PySem.W.kitOne K (.ref (ec c)) (cvOf ec T) = some b
section
variable {X : Cx} {ec : EC} {W : WX} {tab : List ((String × String) × Bool)} {i j : Nat} {n y f : Str} {p p1 p2 pos ps : Pos} {T : String}
theorem FldOk.dx {K : PySem.W.Frag} {F H : Hp} (e : Same F H) {dx : Option Addr} : ∀ {o : Option (Str × D)}, FldOk K F dx o → dx = none ∨ ∃ dd fs, dx = some dd ∧ H dd = some (.xd fs)
  | none, h => .inl h
  | some (_, _), ⟨dd, v, q, h1, _⟩ => .inr ⟨dd, _, q, e _ _ h1⟩
theorem de_isE {eT : Expr} {cV : V} (TI : TabI X.K ec tab) (hi : X.N[i]? = some n) (hv : Vis X.env.scope n) (hg : Gl X "isinstance") (hm : X.mg "isinstance" = none) (hT : PE X eT (tC cV)) (hr : ∀ u, RelV cV u → u = cvOf ec T)
    (hd : (n == ("__debug__" : Str)) = false := by decide) (hcd : (n == ("__classdict__" : Str)) = false := by decide)
    (he : starEach [.Name n p1, eT] X.env = (false, eval (.Name n p1) X.env) :: starEach [eT] X.env := by rfl) (he2 : starEach [eT] X.env = (false, eval eT X.env) :: starEach [] X.env := by rfl) (hpl : (backTo pos (starEach [eT] X.env)).any (·.1) = false := by rfl) :
    DE X ec W (.Call (.Name "isinstance" p) [.Name n p1, eT] [] pos) (vIsE tab i T) :=
  peImp (pe_callB cr_isK hg hm boot_isinstance (pa_cons (pe_var hi hv hd hcd) (pa_cons hT pa_nil he2) he) (by decide) (by decide) he hpl) fun σ H Q ⟨r, F, F0, B, S, q⟩ => by
    have q' : Thn X.K ec W (vIsE tab i T r) σ F H fun d F' H' => ∀ v, Rep X.K F' d v → Q v H' := q
    unfold vIsE at q'
    split at q'
    · rename_i c g es
      split at q'
      · rename_i b el
        obtain ⟨z, e1, a, C, dx, e2, h0, h1, h2⟩ := S.ok _ _ es
        subst e2
        obtain ⟨C0, C1, C2⟩ := TI _ _ _ el
        rw [h0] at C0
        cases C0
        have k := Thn.ok S.gr.i q'
        exact ⟨.ref a, e1, ⟨cV, cvOf ec T, b, a, _, dx, rfl, hr, S.gr.i _ _ h1, h2.dx S.gr.i, C1, C2, k _ rfl⟩⟩
      · exact False.elim q'
    · exact False.elim q'
/-- e.f, e a kept error -/
def tXk (K : PySem.W.Frag) (f : Str) (te : TE) : TE := fun σ H Q => te σ H fun x H1 => ∃ (a C dd : Addr) (fs : List (Str × V)) (v : V), x = .ref a ∧ H1 a = some (exk a C (some dd)) ∧ XfC K C ∧ PySem.W.findIn K (.ref C) f = some none ∧ H1 dd = some (.xd fs) ∧ fs.lookup f = some v ∧ Q v H1
theorem pe_xk {e : Expr} {te : TE} (he : PE X e te) (hb : attributeBase e f X.env (eval e X.env) = eval e X.env := by rfl) : PE X (.Attribute e f pos) (tXk X.K f te) := by
  refine ⟨fun pins s σ H Q I h => ?_⟩
  refine attr_of hb (thn (he.run pins s σ H _ I h) fun u s1 hh => ?_)
  obtain ⟨x, H1, I1, rx, a, C, dd, fs, v, ex, ea, T, hno, ed, l, q⟩ := hh
  subst ex
  obtain rfl : u = Value.ref a := rx
  obtain ⟨oe, vs, hget, hc, hdi, hf⟩ := exk_at I1.hok ea
  have hx : ObjOk X.prog X.w H1 s1.heap dd (.xd fs) := I1.hok dd _ ed
  obtain ⟨mA, hns, hr⟩ := hx
  obtain ⟨od, ho, hl⟩ := lookIn_ns hns
  obtain ⟨u, hu, ru⟩ := RelO.some_of (v := v) (o := mA f) (by rw [← l]; exact hr f)
  have J : PySem.W.InstAt s1.heap a oe C (some od) := ⟨hget, hc, by unfold PySem.W.notCls; rw [hf] <;> rfl, by rw [hdi]; exact ho⟩
  exact HandSPX.exc_get I1.kIn J T.ga T.gg T.exC (PySem.W.findObj_own T.hdC hno rfl (by rw [hl, hu])) (handed_of ru) ⟨v, H1, I1.tok _, ru, q⟩
/-- the classes whose errors keep f -/
def Keeps (K : PySem.W.Frag) (ec : EC) (cl : List String) (f : Str) : Prop := ∀ c ∈ cl, PySem.W.nsIn K mainGlobals (PySem.Str.ofString c) = some (some (.ref (ec c))) ∧ XfC K (ec c) ∧ PySem.W.findIn K (.ref (ec c)) f = some none
theorem de_fldE {cl : List String} (TK : Keeps X.K ec cl f) (hi : X.N[i]? = some n) (hv : Vis X.env.scope n) (hb : attributeBase (.Name n p1) f X.env (eval (.Name n p1) X.env) = eval (.Name n p1) X.env := by rfl) (hd : (n == ("__debug__" : Str)) = false := by decide) (hcd : (n == ("__classdict__" : Str)) = false := by decide) :
    DE X ec W (.Attribute (.Name n p1) f pos) (vFldE cl i f) :=
  peImp (pe_xk (pe_var hi hv hd hcd) hb) fun σ H Q ⟨r, F, F0, B, S, q⟩ => by
    have q' : Thn X.K ec W (vFldE cl i f r) σ F H fun d F' H' => ∀ v, Rep X.K F' d v → Q v H' := q
    unfold vFldE at q'
    split at q'
    · rename_i c g d es
      split at q'
      · rename_i hh
        obtain ⟨eg, hc⟩ := hh
        obtain ⟨z, e1, a, C, dx, e2, h0, h1, dd, v, e3, h2, h3⟩ := S.ok _ _ es
        subst e2 e3 eg
        obtain ⟨T0, T1, T2⟩ := TK c (List.contains_iff_mem.mp hc)
        rw [h0] at T0
        cases T0
        have k := Thn.ok S.gr.i q'
        exact ⟨.ref a, e1, a, _, dd, _, v, rfl, S.gr.i _ _ h1, T1, T2, S.gr.i _ _ h2, by simp [List.lookup], k v h3⟩
      · exact False.elim q'
    · exact False.elim q'
/-- j = i -/
theorem ds_copyE (hN : X.N.Nodup) (hj : X.N[j]? = some y) (hyl : Loc X.env.scope y) (hi : X.N[i]? = some n) (hv : Vis X.env.scope n) (hd : (n == ("__debug__" : Str)) = false := by decide) (hcd : (n == ("__classdict__" : Str)) = false := by decide)
    (hsw : swapsWith (.Name n p1) (some (.Name y p2)) ps.line X.env = pure false := by rfl) (hfn : X.fn y = true ∨ X.env.scope.names.lookup y = some .local := by first | exact .inl rfl | exact .inr rfl | assumption) :
    DS X ec W (.Assign [.Name y p2] (.Name n p1) ps) (sCopyE j i) :=
  psImp (ps_set hN hj hyl (pe_var hi hv hd hcd) hsw hfn) fun D σ H ⟨r, F, F0, B, S, q⟩ => by
    have q' : Aft X.K ec W F0 B F (sCopyE j i r) D := q
    unfold sCopyE at q'
    split at q'
    · rename_i c g es
      obtain ⟨z, e1, a, C, dx, e2, h0, h1, h2⟩ := S.ok _ _ es
      subst e2
      exact ⟨.ref a, e1, q' _ F H (Same.refl _) (S.put (Gr.refl S.gr.i) (s := .ex c g) ⟨a, C, dx, rfl, h0, h1, h2⟩ (fun _ f => False.elim f) fun _ z => nomatch z)⟩
    · exact False.elim q'
/-- the clauses -/
inductive HdsE (X : Cx) (ec : EC) (W : WX) : List ExceptHandler → List (String × Nat × SX) → Prop
  | nil : HdsE X ec W [] []
  | cons {c : String} {i : Nat} {n : Str} {b₀ : Stmt} {suite : List Stmt} {np pos' : Pos} {hds : List ExceptHandler} {b : SX} {l : List (String × Nat × SX)} (hc : Names X (PySem.Str.ofString c) (.ref (ec c))) (hi : X.N[i]? = some n) (hln : X.env.kindOf n = some .local)
      (hs : ∀ (a : Addr) (pn : List (Addr × Obj)), DSs (X.suite a pn) ec W (b₀ :: suite) b) (r : HdsE X ec W hds l) : HdsE X ec W (.ExceptHandler (some (.Name (PySem.Str.ofString c) np)) (some n) (b₀ :: suite) pos' :: hds) ((c, i, b) :: l)
abbrev hdK (K : PySem.W.Frag) (ec : EC) (W : WX) (l : List (String × Nat × SX)) : List (Value × Nat × TEx) := l.map fun x => (.ref (ec x.1), x.2.1, fun _ _ _ => tS K ec W x.2.2)
theorem hdsE_ok {hds : List ExceptHandler} {l : List (String × Nat × SX)} (h : HdsE X ec W hds l) : HdsK X hds (hdK X.K ec W l) := by
  induction h with
  | nil => exact .nil
  | cons hc hi hln hs r ih => exact .cons hc hi hln (fun a cls d pn => hs a pn) ih
theorem aft_gone {K : PySem.W.Frag} {F0 B F : Hp} {o : Option Out} {D : Ends} (h : Aft K ec W F0 B F (unI i o) D) : Aft K ec W F0 B F o (gone i D) := by
  match o with
  | none => exact h
  | some (.nx r) => exact fun σ' F' H' sf S => h (σ'.set i none) F' H' sf S.unset
  | some (.bk r) => exact fun σ' F' H' sf S => h (σ'.set i none) F' H' sf S.unset
  | some (.ct r) => exact fun σ' F' H' sf S => h (σ'.set i none) F' H' sf S.unset
  | some (.rt d) => exact h
  | some (.er e r) => exact False.elim h
  | some (.ro i r) => exact False.elim h
  | some (.ri d r) => exact False.elim h
  | some (.rl xs) => exact False.elim h
/-- where the classes stand -/
def TabG (K : PySem.W.Frag) (ec : EC) (tab : List ((String × String) × Bool)) : Prop := ∀ a c b, tab.lookup (a, c) = some b → PySem.W.nsIn K mainGlobals (PySem.Str.ofString a) = some (some (.ref (ec a)))
theorem pick_useE (T : TabT X.K ec tab) (TG : TabG X.K ec tab) {e : Err} {r : DL.Env} {F0 B F : Hp} {D : Ends} : ∀ {l : List (String × Nat × SX)}, Aft X.K ec W F0 B F (pickE tab e r l) D →
    ∀ dx σ' F' H', Same F F' → SR X.K F0 B r σ' H' F' → ErrOk X.K F' H' e dx → wKeep X.K W D (hdK X.K ec W l) (.ref (ec e.cls)) dx σ' H'
  | [], q, dx, σ', F', H', sf, S, he => q dx σ' F' H' sf S he
  | (c, i, b) :: l, q, dx, σ', F', H', sf, S, he => by
    unfold pickE at q
    cases hl : tab.lookup (e.cls, c) with
    | none => rw [hl] at q; exact False.elim q
    | some k =>
      rw [hl] at q
      refine ⟨k, T _ _ _ hl, fun hk => ⟨ec e.cls, rfl, fun a ha => ?_⟩, fun hk => ?_⟩
      · subst hk
        dsimp only at q
        split at q
        · have g := Gr.new S.gr.i ha (exk a (ec e.cls) dx)
          have hf : FldOk X.K F' dx e.fld := by
            unfold ErrOk at he
            cases hq : e.fld with
            | none => rw [hq] at he; exact he
            | some o => rw [hq] at he; exact he
          exact ⟨r.set i (.ex e.cls e.fld), upd F' a (exk a (ec e.cls) dx), F0, B, S.put g (i := i) (s := .ex e.cls e.fld) ⟨a, ec e.cls, dx, rfl, TG _ _ _ hl, upd_same, hf.mono g.f⟩ (fun _ f => False.elim f) (fun _ z => nomatch z), aft_gone (Aft.mono (sf.trans g.f) q)⟩
        · exact False.elim q
      · subst hk
        exact pick_useE T TG (Aft.mono sf q) dx σ' F' H' (Same.refl _) S he
theorem ds_tryE {body : List Stmt} {h₀ : ExceptHandler} {hds : List ExceptHandler} {a : SX} {l : List (String × Nat × SX)} (hs : X.stack = X.env :: X.outer) (hf : X.env.frame = some X.env.locals) (hN : X.N.Nodup) (tk : Takes X W) (T : TabT X.K ec tab) (TG : TabG X.K ec tab)
    (hb : ∀ (W' : WX) (pn : List (Addr × Obj)) (xe : Value → Shared → Prop), Takes (X.tr pn xe) W' → PassesOwn (model X.prog X.w) X.A X.env xe → DSs (X.tr pn xe) ec W' body a) (hh : HdsE X ec W (h₀ :: hds) l) :
    DS X ec W (.Try body (h₀ :: hds) [] [] pos) (sTryE tab a l) := psImp (ps_try_keep hs hf hN tk (tb := fun W' => tS X.K ec W' a) hb (hdsE_ok hh)) fun D σ H ⟨r, F, F0, B, S, q⟩ => by
  refine ⟨r, F, F0, B, S, ?_⟩
  have q' : Aft X.K ec W F0 B F (match a r with | some (.er e r1) => pickE tab e r1 l | o => o) D := q
  revert q'
  match a r with
  | none => exact fun z => z
  | some (.nx r1) => exact fun z => z
  | some (.bk r1) => exact fun z => z
  | some (.ct r1) => exact fun z => z
  | some (.ro i r1) => exact fun z => z
  | some (.ri d r1) => exact fun z => z
  | some (.rl xs) => exact fun z => z
  | some (.rt d) => exact fun z => z
  | some (.er e r1) => exact fun z => pick_useE T TG z
end
/-! ### a def of one argument that may be an error -/
def spE (K : PySem.W.Frag) (ec : EC) (g : Slot → R D) : Sp := fun vs H Q E => ∃ s v F B, vs = [v] ∧ Same F H ∧ ((∃ x, s = .d x) ∨ ∃ c f, s = .ex c f) ∧ SlotOk K B H F s (some v) ∧ Thn K ec (fun c d _ H => E c d H) (g s) [] F H fun d F' H' => ∀ v, Rep K F' d v → Q v H'
theorem SlotOk.any {K : PySem.W.Frag} {B B' H H' F : Hp} {s : Slot} {y : Option V} (h : (∃ x, s = .d x) ∨ ∃ c f, s = .ex c f) (k : SlotOk K B H F s y) : SlotOk K B' H' F s y := by
  rcases h with ⟨x, rfl⟩ | ⟨c, f, rfl⟩
  · exact k
  · exact k
theorem fn_okE {P : Program} {w : World} {K : PySem.W.Frag} {mg : Str → Option Value} {base : Heap} {ec : EC} {x qual : Str} {st : Stmt} {f : Addr} {fd : FuncData} {N ps : List Str} {k n : Nat} {b : SX} (F : Fun K x qual st f fd) (S : FnScope N ps (defScope st))
    (hn : N.length = n := by rfl) (hp : ps.length = 1 := by rfl)
    (body : ∀ (cdv : Value) (A : Around) (outer : List PySem.Env) (s : Shared) (H : Hp) (E : XK), Room k (A.deeper (envOfC qual (defScope st) s.heap.objs.size f cdv)) →
      DSs (cxOf (L2.CX P w) P w K mg base N qual (defScope st) f cdv A outer s H E) ec (fun c d _ H => E c d H) (defBody st) b) :
    FnOk P w K mg base (L2.CX P w) (k + 1) f fd ps (spE K ec (runE n b)) := by
  refine F.okX S (fun vs H Q E h => by obtain ⟨_, _, _, _, e, _⟩ := h; rw [hp, e]; rfl) (fun cdv A outer s H vs Q E hr h => ⟨_, body cdv A outer s H E hr, ?_⟩)
  obtain ⟨sl, v, F, B, ev, sf, hk, h2, h3⟩ := h
  subst ev
  refine ⟨sl :: List.replicate (n - 1) .un, F, F, H, ?_, ?_⟩
  · have e := slots_rep (K := K) sf (ds := [.none]) (vs := [.non]) (n - 1) ⟨.non, [], rfl, rfl, rfl⟩
    have e2 : L2.start N [v] = some v :: List.replicate (n - 1) none := by
      unfold L2.start
      rw [hn]
      rfl
    rw [e2]
    exact e.put (Gr.refl sf) (i := 0) (s := sl) (y := some v) (h2.any hk) (fun a f => by
      rcases hk with ⟨x, rfl⟩ | ⟨c, g, rfl⟩
      · exact False.elim f
      · exact False.elim f) fun xs z => by
      rcases hk with ⟨x, rfl⟩ | ⟨c, g, rfl⟩
      · cases z
      · cases z
  · unfold runE at h3
    revert h3
    match b (sl :: List.replicate (n - 1) .un) with
    | none => exact fun z => z
    | some (.nx r) => exact fun z σ' F' H' sf S' => Thn.ok S'.gr.i (a := PyData.none) (Thn.grow S'.gr z) .non rfl
    | some (.rt d) => exact fun z v F' H' sf g rv => Thn.ok g.i (a := d) (Thn.grow g z) v rv
    | some (.bk r) => exact fun z => False.elim z
    | some (.ct r) => exact fun z => False.elim z
    | some (.er e r) => exact fun z dx σ' F' H' sf S' he => z dx F' H' S'.gr he
    | some (.ro i r) => exact fun z => False.elim z
    | some (.ri d r) => exact fun z => False.elim z
    | some (.rl xs) => exact fun z => False.elim z
structure DOkE (P : Program) (w : World) (K : PySem.W.Frag) (mg : Str → Option Value) (base : Heap) (ec : EC) (x : Str) (ps : List Str) (k p : Nat) (g : Slot → R D) : Prop where
  ex : ∃ (f : Addr) (fd : FuncData), mg x = some (.ref f) ∧ PySem.W.keepIn K (.ref f) = true ∧ Binds K fd ps [] ∧ FnOk P w K mg base (L2.CX P w) k f fd ps (spE K ec g)
theorem DAt.okE {P : Program} {w : World} {K : PySem.W.Frag} {mg : Str → Option Value} {base : Heap} {ec : EC} {x : Str} {st : Stmt} {N ps : List Str} {k n p : Nat} {b : SX} (D : DAt K mg x st ps) (S : FnScope N ps (defScope st))
    (hn : N.length = n := by rfl) (hp : ps.length = 1 := by rfl)
    (body : ∀ (f : Addr) (cdv : Value) (A : Around) (outer : List PySem.Env) (s : Shared) (H : Hp) (E : XK), Room k (A.deeper (envOfC x (defScope st) s.heap.objs.size f cdv)) →
      DSs (cxOf (L2.CX P w) P w K mg base N x (defScope st) f cdv A outer s H E) ec (fun c d _ H => E c d H) (defBody st) b) :
    DOkE P w K mg base ec x ps (k + 1) p (runE n b) := by
  obtain ⟨f, fd, h1, h2, h3⟩ := D.ex
  exact ⟨f, fd, h1, h2.kp, h3, fn_okE h2 S hn hp (body f)⟩
section
variable {X : Cx} {ec : EC} {W : WX} {i : Nat} {n : Str} {p p1 pos : Pos}
theorem de_callE {j k m : Nat} {ps : List Str} {g : Slot → R D} {x : Str} (G : DOkE X.prog X.w X.K X.mg X.base ec x ps j m g) (hr : Room k X.A) (tk : Takes X W) (hjk : j ≤ k) (hg : Gl X x) (hi : X.N[i]? = some n) (hv : Vis X.env.scope n) (hd : (n == ("__debug__" : Str)) = false := by decide) (hcd : (n == ("__classdict__" : Str)) = false := by decide) (hdb : (x == ("__debug__" : Str)) = false := by decide)
    (he : starEach [.Name n p1] X.env = (false, eval (.Name n p1) X.env) :: starEach [] X.env := by rfl) (hpl : (backTo pos (starEach [] X.env)).any (·.1) = false := by rfl) : DE X ec W (.Call (.Name x p) [.Name n p1] [] pos) (vCallE g i) := by
  obtain ⟨f, fd, h1, h2, h3, h4⟩ := G.ex
  refine peImp (pe_callS h4 (hr.mono hjk) hg h1 h2 h3 (fun σ => passAt tk σ) (pa_cons (pe_var hi hv hd hcd) pa_nil he) hdb he hpl) fun σ H Q ⟨r, F, F0, B, S, q⟩ => ?_
  have fin : ∀ {s : Slot}, r[i]? = some s → ((∃ x, s = .d x) ∨ ∃ c f, s = .ex c f) → Thn X.K ec W (g s) σ F H (fun d F' H' => ∀ v, Rep X.K F' d v → Q v H') → tCallS (spE X.K ec g) (WE W) (tCons (tVar i) tNil) σ H Q := fun {s} es hk z => by
    obtain ⟨y, e1, h5⟩ := S.ok _ _ es
    obtain ⟨v, rfl⟩ : ∃ v, y = some v := by
      rcases hk with ⟨x, rfl⟩ | ⟨c, f, rfl⟩
      · obtain ⟨v, e, _⟩ := h5; exact ⟨v, e⟩
      · obtain ⟨a, C, dx, e, _⟩ := h5; exact ⟨_, e⟩
    refine ⟨v, e1, s, v, F, B, rfl, S.gr.i, hk, h5, ?_⟩
    revert z
    match g s with
    | none => exact fun z => z
    | some (.error _) => exact fun z => z
    | some (.ok k) => exact fun z => z
  have q' : Thn X.K ec W (vCallE g i r) σ F H fun d F' H' => ∀ v, Rep X.K F' d v → Q v H' := q
  unfold vCallE at q'
  split at q'
  · rename_i c f es
    exact fin es (.inr ⟨_, _, rfl⟩) q'
  · rename_i x es
    exact fin es (.inl ⟨_, rfl⟩) q'
  · exact False.elim q'
end
/-! ### told by the heap's own text -/
theorem cv_own {ec : EC} {T : String} (h : T ≠ "ValueError") : ∀ u, RelV (V.ref (ec T)) u → u = cvOf ec T := fun u r => by
  unfold cvOf
  rw [if_neg h]
  exact r
theorem cv_ve {ec : EC} : ∀ u, RelV (V.ty "ValueError") u → u = cvOf ec "ValueError" := fun u r => r
def excB (K : PySem.W.Frag) (D : Addr) : Bool :=
  decide (PySem.W.findIn K (.ref D) "__getattribute__" = some (some (.builtin "BaseException.__getattribute__"))) && (decide (PySem.W.findIn K (.ref D) "__getattr__" = some none) && (decide (PySem.W.subIn K (.ref D) (.type "BaseException") = some true) && (PySem.W.hasDictIn K D &&
  (decide (PySem.W.findIn K (.ref D) "__class__" = some (some (.builtin "object.__class__"))) && (decide (PySem.W.specialIn K (.builtin "object.__class__") "__get__" = some (some (.builtin "getset_descriptor.__get__"))) && (decide (PySem.W.takesIn K (.builtin "object.__class__") = some true) && decide (PySem.W.mroIn K D (.type "object") = some true)))))))
theorem excB_ok {K : PySem.W.Frag} {D : Addr} (h : excB K D = true) : ExcC K D := by
  unfold excB at h
  simp only [Bool.and_eq_true, decide_eq_true_eq] at h
  obtain ⟨h1, h2, h3, h4, h5, h6, h7, h8⟩ := h
  exact ⟨h1, h2, h3, h4, h5, h6, h7, h8⟩
theorem lookup_in {α β : Type} [BEq α] [LawfulBEq α] {k : α} {v : β} : ∀ {l : List (α × β)}, l.lookup k = some v → (k, v) ∈ l
  | [], h => nomatch h
  | (a, b) :: l, h => by
    rw [List.lookup_cons] at h
    split at h
    · rename_i e
      cases h
      rw [beq_iff_eq] at e
      subst e
      exact List.mem_cons_self
    · exact List.mem_cons_of_mem _ (lookup_in h)
def nsB (K : PySem.W.Frag) (ec : EC) (c : String) : Bool := decide (PySem.W.nsIn K mainGlobals (PySem.Str.ofString c) = some (some (.ref (ec c))))
def tabIB (K : PySem.W.Frag) (ec : EC) (tab : List ((String × String) × Bool)) : Bool := tab.all fun x => nsB K ec x.1.1 && (excB K (ec x.1.1) && decide (PySem.W.kitOne K (.ref (ec x.1.1)) (cvOf ec x.1.2) = some x.2))
theorem tabIB_ok {K : PySem.W.Frag} {ec : EC} {tab : List ((String × String) × Bool)} (h : tabIB K ec tab = true) : TabI K ec tab := fun c T b e => by
  have q := List.all_eq_true.mp h _ (lookup_in e)
  unfold nsB at q
  simp only [Bool.and_eq_true, decide_eq_true_eq] at q
  exact ⟨q.1, excB_ok q.2.1, q.2.2⟩
def tabGB (K : PySem.W.Frag) (ec : EC) (tab : List ((String × String) × Bool)) : Bool := tab.all fun x => nsB K ec x.1.1
theorem tabGB_ok {K : PySem.W.Frag} {ec : EC} {tab : List ((String × String) × Bool)} (h : tabGB K ec tab = true) : TabG K ec tab := fun c T b e => by
  have q := List.all_eq_true.mp h _ (lookup_in e)
  unfold nsB at q
  exact of_decide_eq_true q
def keepsB (K : PySem.W.Frag) (ec : EC) (cl : List String) (f : Str) : Bool := cl.all fun c => nsB K ec c && (xfB K (ec c) && decide (PySem.W.findIn K (.ref (ec c)) f = some none))
theorem keepsB_ok {K : PySem.W.Frag} {ec : EC} {cl : List String} {f : Str} (h : keepsB K ec cl f = true) : Keeps K ec cl f := fun c e => by
  have q := List.all_eq_true.mp h _ e
  unfold nsB at q
  simp only [Bool.and_eq_true, decide_eq_true_eq] at q
  exact ⟨q.1, xfB_ok q.2.1, q.2.2⟩
end DL
namespace DL
open PySem PySem.Spec PyProof.Rows L2
theorem o_divW {K : PySem.W.Frag} : Op2 K dDivW (rI CDivW fun i j => .int (i / j)) := by
  intro x y d F H v u Q hf e rx ry k
  unfold dDivW at hf
  split at hf
  · split at hf
    · rename_i c
      cases hf; exact ⟨_, _, rx, ry, wide_div c.1 c.2 (by decide) (by decide), k _ F H (Gr.refl e) rfl⟩
    · cases hf
  · cases hf
end DL
/-! zip of two lists. -/
namespace DL
open PySem PySem.Spec PyProof.Rows L2
theorem walk_zipLL {K : PySem.W.Frag} {a b : Addr} {xs ys : List V} {n : Nat} (hn : n = min xs.length ys.length) : Walk (Itz K a b) n (fun H => SqL K H a xs ∧ SqL K H b ys) (YPair (fun i => xs[i]?) (fun i => ys[i]?)) := by
  subst hn
  refine ⟨fun i _ hi q => ?_, fun _ q => ⟨xs, ys, q.1, q.2, by omega⟩, fun i H v H' _ q y => ?_⟩
  · have h1 : i < xs.length := by omega
    have h2 : i < ys.length := by omega
    exact ⟨xs, ys, xs[i], ys[i], q.1, q.2, by simp [h1], by simp [h2]⟩
  · obtain ⟨T, x, z, h1, h2, h3, h4, h5⟩ := y
    exact ⟨T, x, z, h1, h2, h3, h4 xs q.1, h5 ys q.2⟩
theorem iter_zipLL {K : PySem.W.Frag} {Bh Fb : Hp} {a b : Addr} {xs ys : List DL.D} {vs us : List V} (h1 : SqL K Bh a vs) (h2 : SqL K Bh b us) (r1 : RepL K Fb xs vs) (r2 : RepL K Fb ys us) : IterOk K Bh Fb (Itz K a b) (zipL xs ys) := by
  refine ⟨_, _, walk_zipLL (K := K) (a := a) (b := b) (xs := vs) (ys := us) (by rw [zipL_len, r1.length, r2.length]), fun H q => ⟨q.seq h1, q.seq h2⟩, fun i d H x H' F hd _ f e y => ?_⟩
  obtain ⟨T, p, q, rfl, hT, rfl, hp, hq⟩ := y
  obtain ⟨z1, z2, e1, e2, rfl⟩ := zipL_at xs ys i d hd
  obtain ⟨v, g1, g2⟩ := r1.get e1
  obtain ⟨u, k1, k2⟩ := r2.get e2
  have hp' : vs[i]? = some p := hp
  have hq' : us[i]? = some q := hq
  rw [g1] at hp'
  rw [k1] at hq'
  cases hp'
  cases hq'
  have g := Gr.new e hT (.tup [p, q])
  exact ⟨_, g, T, _, rfl, upd_same, p, [q], rfl, (g2.mono f).mono g.f, q, [], rfl, (k2.mono f).mono g.f, rfl⟩
section
variable {X : Cx} {ec : EC} {W : WX} {e e2 : Expr} {pos p tpos : Pos} {elts : List Expr} {kk : Nat} {φ ψ : EX}
/-- both are lists -/
theorem di_zipLL (hg : Gl X "zip") (hm : X.mg "zip" = none) (ha : DE X ec W e φ) (hb : DE X ec W e2 ψ) (hs : starEach [e, e2] X.env = (false, eval e X.env) :: starEach [e2] X.env := by rfl) (hs2 : starEach [e2] X.env = (false, eval e2 X.env) :: starEach [] X.env := by rfl) (hpl : (backTo pos (starEach [e2] X.env)).any (·.1) = false := by rfl) :
    DI X ec W (.Tuple elts kk tpos) (.Call (.Name "zip" p) [e, e2] [] pos) (iZipLE φ ψ) :=
  piImp (RZ.pi_zipA hg hm (da_cons ha (da_cons hb da_nil hs2) hs) hs hpl) fun σ H R ⟨r, F, F0, B, S, q⟩ => by
    refine ⟨r, F, F0, B, S, (Thn.bind q).imp fun ds F1 H1 _ g1 h1 vs rs => ?_⟩
    match ds with
    | [] => exact False.elim h1
    | [_] => exact False.elim h1
    | _ :: _ :: _ :: _ => exact False.elim h1
    | [x, y] =>
      obtain ⟨xs, ex, k⟩ := Thn.po h1
      unfold zipLL at ex
      split at ex
      · cases ex
        obtain ⟨v1, t1, rfl, ⟨a, vs1, rfl, s1, r1⟩, v2, t2, rfl, ⟨b, vs2, rfl, s2, r2⟩, e4⟩ := rs
        have e4' : t2 = [] := e4
        subst e4'
        exact ⟨a, b, vs1, vs2, rfl, .inl ⟨g1.i.seq s1, g1.i.seq s2, k F1 H1 (Gr.refl g1.i) _ (iter_zipLL s1 s2 r1 r2)⟩⟩
      · cases ex
end
end DL
set_option maxHeartbeats 1600000
/-! An own error made by a call with a keyword. -/
namespace PySem
namespace HandSPX
open Builtin Builtin.ObjectAttr
open PySem.Spec PyProof.Rows
section
variable {prog : Program} {w : World} {A : Around} {E : Value → Shared → Prop} {R : Result → Shared → Prop} {h : Heap} {g : Array GenState} {d : Drawn} {t : Nat} {os : OsState}
variable {nm q : Str} {C N : Addr} {bs bm bmB : List Value} {hdct : Bool} {sn : List Str} {sub : List Value} {ab : Bool} {col : Option Bool} {dd : Option Addr} {k0 k1 k2 k3 k5 : Option Value} {B newId initId : String} {kw : List (Str × Value)} {rest : List Value}
theorem check_new_kw {M : Model} (F : ExcBaseFacts B newId initId bmB) (hT : ∀ X : String, bm.contains (.type X) = bmB.contains (.type X)) {Q : Unit → Shared → Prop}
    (hC : h.get? C = some (excClassObj nm q C N bs bm hdct sn sub ab col dd k0 k1 k2 k3 k5 newId)) (hq : Q () ⟨h, g, d, t, os⟩) : wpAny M A (checkBuiltinCall newId ⟨.ref C :: rest, kw⟩) Q E ⟨h, g, d, t, os⟩ := by
  have hcont : (Value.ref C :: bm).contains (.type B) = true := by rw [List.contains_cons, hT, F.hasB, Bool.or_true]
  have hstar := F.noStar
  simp only [checkBuiltinCall, F.newKind, F.newSplit, F.newRow]
  repeat (first | refine wpAny_loadPart_at hC ?_ | (refine wpAny_isSubtype_exc hC ?_; rw [hcont]) | refine wpAny_staticBase_exc hC ?_ | refine wpAny_madeBy_exc hC ?_ | simp only [bne_self_eq_false, Bool.false_eq_true, if_false] | wp_step)
  exact hq
theorem new_kw (F : ExcBaseFacts B newId initId bmB) (hT : ∀ X : String, bm.contains (.type X) = bmB.contains (.type X))
    (hC : h.get? C = some (excClassObj nm q C N bs bm hdct sn sub ab col dd k0 k1 k2 k3 k5 newId))
    (hq : R (.ok (.ret (.ref (h.objs.size + 1)))) ⟨(h.push { cls := .type "tuple", data := .seq rest.toArray }).push
      { cls := .ref C, data := .fields #[.ref h.objs.size, .none, .none, .none, .bool false, .none] }, g, d, t, os⟩) (hrest : rest.length ≤ sizeLine) :
    codeAny (model prog w) A (.builtin newId ⟨.ref C :: rest, kw⟩) R ⟨h, g, d, t, os⟩ := by
  have hends := F.ends
  have hcB : (Value.ref C :: bm).contains (.type B) = true := by rw [List.contains_cons, hT, F.hasB, Bool.or_true]
  have hcA : (Value.ref C :: bm).contains (.type "AttributeError") = false := by rw [List.contains_cons, hT, F.noAttr]; rfl
  have hcN : (Value.ref C :: bm).contains (.type "NameError") = false := by rw [List.contains_cons, hT, F.noName]; rfl
  refine codeAny_builtinAt F.entry ?_
  unfold Builtin.«BaseException.__new__»
  refine wpAt_bind ?_
  show wpAt _ _ _ (stack >>= _) _ _ _
  refine wpAt_bind (wpAt_stack fun p below => wpAt_of_wpAny ?_)
  wp_walk
  refine wpAt_of_wpAny ?_
  rw [F.owner]
  repeat (first | with_reducible refine wpAny_madeHere_exc F.canon hC ?_ | with_reducible refine wpAny_loadPart_at hC ?_ | (with_reducible refine wpAny_isSubtype_exc hC ?_; first | rw [hcB] | rw [hcA] | rw [hcN]) | wp_step)
  show R _ _
  rw [Heap.size_push]
  exact hq
theorem type_call_kw (F : ExcBaseFacts B newId initId bmB) (hT : ∀ X : String, bm.contains (.type X) = bmB.contains (.type X)) {fI : Addr} {Q : Fin → Shared → Prop}
    (hC : h.get? C = some (excClassObj nm q C N bs bm hdct sn sub ab col dd k0 k1 k2 k3 k5 newId))
    (hi : W.Looks (model prog w) h (typeLookup (.ref C) "__init__") (some (.ref fI))) (hb : ∀ self, W.Looks (model prog w) h (bindSpecial (.ref fI) self) (.ref fI, [self])) (hrest : rest.length ≤ sizeLine)
    (hq : codeAny (model prog w) A (.call (.ref fI) ⟨.ref (h.objs.size + 1) :: rest, kw⟩)
      (fun r s' => match r with | .ok (.ret v) => v = .none ∧ Q (.done (.ret (.ref (h.objs.size + 1)))) s' | .ok _ => False | .error e => E e s')
      ⟨(h.push (W.kdv_tup rest)).push (excO C h.objs.size), g, d, t, os⟩) :
    wpAny (model prog w) A (Builtin.«type.__call__» ⟨.ref C :: rest, kw⟩) Q E ⟨h, g, d, t, os⟩ := by
  repeat (first | with_reducible refine wpAny_loadPart_at hC ?_ | with_reducible refine wpAny_madeBy_exc hC ?_ | wp_step)
  refine codeAny_call_builtin_code (Code.quiet_builtin _ F.quiet) (check_new_kw F hT hC ?_)
  refine new_kw F hT hC ?_ hrest
  show wpAny _ _ _ _ _ _
  have k : ∀ b o, h.get? b = some o → ((h.push (W.kdv_tup rest)).push (excO C h.objs.size)).get? b = some o := fun b o e => Heap.get?_push_of_some _ (Heap.get?_push_of_some _ e)
  have hC₁ := k _ _ hC
  have hget : ((h.push (W.kdv_tup rest)).push (excO C h.objs.size)).get? (h.objs.size + 1) = some (excO C h.objs.size) := by heap_get
  have hcC : (Value.ref C :: bm).contains (.ref C) = true := by simp
  have i1 := hi.keeps k
  have b1 := (hb (.ref (h.objs.size + 1))).keeps k
  unfold isInstance
  repeat (first | with_reducible refine wpAny_loadPart_at hget ?_ | (with_reducible refine wpAny_isSubtype_exc hC₁ ?_; rw [hcC]) | wp_step)
  show wpAny _ _ (typeLookup (.ref C) _) _ _ _
  refine i1.at ?_
  refine wpAny_holding (wpAny_bind (b1.at ?_))
  refine wpAny_bind (wpAny_call (codeAny_mono hq fun r s' z => ?_))
  rcases r with e | (v | _ | _ | _) <;> first | exact z | exact z.elim | skip
  obtain ⟨rfl, z⟩ := z
  first
    | exact wpAny_pure (wpAny_pure z)
    | (wp_walk; exact z)
theorem check_type_call_kw {M : Model} {Q : Unit → Shared → Prop} (hC : h.get? C = some (excClassObj nm q C N bs bm hdct sn sub ab col dd k0 k1 k2 k3 k5 newId))
    (hq : Q () ⟨h, g, d, t, os⟩) : wpAny M A (checkBuiltinCall "type.__call__" ⟨.ref C :: rest, kw⟩) Q E ⟨h, g, d, t, os⟩ := by
  have f3 := tc_sub
  have hT : (⟨h, g, d, t, os⟩ : Shared).TypeIs (.ref C) "type" := ⟨_, hC, rfl⟩
  simp only [checkBuiltinCall, tc_kind, tc_split]
  repeat (any_goals (first | assumption | with_reducible refine wpAny_loadPart_at hC ?_ | with_reducible refine wpAny_onRaise ?_ | with_reducible refine wpAny_map ?_ | wp_step))
theorem call_kw (F : ExcBaseFacts B newId initId bmB) (hT : ∀ X : String, bm.contains (.type X) = bmB.contains (.type X)) {fI : Addr}
    (hC : h.get? C = some (excClassObj nm q C N bs bm hdct sn sub ab col dd k0 k1 k2 k3 k5 newId))
    (hi : W.Looks (model prog w) h (typeLookup (.ref C) "__init__") (some (.ref fI))) (hb : ∀ self, W.Looks (model prog w) h (bindSpecial (.ref fI) self) (.ref fI, [self])) (hrest : rest.length ≤ sizeLine)
    (hq : codeAny (model prog w) (A.under (.builtin "type.__call__" ⟨.ref C :: rest, kw⟩)) (.call (.ref fI) ⟨.ref (h.objs.size + 1) :: rest, kw⟩) (W.InitBack (h.objs.size + 1) R)
      ⟨(h.push (W.kdv_tup rest)).push (excO C h.objs.size), g, d, t, os⟩) :
    codeAny (model prog w) A (.call (.ref C) ⟨rest, kw⟩) R ⟨h, g, d, t, os⟩ := by
  have f1 := tc_lookup
  have f2 := tc_bind (.ref C)
  have hTy : (⟨h, g, d, t, os⟩ : Shared).TypeIs (.ref C) "type" := ⟨_, hC, rfl⟩
  refine codeAny_of_tree ?_
  show wpAny _ _ (callAny (.ref C) _) _ _ _
  repeat (any_goals (first | assumption | with_reducible refine wpAny_loadPart_at hC ?_ | wp_step))
  refine ⟨rfl, ?_⟩
  refine codeAny_call_builtin_at (Code.quiet_builtin _ (by decide +kernel)) entry_typeCall (check_type_call_kw hC (type_call_kw F hT hC hi hb hrest ?_))
  refine codeAny_mono hq fun r s' z => ?_
  rcases r with e | (v | _ | _ | _) <;> exact z
end
end HandSPX
end PySem
set_option maxHeartbeats 1600000
/-! raise C(f=e), C's own __init__ keeping e as f. -/
namespace DL
open PySem PySem.Spec PyProof.Rows L2
/-- C(f = e) -/
def tMkK (C : Addr) (sp : Sp) (te : TE) : L2.St → Hp → XK → Prop := fun σ H Q => te σ H fun v H1 => ∃ v', [v] = [v'] ∧ ∀ a, H1 a = none → sp [.ref a, v'] (upd H1 a (exo a C none))
  (fun v H2 => v = .non ∧ ∃ (d : Addr) (fs : List (Str × V)), H2 a = some (exo a C (some d)) ∧ H2 d = some (exd d fs) ∧ H1 d = none ∧ Q (.ref C) (some d) (upd (L2.del H2 a) d (.xd fs))) (fun _ _ _ => False)
theorem pmk_oexK {X : Cx} {CX : CXT} {x f : Str} {C fI : Addr} {k : Nat} {fd : FuncData} {sp : Sp} {e : Expr} {te : TE} {p pos kp : Pos} (T : OexC X.K C) (iC : PySem.W.findIn X.K (.ref C) "__init__" = some (some (.ref fI))) (tI : PySem.W.typeIn X.K (.ref fI) = some (.type "function"))
    (F1 : FnOk X.prog X.w X.K X.mg X.base CX k fI fd ["self", f] sp) (hr : Room (k + 1) X.A) (hb : ∀ (s : Shared) (a v : Value), BindsTo s fd ⟨[a], [(f, v)]⟩ [("self", a), (f, v)]) (hx : Passes CX X (fun _ _ _ => False)) (hg : Gl X x) (hm : X.mg x = some (.ref C)) (he : PE X e te)
    (hdb : (x == ("__debug__" : Str)) = false := by decide) (hall : (backToKw pos (keywordEach [⟨some f, e, kp⟩] X.env)).all (·.1.isSome) = true := by rfl) (hks : (backToKw pos (keywordEach [⟨some f, e, kp⟩] X.env)).filterMap (·.1) = [f] := by rfl)
    (hpl : ((backTo pos (starEach [] X.env)).any (·.1) || (backToKw pos (keywordEach [⟨some f, e, kp⟩] X.env)).any (·.1.isNone)) = false := by rfl) :
    PMk X (.Call (.Name x p) [] [⟨some f, e, kp⟩] pos) (tMkK C sp te) := by
  intro pins s σ H Q I h
  obtain ⟨nm, q, N, bs, bm, sn, sub, ab, col, dd, k0, k1, k2, k3, k5, hC, hbm⟩ := T.cls
  refine wpAny_Call_Name_kw (ld_glob I hg hm ?_ hdb)
  refine PySem.W.callWith_KW0 (h₀ := X.base) I.ok.mod.kin T.kC hall (thn ((pk_cons (nm := some f) (kpos := kp) he pk_nil).run pos pins s σ H (fun vs H1 => ∃ v', vs = [v'] ∧ ∀ a, H1 a = none → sp [.ref a, v'] (upd H1 a (exo a C none))
    (fun v H2 => v = .non ∧ ∃ (d : Addr) (fs : List (Str × V)), H2 a = some (exo a C (some d)) ∧ H2 d = some (exd d fs) ∧ H1 d = none ∧ Q (.ref C) (some d) (upd (L2.del H2 a) d (.xd fs))) (fun _ _ _ => False)) I h) fun ws s1 ⟨vs, H1, I1, r1, v', ev, q1⟩ => ⟨I1.kIn, ?_⟩) hpl
  subst ev
  rw [hks]
  cases r1 with
  | @cons _ u _ _ ru rr =>
    cases rr
    show wpAny _ _ (call (.ref C) [] [(f, u)]) _ _ _
    obtain ⟨hp, g, dr, tk, os⟩ := s1
    have hsz : hp.objs.size ≤ hp.objs.size + 1 := Nat.le_succ _
    have hn : H1 (hp.objs.size + 1) = none := I1.hok.fresh hsz
    have hq := q1 (hp.objs.size + 1) hn
    have kk : ∀ b o, hp.get? b = some o → ((hp.push (PySem.W.kdv_tup [])).push (PySem.HandSPX.excO C hp.objs.size)).get? b = some o := fun b o e => Heap.get?_push_of_some _ (Heap.get?_push_of_some _ e)
    have hget : ((hp.push (PySem.W.kdv_tup [])).push (PySem.HandSPX.excO C hp.objs.size)).get? (hp.objs.size + 1) = some (PySem.HandSPX.excO C hp.objs.size) := by heap_get
    have I2 : Inv X pins σ (upd H1 (hp.objs.size + 1) (exo (hp.objs.size + 1) C none)) ⟨(hp.push (PySem.W.kdv_tup [])).push (PySem.HandSPX.excO C hp.objs.size), g, dr, tk, os⟩ :=
      I1.laid (t' := tk) (a := hp.objs.size + 1) (o := exo (hp.objs.size + 1) C none) (h' := (hp.push (PySem.W.kdv_tup [])).push (PySem.HandSPX.excO C hp.objs.size)) kk hsz (exo_ok hget)
    have r2 : Vals [V.ref (hp.objs.size + 1), v'] [Value.ref (hp.objs.size + 1), u] := .cons rfl (.cons ru .nil)
    refine wpAny_call (PySem.HandSPX.call_kw (rest := []) (kw := [(f, u)]) F.excBase_ValueError (fun Y => PySem.HandSPX.refsVE_contains Y bm hbm) (I1.kIn _ _ hC) (PySem.W.looks_findIn I1.kIn iC) (fun self => PySem.W.bind_fn I1.kIn self tI) (Nat.zero_le _)
      (codeAny_mono (F1.run _ X.stack _ _ ⟨[Value.ref (hp.objs.size + 1)], [(f, u)]⟩ [Value.ref (hp.objs.size + 1), u] _ _ (fun _ _ _ => False) (hr.make C [] [(f, u)]) (I2.env0.make C [] [(f, u)]) (hb _ _ _) r2 hq) fun r s' hq' => ?_))
    cases r with
    | error er => exact hx pins σ _ _ er s' I2 hq'
    | ok fl =>
      cases fl with
      | ret u =>
        obtain ⟨v, H2, os2, bare2, un2, hok2, rv, ev, d, fs, ea, ed, hd1, q2⟩ := hq'
        subst ev
        obtain ⟨h2, g2, d2, t2, os'⟩ := s'
        exact ⟨rv, mk_end (raises_own T.exC T.tyC) I1 hsz kk un2 hok2 os2 bare2 ea ed hd1 q2⟩
      | next => exact False.elim hq'
      | brk => exact False.elim hq'
      | cont => exact False.elim hq'
/-- an own class of errors with such an __init__, made by a call with a keyword -/
structure ErrK (P : Program) (w : World) (K : PySem.W.Frag) (mg : Str → Option Value) (base : Heap) (ec : EC) (c : String) (f : Str) : Prop where
  g : mg (PySem.Str.ofString c) = some (.ref (ec c))
  t : OexC K (ec c)
  no : PySem.W.findIn K (.ref (ec c)) f = some none
  i : ∃ (fI : Addr) (fd : FuncData), PySem.W.findIn K (.ref (ec c)) "__init__" = some (some (.ref fI)) ∧ PySem.W.typeIn K (.ref fI) = some (.type "function") ∧ FnOk P w K mg base (L2.CX P w) 1 fI fd ["self", f] (spI K (ec c) f) ∧ ∀ (s : Shared) (a v : Value), BindsTo s fd ⟨[a], [(f, v)]⟩ [("self", a), (f, v)]
theorem ds_raiseK {X : Cx} {ec : EC} {W : WX} {c : String} {f : Str} {e : Expr} {φ : EX} {p pos' pos kp : Pos} (hc : X.calm = true) (tk : Takes X W) (T : ErrK X.prog X.w X.K X.mg X.base ec c f) (hr : Room 2 X.A) (hg : Gl X (PySem.Str.ofString c)) (ha : DE X ec W e φ)
    (hdb : ((PySem.Str.ofString c) == ("__debug__" : Str)) = false := by decide +kernel) (hall : (backToKw pos' (keywordEach [⟨some f, e, kp⟩] X.env)).all (·.1.isSome) = true := by rfl) (hks : (backToKw pos' (keywordEach [⟨some f, e, kp⟩] X.env)).filterMap (·.1) = [f] := by rfl)
    (hpl : ((backTo pos' (starEach [] X.env)).any (·.1) || (backToKw pos' (keywordEach [⟨some f, e, kp⟩] X.env)).any (·.1.isNone)) = false := by rfl) :
    DS X ec W (.Raise (some (.Call (.Name (PySem.Str.ofString c) p) [] [⟨some f, e, kp⟩] pos')) none pos) (sErrF c f φ) := by
  obtain ⟨fI, fd, i1, i2, i3, i4⟩ := T.i
  refine psImp (ps_raise hc tk (pmk_oexK T.t i1 i2 i3 hr i4 passF hg T.g ha hdb hall hks hpl)) fun D σ H ⟨r, F, F0, B, S, q⟩ => ⟨r, F, F0, B, S, (Aft.so S q).imp fun d F1 H1 _ g k v rv => ⟨v, rfl, fun a haN => ?_⟩⟩
  cases d with
  | int i =>
    by_cases hl : i.natAbs.log2 < 1920
    · have hv : v = .int i := rv
      subst hv
      have k' : Aft X.K ec W F0 B F1 (if i.natAbs.log2 < 1920 then some (Out.er ⟨c, some (f, .int i)⟩ r) else none) D := k
      rw [if_pos hl] at k'
      refine ⟨a, i, rfl, hl, T.t, T.no, upd_same, fun dx hdx hne => ⟨rfl, dx, [(f, .int i)], upd_same, by rw [upd_ne (Ne.symm (Ne.symm hne)), upd_same], ?_, ?_⟩⟩
      · rw [upd_ne hne] at hdx; exact hdx
      · have hd1 : H1 dx = none := by rw [upd_ne hne] at hdx; exact hdx
        have e : upd (L2.del (upd (upd (upd H1 a (exo a (ec c) none)) dx (exd dx [(f, .int i)])) a (exo a (ec c) (some dx))) a) dx (.xd [(f, .int i)]) = upd H1 dx (.xd [(f, .int i)]) := by
          funext b
          by_cases hb : b = dx
          · rw [hb, upd_same, upd_same]
          · rw [upd_ne hb, upd_ne hb]
            by_cases hba : b = a
            · rw [hba, L2.del_same, haN]
            · rw [L2.del_ne hba, upd_ne hba, upd_ne hb, upd_ne hba]
        rw [e]
        have g2 : Gr F1 H1 (upd F1 dx (.xd [(f, .int i)])) (upd H1 dx (.xd [(f, .int i)])) := Gr.new g.i hd1 _
        exact k' (some dx) σ _ _ g2.f ((S.grow g).grow g2) ⟨dx, .int i, rfl, upd_same, rfl⟩
    · have k' : Aft X.K ec W F0 B F1 (if i.natAbs.log2 < 1920 then some (Out.er ⟨c, some (f, .int i)⟩ r) else none) D := k
      rw [if_neg hl] at k'
      exact False.elim k'
  | _ => exact False.elim k
end DL
/-! A list made of another: i = list(j), and i != j while both stay. -/
namespace DL
open PySem PySem.Spec PyProof.Rows L2

theorem Rep.okV {K : PySem.W.Frag} {F : Hp} : ∀ {d : D} {v : V}, Rep K F d v → okV v
  | .none, _, h => by have h : _ = V.non := h; rw [h]; trivial
  | .bool b, _, h => by have h : _ = V.bl b := h; rw [h]; trivial
  | .int i, _, h => by have h : _ = V.int i := h; rw [h]; trivial
  | .str x, _, h => by have h : _ = V.str x := h; rw [h]; trivial
  | .list ds, _, ⟨a, vs, q, _⟩ => by rw [q]; trivial
  | .tuple ds, _, ⟨a, vs, q, _⟩ => by rw [q]; trivial
  | .dict _, _, ⟨a, q, _⟩ => by rw [q]; trivial
theorem RepL.okV {K : PySem.W.Frag} {F : Hp} : ∀ {ds : List D} {vs : List V}, RepL K F ds vs → ∀ v ∈ vs, DL.okV v
  | [], vs, h, v, hv => by
    have h : vs = [] := h
    rw [h] at hv
    cases hv
  | d :: ds, _, ⟨u, r, q, h1, h2⟩, v, hv => by
    rw [q] at hv
    rcases List.mem_cons.mp hv with rfl | hv
    · exact h1.okV
    · exact RepL.okV h2 v hv
theorem eq_val {A : Around} {s : Shared} {x : V} {u v : Value} (h1 : RelV x u) (h2 : RelV x v) (ok : okV x) : SeqAt.EqAt A s u v true := by
  cases x with
  | non => cases h1; cases h2; exact .same _
  | bl b => cases h1; cases h2; exact .same _
  | int i =>
    obtain ⟨t, rfl⟩ := h1
    obtain ⟨t', rfl⟩ := h2
    have := SeqAt.EqAt.int_int (A := A) (s := s) i t i t'
    rw [beq_self_eq_true] at this
    exact this
  | str x =>
    obtain ⟨t, rfl⟩ := h1
    obtain ⟨t', rfl⟩ := h2
    have := SeqAt.EqAt.str_str (A := A) (s := s) x t x t'
    rw [beq_self_eq_true] at this
    exact this
  | ref a => cases h1; cases h2; exact .same _
  | byt b => exact ok.elim
  | flt b => exact ok.elim
  | ty b => exact ok.elim
theorem vals_atq {us : List V} {ws : List Value} (h : Vals us ws) : ∀ (j : Nat) (hj : j < ws.length), ∃ x, us[j]? = some x ∧ RelV x ws[j] := by
  induction h with
  | nil => intro j hj; exact absurd hj (Nat.not_lt_zero j)
  | cons h1 h2 ih =>
    intro j hj
    cases j with
    | zero => exact ⟨_, rfl, h1⟩
    | succ j =>
      obtain ⟨x, e, r⟩ := ih j (by simpa using hj)
      exact ⟨x, by simpa using e, by simpa using r⟩
/-- two lists with the same entries -/
def rNeSame (K : PySem.W.Frag) : R2 := fun x y H Q => ∃ a b us, x = .ref a ∧ y = .ref b ∧ SqL K H a us ∧ SqL K H b us ∧ (∀ u ∈ us, okV u) ∧ Q (.bl false) H
theorem op_neSame {X : Cx} (hu : X.A.units + 65 < cLine) : OpR X (compareOp .NotEq) (rNeSame X.K) := by
  intro pins s σ H x y v u Q I rx ry h
  obtain ⟨a, b, xs, rfl, rfl, ha, hb, ok, q⟩ := h
  cases rx
  cases ry
  obtain ⟨us, r1, p1, _⟩ := I.list ha
  obtain ⟨ws, r2, p2, _⟩ := I.list hb
  have l1 := r1.length
  have l2 := r2.length
  have t : (!(List.range us.toArray.size).all fun _ => true) = false := by simp
  refine SeqAt.RcNeAt.lists (A := X.A) (e := fun _ => true) p1.isList p2.isList (by rw [List.size_toArray, List.size_toArray, ← l1, ← l2]) (by omega) (fun j h1 h2 => ?_) _ _ _ _ ?_
  · rw [List.size_toArray] at h1 h2
    obtain ⟨x1, e1, q1⟩ := vals_atq r1 j h1
    obtain ⟨x2, e2, q2⟩ := vals_atq r2 j h2
    rw [e1] at e2
    cases e2
    exact eq_val (by simpa using q1) (by simpa using q2) (ok _ (List.mem_of_getElem? e1))
  · rw [t]
    exact ⟨.bl false, H, I, rfl, q⟩
section
variable {X : Cx} {ec : EC} {W : WX}
theorem ne_same {i j : Nat} {σ : L2.St} {H : Hp} {P : Bool → Hp → Hp → Prop} {r : Env} {F F0 B : Hp} (S : SR X.K F0 B r σ H F) (h : Thn X.K ec W (bCopyNe i j r) σ F H P) {Q : VK} (k : P false F H → Q (.bl false) H) : tOp (rNeSame X.K) (tVar i) (tVar j) σ H Q := by
  unfold bCopyNe at h
  split at h
  · rename_i xs ys e1 e2
    obtain ⟨us, hu, T⟩ := S.tag
    obtain ⟨a, a1, a2⟩ := T i xs e1
    obtain ⟨b, b1, b2⟩ := T j ys e2
    exact ⟨_, a1, _, b1, a, b, us, rfl, rfl, S.sub.seq a2, S.sub.seq b2, hu, k (Thn.ok S.sub (a := false) h)⟩
  · exact False.elim h
/-- i != j -/
theorem db_copyNe {i j : Nat} {x y : Str} {p1 p2 pos : Pos} (hu : X.A.units + 65 < cLine) (hx : PE X (.Name x p1) (tVar i)) (hy : PE X (.Name y p2) (tVar j)) (hm : behindInMarks .NotEq (.Name y p2) = false) : DB X ec W (.Compare (.Name x p1) [.NotEq] [.Name y p2] pos) (bCopyNe i j) :=
  peImp (pe_cmpR (op_neSame hu) hx hy hm) fun σ H Q ⟨r, F, F0, B, S, q⟩ => by
    refine ne_same S (Thn.bind (f := fun b => ok (PyData.bool b)) q) fun h => ?_
    exact Thn.ok S.sub (a := PyData.bool false) h _ rfl
theorem dt_copyNe {i j : Nat} {x y : Str} {p1 p2 pos : Pos} (hu : X.A.units + 65 < cLine) (hx : PE X (.Name x p1) (tVar i)) (hy : PE X (.Name y p2) (tVar j)) (hm : behindInMarks .NotEq (.Name y p2) = false) : DT X ec W (.Compare (.Name x p1) [.NotEq] [.Name y p2] pos) (bCopyNe i j) :=
  ptImp (pt_cmpR (op_neSame hu) hx hy hm) fun σ H Q ⟨r, F, F0, B, S, q⟩ => ne_same S q fun h => ⟨false, rfl, h⟩
end
theorem untag_at {r : Env} {i : Nat} {s : Slot} (h : (untag r)[i]? = some s) : ∃ t, r[i]? = some t ∧ s = (match t with | .tg xs => .d (.list xs) | s => s) := by
  unfold untag at h
  rw [List.getElem?_map, Option.map_eq_some_iff] at h
  obtain ⟨t, h1, h2⟩ := h
  exact ⟨t, h1, h2.symm⟩
theorem untag_no {r : Env} {i : Nat} {xs : List D} : (untag r)[i]? ≠ some (.tg xs) := by
  intro h
  obtain ⟨t, _, e⟩ := untag_at h
  cases t <;> cases e
theorem untag_own {r : Env} {i : Nat} {xs : List D} (h : (untag r)[i]? = some (.own xs)) : r[i]? = some (.own xs) := by
  obtain ⟨t, h1, e⟩ := untag_at h
  cases t <;> cases e
  exact h1
theorem SR.untag {K : PySem.W.Frag} {F0 B : Hp} {r : Env} {σ : L2.St} {H F : Hp} (S : SR K F0 B r σ H F) : SR K F0 B (DL.untag r) σ H F := by
  refine ⟨S.gr, by unfold DL.untag; rw [List.length_map]; exact S.len, fun i s h => ?_, fun i j s t y z a hij h1 h2 h3 h4 f1 f2 => by
    obtain ⟨s', g1, e1⟩ := untag_at h1
    obtain ⟨t', g2, e2⟩ := untag_at h2
    subst e1 e2
    exact S.sep i j s' t' y z a hij g1 g2 h3 h4 (by cases s' <;> exact f1) (by cases t' <;> exact f2), ⟨[], fun u hu => absurd hu List.not_mem_nil, fun i xs h => absurd h untag_no⟩⟩
  obtain ⟨t, h1, e⟩ := untag_at h
  obtain ⟨y, h2, h3⟩ := S.ok i t h1
  refine ⟨y, h2, ?_⟩
  subst e
  cases t <;> exact h3
theorem SR.tag2 {K : PySem.W.Frag} {F0 B : Hp} {r : Env} {σ : L2.St} {H F : Hp} {i j : Nat} {xs : List D} {a l : Addr} {us : List V} (S : SR K F0 B r σ H F) (no : ∀ (k : Nat) (ys : List D), r[k]? ≠ some (Slot.tg ys)) (hi : σ[i]? = some (some (.ref l))) (hj : σ[j]? = some (some (.ref a)))
    (sl : SqL K F l us) (sa : SqL K F a us) (rl : RepL K F xs us) : SR K F0 B ((r.set j (.tg xs)).set i (.tg xs)) σ H F := by
  have cs : ∀ {k : Nat} {s : Slot}, ((r.set j (.tg xs)).set i (.tg xs))[k]? = some s → (s = .tg xs ∧ (k = i ∨ k = j)) ∨ r[k]? = some s := by
    intro k s h
    rcases set_get h with ⟨c, e⟩ | ⟨c, h⟩
    · exact .inl ⟨e, .inl c⟩
    · rcases set_get h with ⟨c, e⟩ | ⟨c, h⟩
      · exact .inl ⟨e, .inr c⟩
      · exact .inr h
  have one : ∀ k, k = i ∨ k = j → ∃ b, σ[k]? = some (some (.ref b)) ∧ SqL K F b us := by
    rintro k (rfl | rfl)
    · exact ⟨l, hi, sl⟩
    · exact ⟨a, hj, sa⟩
  refine ⟨S.gr, by rw [List.length_set, List.length_set]; exact S.len, fun k s h => ?_, fun k m ys zs y z b hkm h1 h2 h3 h4 f1 f2 => ?_, ⟨us, rl.okV, fun k ys h => ?_⟩⟩
  · rcases cs h with ⟨rfl, c⟩ | h
    · obtain ⟨b, b1, b2⟩ := one k c
      exact ⟨_, b1, _, rfl, b, us, rfl, b2, rl⟩
    · exact S.ok k s h
  · rcases cs h1 with ⟨rfl, _⟩ | h1
    · exact f1
    rcases cs h2 with ⟨rfl, _⟩ | h2
    · exact f2
    exact S.sep k m ys zs y z b hkm h1 h2 h3 h4 f1 f2
  · rcases cs h with ⟨_, c⟩ | h
    · exact one k c
    · exact absurd h (no k ys)
/-- i = list(j) -/
theorem ds_copy {X : Cx} {ec : EC} {W : WX} {i j : Nat} {x y z : Str} {pos spos pos' p p' : Pos} (hN : X.N.Nodup) (hi : X.N[i]? = some x) (hx : Loc X.env.scope x) (hz : z = "list") (hg : Gl X z) (hm : X.mg z = none) (hv : bootBuiltins z = some (.type "list"))
    (hy : PE X (.Name y p') (tVar j)) (hn : z ≠ "__name__" := by decide) (hdb : (z == ("__debug__" : Str)) = false := by decide) (he : starEach [Expr.Name y p'] X.env = (false, eval (.Name y p') X.env) :: starEach [] X.env := by rfl)
    (hs : swapsWith (.Call (.Name z p) [.Name y p'] [] pos) (some (.Name x pos')) spos.line X.env = pure false := by rfl)
    (hf : X.fn x = true ∨ X.env.scope.names.lookup x = some .local := by first | exact .inl rfl | exact .inr rfl | assumption) :
    DS X ec W (.Assign [.Name x pos'] (.Call (.Name z p) [.Name y p'] [] pos) spos) (sCopy i j) :=
  psImp (ps_set hN hi hx (pe_callTy call_list_of hg hm hv (pa_cons hy pa_nil he) hn hdb he (by rfl)) hs hf) fun D σ H ⟨r, F, F0, B, S, q⟩ => by
    unfold sCopy at q
    split at q
    · rename_i xs e
      split at q
      · rename_i c
        have S1 := S.untag
        obtain ⟨y1, h1, v, rfl, h2⟩ := S1.ok j _ e
        obtain ⟨a, vs, rfl, h3, h4⟩ := id h2
        refine ⟨_, h1, a, vs, rfl, .inl (S1.sub.seq h3), fun l hl => ?_⟩
        have g := Gr.new S1.sub hl (.lst vs)
        have S2 := (S1.grow g).set (i := i) (x := .list xs) (v := .ref l) ⟨l, vs, rfl, .inl (.inl upd_same), h4.mono g.f⟩
        have no : ∀ (k : Nat) (ys : List PyData), ((untag r).set i (.d (.list xs)))[k]? ≠ some (Slot.tg ys) := by
          intro k ys h
          rcases set_get h with ⟨_, e⟩ | ⟨_, h⟩
          · cases e
          · exact untag_no h
        have li : i < σ.length := by rw [← S.len]; exact c.1
        have S3 := S2.tag2 (i := i) (j := j) (a := a) (l := l) (us := vs) no (List.getElem?_set_self li) (by rw [List.getElem?_set_ne c.2]; exact h1) (.inl (.inl upd_same)) (g.f.seq h3) (h4.mono g.f)
        have e3 : (((untag r).set i (.d (.list xs))).set j (.tg xs)).set i (.tg xs) = ((untag r).set j (.tg xs)).set i (.tg xs) := by
          rw [List.set_comm _ _ c.2, List.set_set]
        rw [e3] at S3
        exact (show ∀ σ' F' H', Same F F' → SR X.K F0 B (((untag r).set j (.tg xs)).set i (.tg xs)) σ' H' F' → D.nx σ' H' from q) _ _ _ g.f S3
      · exact False.elim q
    · exact False.elim q
end DL
/-! [e for .. in .. for .. in ..] -/
namespace DL
open PySem PySem.Spec PyProof.Rows L2
theorem walk_any {J : It} {n : Nat} {G : Hp → Prop} {Y : Nat → Hp → V → Hp → Prop} (w : Walk J n G Y) {H0 : Hp} {Qd : Hp → Prop} {body : V → Hp → (Hp → Prop) → Prop} (Pv : Nat → Hp → Prop) (h0 : Pv 0 H0) (hG : ∀ i H, i ≤ n → Pv i H → G H)
    (hb : ∀ i x H H', i < n → Pv i H → Y i H x H' → body x H' (Pv (i + 1))) (hq : ∀ H, Pv n H → Qd H) :
    ∃ W : Nat → Nat → Hp → Prop, (∃ m, W 0 m H0) ∧ ∀ i m H, W i m H → (J.stop i H ∧ Qd H) ∨ (J.go i H ∧ ∃ Nx : Hp → Prop, (∀ H', Nx H' → ∃ m', m' < m ∧ W (i + 1) m' H') ∧ ∀ x H', J.yld i H x H' → body x H' Nx) := by
  refine ⟨fun i m H => i ≤ n ∧ m = n - i ∧ Pv i H, ⟨n, Nat.zero_le _, rfl, h0⟩, fun i m H ⟨hi, hm, hp⟩ => ?_⟩
  by_cases c : i < n
  · refine .inr ⟨w.goes i H c (hG i H hi hp), Pv (i + 1), fun H' h => ⟨n - (i + 1), by omega, c, rfl, h⟩, fun x H' hy => hb i x H H' c hp (w.yields i H x H' c (hG i H hi hp) hy)⟩
  · have e : i = n := by omega
    subst e
    exact .inl ⟨w.stops H (hG i H hi hp), hq H hp⟩
/-- a store of targets, whatever is kept by it -/
theorem many_ok2 {K : PySem.W.Frag} {H F : Hp} {Φ : Env → L2.St → Prop} (cl : ∀ r σ i x v, Φ r σ → Rep K F x v → Φ (r.set i (.d x)) (σ.set i (some v))) : ∀ (is : List Nat) {xs : List D} {vs : List V} {r r1 : Env} {σ : L2.St} {Q : L2.St → Hp → Prop}, Φ r σ → RepL K F xs vs → putMany is xs r = some r1 →
    (∀ σ2, Φ r1 σ2 → (∀ ws : List Nat, (∀ i ∈ is, i ∈ ws) → L2.wipe σ2 ws = L2.wipe σ ws) → Q σ2 H) → gMany is vs σ H Q
  | [], [], vs, r, r1, σ, Q, S, h, hp, k => by
    have e : vs = [] := h
    have e2 : r = r1 := Option.some.inj hp
    subst e e2
    exact ⟨rfl, k σ S fun _ _ => rfl⟩
  | [], _ :: _, _, _, _, _, _, _, _, hp, _ => by cases hp
  | _ :: _, [], _, _, _, _, _, _, _, hp, _ => by cases hp
  | i :: is, x :: xs, vs, r, r1, σ, Q, S, ⟨v, vr, e, h1, h2⟩, hp, k => by
    subst e
    refine ⟨v, vr, rfl, ?_⟩
    show gMany is vr (σ.set i (some v)) H Q
    exact many_ok2 cl is (cl r σ i x v S h1) h2 hp fun σ2 S2 w => k σ2 S2 fun ws hw => by
      rw [w ws (fun j hj => hw j (List.mem_cons_of_mem _ hj)), wipe_set σ ws (hw i List.mem_cons_self)]
theorem nst_ok2 {K : PySem.W.Frag} {H F : Hp} (hs : Same F H) {Φ : Env → L2.St → Prop} (cl : ∀ r σ i x v, Φ r σ → Rep K F x v → Φ (r.set i (.d x)) (σ.set i (some v))) : ∀ (gs : List (Nat ⊕ List Nat)) {xs : List D} {vs : List V} {r r1 : Env} {σ : L2.St} {Q : L2.St → Hp → Prop}, Φ r σ → RepL K F xs vs → putN gs xs r = some r1 →
    (∀ σ2, Φ r1 σ2 → (∀ ws : List Nat, (∀ i ∈ slotsN gs, i ∈ ws) → L2.wipe σ2 ws = L2.wipe σ ws) → Q σ2 H) → gNst K gs vs σ H Q
  | [], [], vs, r, r1, σ, Q, S, h, hp, k => by
    have e : vs = [] := h
    have e2 : r = r1 := Option.some.inj hp
    subst e e2
    exact ⟨rfl, k σ S fun _ _ => rfl⟩
  | [], _ :: _, _, _, _, _, _, _, _, hp, _ => by cases hp
  | .inl _ :: _, [], _, _, _, _, _, _, _, hp, _ => by cases hp
  | .inr _ :: _, [], _, _, _, _, _, _, _, hp, _ => by cases hp
  | .inl i :: gs, x :: xs, vs, r, r1, σ, Q, S, ⟨v, vr, e, h1, h2⟩, hp, k => by
    subst e
    refine ⟨v, vr, rfl, ?_⟩
    show gNst K gs vr (σ.set i (some v)) H Q
    exact nst_ok2 hs cl gs (cl r σ i x v S h1) h2 hp fun σ2 S2 w => k σ2 S2 fun ws hw => by
      rw [w ws (fun j hj => hw j (List.mem_cons_of_mem _ hj)), wipe_set σ ws (hw i List.mem_cons_self)]
  | .inr is :: gs, x :: xs, vs, r, r1, σ, Q, S, ⟨v, vr, e, h1, h2⟩, hp, k => by
    subst e
    cases x with
    | tuple ys =>
      have h' : (match putMany is ys r with | some r1 => putN gs xs r1 | none => none) = some r1 := hp
      cases e : putMany is ys r with
      | none => rw [e] at h'; cases h'
      | some r2 =>
        rw [e] at h'
        obtain ⟨a, us, rfl, k1, k2⟩ := h1
        refine ⟨.ref a, vr, rfl, a, us, rfl, tupT hs k1, by rw [k2.length, putMany_len is e], ?_⟩
        exact many_ok2 cl is S k2 e fun σ2 S2 w => nst_ok2 hs cl gs S2 h2 h' fun σ3 S3 w3 => k σ3 S3 fun ws hw => by
          rw [w3 ws (fun j hj => hw j (List.mem_append_right _ hj)), w ws (fun j hj => hw j (List.mem_append_left _ hj))]
    | _ => cases hp
theorem put_ok2 {K : PySem.W.Frag} {H F : Hp} {Φ : Env → L2.St → Prop} (cl : ∀ r σ i x v, Φ r σ → Rep K F x v → Φ (r.set i (.d x)) (σ.set i (some v))) (hs : Same F H) {g : Tg} {x : D} {v : V} {r r1 : Env} {σ : L2.St} {Q : L2.St → Hp → Prop} (S : Φ r σ) (h : Rep K F x v) (hp : g.put x r = some r1)
    (k : ∀ σ2, Φ r1 σ2 → (∀ ws : List Nat, (∀ i ∈ g.slots, i ∈ ws) → L2.wipe σ2 ws = L2.wipe σ ws) → Q σ2 H) : tgT K g v σ H Q := by
  cases g with
  | one i =>
    have e : r.set i (.d x) = r1 := Option.some.inj hp
    subst e
    exact k _ (cl r σ i x v S h) fun ws hw => wipe_set σ ws (hw i List.mem_cons_self)
  | many is =>
    cases x with
    | tuple xs =>
      obtain ⟨a, vs, rfl, h1, h2⟩ := h
      have hp' : putMany is xs r = some r1 := hp
      exact ⟨a, vs, rfl, tupT hs h1, by rw [h2.length, putMany_len is hp'], many_ok2 cl is S h2 hp' fun σ2 S2 w => k σ2 S2 w⟩
    | _ => cases hp
  | nst gs =>
    cases x with
    | tuple xs =>
      obtain ⟨a, vs, rfl, h1, h2⟩ := h
      have hp' : putN gs xs r = some r1 := hp
      exact ⟨a, vs, rfl, tupT hs h1, by rw [h2.length, putN_len gs hp'], nst_ok2 hs cl gs S h2 hp' fun σ2 S2 w => k σ2 S2 w⟩
    | _ => cases hp
theorem Gr.del2 {F H F4 H4 : Hp} {a : Addr} {o : HO} (g : Gr F H F4 H4) (h : H a = some o) (hf : F a = none) (ho : ∀ vs, o ≠ .tup vs := by exact fun _ z => nomatch z) : Gr F (DL.del H a) F4 (DL.del H4 a) := by
  have f4 : F4 a = none := g.nu h ho hf
  refine ⟨g.f, fun b x q => ?_, fun b x q => ?_, fun b hb q t => ?_⟩
  · by_cases c : b = a
    · subst c; rw [del_self] at q; cases q
    · rw [del_ne c] at q ⊢; exact g.h b x q
  · rw [del_ne (ne_of_none q f4)]
    exact g.i b x q
  · by_cases c : b = a
    · subst c; rw [del_self] at hb; exact absurd rfl hb
    · rw [del_ne c] at hb; exact g.n b hb q fun vs z => t vs (by rw [del_ne c]; exact z)
theorem ok_inj {α : Type} {a b : α} (h : (ok a : R α) = ok b) : a = b := by
  unfold ok at h
  simpa using h
theorem drop_eq {α : Type} {xs : List α} {i : Nat} (hi : i < xs.length) : ∃ d, xs[i]? = some d ∧ xs.drop i = d :: xs.drop (i + 1) := ⟨xs[i], List.getElem?_eq_getElem hi, List.drop_eq_getElem_cons hi⟩
theorem lc2_use {K : PySem.W.Frag} {ec : EC} {W : WX} {ι ι1 : EL} {g g1 : Tg} {β1 : EB} {φ : EX} {vs vs1 : List Nat} (hvs : vs = g.slots ++ g1.slots) (hvs1 : vs1 = g1.slots) {σ : L2.St} {H : Hp} {Q : VK} (h : tL K ec W (lComp2 ι g ι1 g1 β1 φ) σ H Q) :
    tLc2 (tIX K ec W ι) (tgT K g) (tT K ec W0 bYes) (tI K ec W0 ι1) (tgT K g1) (tT K ec W0 β1) (tD K ec W0 φ) vs vs1 σ H Q := by
  subst hvs hvs1
  obtain ⟨r, F, F0, B, S, q⟩ := h
  refine ⟨r, F, F0, B, S, (Thn.bind q).imp fun xs F1 H1 _ gx1 h1 J hJ D hD => ?_⟩
  match ec1 : noEr (compL2 g ι1 g1 β1 φ (unSlots (g.slots ++ g1.slots) r) xs) with
  | none => rw [ec1] at h1; exact False.elim h1
  | some (.error _) =>
    exfalso
    unfold noEr at ec1
    split at ec1
    · cases ec1
    · cases ec1
  | some (.ok ys) =>
    rw [ec1] at h1
    have h1 : Thn K ec W (if ys.length ≤ lim then ok ys else none) σ F1 H1 _ := h1
    by_cases hlim : ys.length ≤ lim
    · rw [if_pos hlim] at h1
      have hc : compL2 g ι1 g1 β1 φ (unSlots (g.slots ++ g1.slots) r) xs = ok ys := noEr_ok ec1
      have S1 := SR.wipe (g.slots ++ g1.slots) (S.grow gx1)
      obtain ⟨G, Y, w, hG, hY⟩ := hJ
      refine walk_any w (fun i Hc => ∃ done rest us F2 Hm, i ≤ xs.length ∧ compL2 g ι1 g1 β1 φ (unSlots (g.slots ++ g1.slots) r) (xs.drop i) = ok rest ∧ done ++ rest = ys ∧ Hc = upd Hm D (.lst us) ∧ Hm D = none ∧ RepL K F2 done us ∧ Gr F1 H1 F2 Hm)
        ⟨[], ys, [], F1, H1, Nat.zero_le _, hc, rfl, rfl, hD, rfl, Gr.refl gx1.i⟩ ?_ ?_ ?_
      · rintro i Hc hi ⟨done, rest, us, F2, Hm, _, _, _, rfl, hm, _, g2⟩
        exact hG _ (g2.h.trans (Gr.own g2.i hm _).h)
      · rintro i x Hc H' hi ⟨done, rest, us, F2, Hm, _, er, ed, rfl, hm, hu, g2⟩ y
        have go := Gr.own g2.i hm (.lst us)
        obtain ⟨d, hd, hdrop⟩ := drop_eq hi
        obtain ⟨F3, g3, r3⟩ := hY i d _ x H' F2 hd (g2.h.trans go.h) g2.f go.i y
        have f2D : F2 D = none := g2.i.free hm
        have S3 := (S1.grow g2).grow (go.trans g3)
        have g3b : Gr F2 Hm F3 (DL.del H' D) := (g3.del hm f2D)
        have S3b := (S1.grow g2).grow g3b
        have f3D : F3 D = none := g3.nu upd_same (fun _ z => nomatch z) f2D
        have hD3 : H' D = some (.lst us) := g3.h _ _ upd_same
        rw [hdrop] at er
        unfold compL2 at er
        split at er
        · cases er
        · rename_i r1 hput
          obtain ⟨ys1, ey, er1⟩ := rb_eq_ok er
          obtain ⟨zs, ez, er2⟩ := rb_eq_ok er1
          obtain ⟨ws, ew, er3⟩ := rb_eq_ok er2
          have er4 := ok_inj er3
          refine put_ok2 (Φ := fun r σ => SR K F0 B r σ H' F3 ∧ SR K F0 B r σ (DL.del H' D) F3) (fun r σ i x v h hr => ⟨h.1.set hr, h.2.set hr⟩) S3.sub ⟨S3, S3b⟩ r3 hput fun σ2 S4 hw => ⟨by rw [hw _ (fun i hi => List.mem_append_left _ hi), wipe_wipe], ⟨r1, F3, F0, B, S4.1, fun F' H'' g' => ?_⟩⟩
          refine iteT ⟨r1, F', F0, B, S4.1.grow g', Thn.ok0 ey fun F4 H4 g4 J1 hJ1 => ?_⟩
          have g34 := g'.trans g4
          have hD4 : H4 D = some (.lst us) := g34.h _ _ hD3
          have f4D : F4 D = none := g34.nu hD3 (fun _ z => nomatch z) f3D
          have g4b : Gr F3 (DL.del H' D) F4 (DL.del H4 D) := g34.del2 hD3 f3D
          have S5 := SR.wipe g1.slots (S4.2.grow g4b)
          obtain ⟨G1, Y1, w1, hG1, hY1⟩ := hJ1
          refine walk_any w1 (fun j Hc => ∃ done1 rest1 us1 F5 Hm5, j ≤ ys1.length ∧ compL g1 β1 φ (unSlots g1.slots r1) (ys1.drop j) = ok rest1 ∧ done1 ++ rest1 = zs ∧ Hc = upd Hm5 D (.lst us1) ∧ Hm5 D = none ∧ RepL K F5 (done ++ done1) us1 ∧ Gr F4 (DL.del H4 D) F5 Hm5)
            ⟨[], zs, us, F4, DL.del H4 D, Nat.zero_le _, ez, rfl, (upd_del hD4).symm, del_self, by rw [List.append_nil]; exact (hu.mono g3.f).mono g34.f, Gr.refl g4b.i⟩ ?_ ?_ ?_
          · rintro j Hc hj ⟨done1, rest1, us1, F5, Hm5, _, _, _, rfl, hm5, _, g5⟩
            exact hG1 _ (g5.f.trans (g5.i.trans (Gr.own g5.i hm5 _).h))
          · rintro j x1 Hc H6 hj ⟨done1, rest1, us1, F5, Hm5, _, e1, ed1, rfl, hm5, hu1, g5⟩ y1
            have go5 := Gr.own g5.i hm5 (.lst us1)
            obtain ⟨d1, hd1, hdrop1⟩ := drop_eq hj
            obtain ⟨F6, g6, r6⟩ := hY1 j d1 _ x1 H6 F5 hd1 (g5.f.trans go5.i) g5.f go5.i y1
            have f5D : F5 D = none := g5.i.free hm5
            have S6 := (S5.grow g5).grow (go5.trans g6)
            rw [hdrop1] at e1
            unfold compL at e1
            split at e1
            · cases e1
            · rename_i r2 hput1
              obtain ⟨k, ek, e2⟩ := rb_eq_ok e1
              refine put_ok S6 r6 hput1 fun σ3 S7 hw1 => ⟨by rw [hw1, wipe_wipe], ⟨r2, F6, F0, B, S7, Thn.ok0 ek fun F7 H7 g7 => ?_⟩⟩
              cases k with
              | true =>
                rw [if_pos rfl] at e2
                obtain ⟨z, ezz, e3⟩ := rb_eq_ok e2
                obtain ⟨rest', e4, e5⟩ := rb_eq_ok e3
                have e6 : rest1 = z :: rest' := (ok_inj e5).symm
                refine iteT ⟨r2, F7, F0, B, S7.grow g7, Thn.ok0 ezz fun F8 H8 g8 v rv => ?_⟩
                have g9 : Gr F5 (upd Hm5 D (.lst us1)) F8 H8 := (g6.trans g7).trans g8
                have hD8 : H8 D = some (.lst us1) := g9.h _ _ upd_same
                refine ⟨us1, hD8, ?_, done1 ++ [z], rest', us1 ++ [v], F8, DL.del H8 D, hj, e4, by rw [← ed1, e6]; simp, ?_, del_self, ?_, g5.trans (g9.del hm5 f5D)⟩
                · rw [hu1.length]
                  have : (done ++ done1).length < ys.length := by rw [← ed, ← er4, ← ed1, e6]; simp only [List.length_append, List.length_cons]; omega
                  exact Nat.lt_of_lt_of_le this (Nat.le_trans hlim (by rw [sizeLine_eq]; exact Nat.le_refl _))
                · funext b
                  unfold upd DL.del
                  by_cases c : b = D
                  · rw [if_pos c, if_pos c]
                  · rw [if_neg c, if_neg c, if_neg c]
                · rw [← List.append_assoc]
                  exact (hu1.mono g9.f).append ⟨v, [], rfl, rv, rfl⟩
              | false =>
                rw [if_neg (by simp)] at e2
                have g9 : Gr F5 (upd Hm5 D (.lst us1)) F7 H7 := g6.trans g7
                have hD8 : H7 D = some (.lst us1) := g9.h _ _ upd_same
                exact iteF ⟨done1, rest1, us1, F7, DL.del H7 D, hj, e2, ed1, (upd_del hD8).symm, del_self, hu1.mono g9.f, g5.trans (g9.del hm5 f5D)⟩
          · rintro Hc ⟨done1, rest1, us1, F5, Hm5, _, e1, ed1, rfl, hm5, hu1, g5⟩
            rw [List.drop_length] at e1
            have e6 : rest1 = [] := (ok_inj e1).symm
            rw [e6, List.append_nil] at ed1
            subst ed1
            exact ⟨done ++ done1, ws, us1, F5, Hm5, hi, ew, by rw [← ed, ← er4, List.append_assoc], rfl, hm5, hu1, g2.trans (g3b.trans (g4b.trans g5))⟩
      · rintro Hc ⟨done, rest, us, F2, Hm, _, er, ed, rfl, hm, hu, g2⟩
        rw [List.drop_length] at er
        have e5 : rest = [] := (ok_inj er).symm
        rw [e5, List.append_nil] at ed
        subst ed
        exact h1 F2 Hm g2 D us hm hu
    · rw [if_neg hlim] at h1
      exact False.elim h1
section
variable {X : Cx} {ec : EC} {W : WX} {elt tg iter tg1 iter1 : Expr} {ifs1 : List Expr} {scope : Scope} {own : List (Str × Nat)} {pos : Pos} {ι ι1 : EL} {g g1 : Tg} {β1 : EB} {φ : EX}
theorem dl_comp2 (hc : X.calm = true) (hN : X.N.Nodup) (hi : DIX X ec W tg iter ι) (ok : BlkOk X.N X.env.scope scope own) (hv : own.map (·.2) = g.slots ++ g1.slots)
    (hg : ∀ (s : Shared) (H : Hp) (C : Addr) (cl : List (Str × Addr)) (fp : List Addr), PG (X.blk s H scope (compEnvC scope cl C X.env) fp) tg (tgT X.K g))
    (hi1 : ∀ (s : Shared) (H : Hp) (C : Addr) (cl : List (Str × Addr)) (fp : List Addr), PI (X.blk s H scope (compEnvC scope cl C X.env) fp) tg1 iter1 (tI X.K ec W0 ι1))
    (hg1 : ∀ (s : Shared) (H : Hp) (C : Addr) (cl : List (Str × Addr)) (fp : List Addr), PG (X.blk s H scope (compEnvC scope cl C X.env) fp) tg1 (tgT X.K g1))
    (ht1 : ∀ (s : Shared) (H : Hp) (C : Addr) (cl : List (Str × Addr)) (fp : List Addr), PTs (X.blk s H scope (compEnvC scope cl C X.env) fp) ifs1 (tT X.K ec W0 β1))
    (he : ∀ (s : Shared) (H : Hp) (C : Addr) (cl : List (Str × Addr)) (fp : List Addr), DE (X.blk s H scope (compEnvC scope cl C X.env) fp) ec W0 elt φ) (hs : ∀ x, foldedSetIterable iter X.env x = pure x := by intro _; rfl) (hs1 : ∀ env x, foldedSetIterable iter1 env x = pure x := by intro _ _; rfl) :
    DLi X ec W (.ListComp elt [⟨tg, iter, [], 0⟩, ⟨tg1, iter1, ifs1, 0⟩] scope pos) (lComp2 ι g ι1 g1 β1 φ) :=
  peImp (pe_lc2 hc hN hi ok (vs1 := g1.slots) (by rw [hv]; exact fun i hi => List.mem_append_right _ hi) hg (fun _ _ _ _ _ => dts_nil) hi1 hg1 ht1 he hs hs1) fun _ _ _ h => lc2_use hv rfl h
end
end DL
/-! Lists of own lists: made, read, changed. -/
namespace DL
open PySem PySem.Spec PyProof.Rows L2
/-- a comprehension within another one -/
def relab (scope sc : Scope) : Scope := { scope with names := scope.names.map fun (n, k) => if (k == .free && sc.kind == .function && sc.names.lookup n == some .cell) then (n, .cell) else (n, k) }
theorem blkOk_in {X : Cx} {s : Shared} {H : Hp} {C : Addr} {cl : List (Str × Addr)} {fp : List Addr} {sc0 scope sc : Scope} {own : List (Str × Nat)} {N : List Str} (hN : X.N = N) (hsc : X.env.scope = sc) (h : blkC N (relab sc0 sc) scope own = true) : BlkOk (X.blk s H sc0 (compEnvC sc0 cl C X.env) fp).N (X.blk s H sc0 (compEnvC sc0 cl C X.env) fp).env.scope scope own := by
  subst hN hsc
  have h2 : BlkOk X.N (relab sc0 X.env.scope) scope own := blkOk_by h
  exact h2
/-- a list of lists, all of them new -/
def tN (K : PySem.W.Frag) (ec : EC) (W : WX) (a : Env → R (List (List D))) : TE := fun σ H Q => ∃ r F F0 B, SR K F0 B r σ H F ∧ Thn K ec W (a r) σ F H fun xss F' H' => ∀ F2 H2 p vs, Gr F' H' F2 H2 → H' p = none → H2 p = some (.lst vs) → V.ref p ∉ vs → F2 p = none → NestOk K H' H2 F2 xss vs → Q (.ref p) H2
theorem nest_app {K : PySem.W.Frag} {B H F : Hp} {ys : List D} {us : List V} {p : Addr} (hp : H p = some (.lst us)) (fp : F p = none) (bp : B p = none) (h : RepL K F ys us) : ∀ {xss : List (List D)} {vs : List V}, V.ref p ∉ vs → NestOk K B H F xss vs → NestOk K B H F (xss ++ [ys]) (vs ++ [.ref p])
  | [], vs, _, q => by
    have q' : vs = [] := q
    rw [q']
    exact ⟨p, us, [], rfl, hp, fp, bp, h, List.not_mem_nil, rfl⟩
  | xs :: xss, vs, nm, ⟨b, ws, r, q, h1, h2, h3, h4, h5, h6⟩ => by
    rw [q] at nm
    refine ⟨b, ws, r ++ [.ref p], by rw [q]; rfl, h1, h2, h3, h4, fun m => ?_, nest_app hp fp bp h (fun m => nm (List.mem_cons_of_mem _ m)) h6⟩
    rcases List.mem_append.mp m with m | m
    · exact h5 m
    · have e : V.ref b = .ref p := by simpa using m
      exact nm (by rw [e]; exact List.mem_cons_self)
theorem nest_base {K : PySem.W.Frag} {B B' H F : Hp} (e : ∀ a, B a = none → B' a = none) : ∀ {xss : List (List D)} {vs : List V}, NestOk K B H F xss vs → NestOk K B' H F xss vs
  | [], _, h => h
  | xs :: xss, vs, ⟨b, us, r, q, h1, h2, h3, h4, h5, h6⟩ => ⟨b, us, r, q, h1, h2, e b h3, h4, h5, nest_base e h6⟩
theorem nest_grow {K : PySem.W.Frag} {B F H F' H' : Hp} (g : Gr F H F' H') {xss : List (List D)} {vs : List V} (h : NestOk K B H F xss vs) : NestOk K B H' F' xss vs :=
  nest_frame g.f (fun a m => by
    obtain ⟨us, h1, h2, _⟩ := nest_foot h m
    exact ⟨by rw [g.h _ _ h1, h1], g.nu h1 (fun _ z => nomatch z) h2⟩) h
theorem lcN_use {K : PySem.W.Frag} {ec : EC} {W : WX} {ι : EL} {g : Tg} {β : EB} {ε : EL} {vs : List Nat} (hvs : vs = g.slots) {σ : L2.St} {H : Hp} {Q : VK} (h : tN K ec W (lCompN ι g β ε) σ H Q) :
    tLc (tIX K ec W ι) (tgT K g) (tT K ec W0 β) (tL K ec W0 ε) vs σ H Q := by
  subst hvs
  obtain ⟨r, F, F0, B, S, q⟩ := h
  refine ⟨r, F, F0, B, S, (Thn.bind q).imp fun xs F1 H1 _ g1 h1 J hJ D hD => ?_⟩
  by_cases hlim : xs.length ≤ lim
  · rw [if_pos hlim] at h1
    match ec1 : noEr (compLN g β ε (unSlots g.slots r) xs) with
    | none => rw [ec1] at h1; exact False.elim h1
    | some (.error _) =>
      exfalso
      unfold noEr at ec1
      split at ec1
      · cases ec1
      · cases ec1
    | some (.ok ys) =>
      rw [ec1] at h1
      have hc : compLN g β ε (unSlots g.slots r) xs = ok ys := noEr_ok ec1
      have S1 := SR.wipe g.slots (S.grow g1)
      obtain ⟨G, Y, w, hG, hY⟩ := hJ
      refine lc_it w (fun i Hc => ∃ done rest us F2 Hm, i ≤ xs.length ∧ compLN g β ε (unSlots g.slots r) (xs.drop i) = ok rest ∧ done ++ rest = ys ∧ done.length ≤ i ∧ Hc = upd Hm D (.lst us) ∧ Hm D = none ∧ V.ref D ∉ us ∧ NestOk K H1 Hm F2 done us ∧ Gr F1 H1 F2 Hm)
        ⟨[], ys, [], F1, H1, Nat.zero_le _, hc, rfl, Nat.le_refl _, rfl, hD, List.not_mem_nil, rfl, Gr.refl g1.i⟩ ?_ ?_ ?_
      · rintro i Hc hi ⟨done, rest, us, F2, Hm, _, _, _, _, rfl, hm, _, _, g2⟩
        exact hG _ (g2.h.trans (Gr.own g2.i hm _).h)
      · rintro i x Hc H' hi ⟨done, rest, us, F2, Hm, _, er, ed, hl, rfl, hm, hu0, hu, g2⟩ y
        have go := Gr.own g2.i hm (.lst us)
        obtain ⟨d, hd⟩ : ∃ d, xs[i]? = some d := ⟨xs[i], List.getElem?_eq_getElem hi⟩
        have hdrop : xs.drop i = d :: xs.drop (i + 1) := by
          rw [List.drop_eq_getElem_cons hi]
          congr 1
          have := List.getElem?_eq_getElem hi
          rw [hd] at this
          exact (Option.some.inj this).symm
        obtain ⟨F3, g3, r3⟩ := hY i d _ x H' F2 hd (g2.h.trans go.h) g2.f go.i y
        have S3 := (S1.grow g2).grow (go.trans g3)
        rw [hdrop] at er
        unfold compLN at er
        split at er
        · cases er
        · rename_i r1 hput
          obtain ⟨k, ek, er1⟩ := rb_eq_ok er
          refine put_ok S3 r3 hput fun σ2 S4 hw => ⟨by rw [hw, wipe_wipe], ⟨r1, F3, F0, B, S4, Thn.ok0 ek fun F4 H4 g4 => ?_⟩⟩
          have f2D : F2 D = none := g2.i.free hm
          cases k with
          | true =>
            rw [if_pos rfl] at er1
            obtain ⟨z, ez, er2⟩ := rb_eq_ok er1
            obtain ⟨rest', er3, er4⟩ := rb_eq_ok er2
            have e5 : rest = z :: rest' := by
              have e6 : ok (z :: rest') = ok rest := er4
              unfold ok at e6
              simpa using e6.symm
            refine iteT ⟨r1, F4, F0, B, S4.grow g4, Thn.ok0 ez fun F5 H5 g5 p zs hp rv => ?_⟩
            have g6 : Gr F2 (upd Hm D (.lst us)) F5 H5 := (g3.trans g4).trans g5
            have hD5 : H5 D = some (.lst us) := g6.h _ _ upd_same
            have pD : p ≠ D := fun z => by rw [z, hD5] at hp; cases hp
            have g7 : Gr F2 Hm F5 (DL.del H5 D) := g6.del hm f2D
            have hp7 : DL.del H5 D p = none := by rw [del_ne pD]; exact hp
            have g8 : Gr F5 (DL.del H5 D) F5 (upd (DL.del H5 D) p (.lst zs)) := Gr.own g7.i hp7 (.lst zs)
            have hpm : Hm p = none := g7.h.free hp7
            have pu : V.ref p ∉ us := fun m => by
              obtain ⟨ws, h2, _⟩ := nest_foot hu m
              rw [hpm] at h2; cases h2
            refine ⟨us, by rw [upd_ne (Ne.symm pD)]; exact hD5, ?_, done ++ [z], rest', us ++ [.ref p], F5, upd (DL.del H5 D) p (.lst zs), hi, er3, by rw [← ed, e5]; simp, by rw [List.length_append]; simpa using hl, ?_, by rw [upd_ne (Ne.symm pD)]; exact del_self, fun m => ?_, ?_, (g2.trans g7).trans g8⟩
            · rw [nest_len hu]
              exact Nat.lt_of_lt_of_le (Nat.lt_of_le_of_lt hl hi) (lim_line hlim)
            · funext b
              unfold upd DL.del
              by_cases c : b = D
              · rw [if_pos c, if_pos c]
              · rw [if_neg c, if_neg c, if_neg c]
            · rcases List.mem_append.mp m with m | m
              · exact hu0 m
              · have e : V.ref D = .ref p := by simpa using m
                cases e
                exact pD rfl
            · exact nest_app upd_same (g7.i.free hp7) ((g2.trans g7).h.free hp7) rv pu (nest_grow (g7.trans g8) hu)
          | false =>
            rw [if_neg (by simp)] at er1
            have g6 : Gr F2 (upd Hm D (.lst us)) F4 H4 := g3.trans g4
            have hD5 : H4 D = some (.lst us) := g6.h _ _ upd_same
            exact iteF ⟨done, rest, us, F4, DL.del H4 D, hi, er1, ed, Nat.le_succ_of_le hl, (upd_del hD5).symm, del_self, hu0, nest_grow (g6.del hm f2D) hu, g2.trans (g6.del hm f2D)⟩
      · rintro Hc ⟨done, rest, us, F2, Hm, _, er, ed, hl, rfl, hm, hu0, hu, g2⟩
        rw [List.drop_length] at er
        have e5 : rest = [] := by
          have e6 : ok [] = ok rest := er
          unfold ok at e6
          simpa using e6.symm
        rw [e5, List.append_nil] at ed
        subst ed
        have go := Gr.own g2.i hm (.lst us)
        refine h1 F1 H1 (Gr.refl g1.i) F2 _ D us (g2.trans go) (g2.h.free hm) upd_same hu0 (g2.i.free hm) (nest_grow go hu)
  · rw [if_neg hlim] at h1
    exact False.elim h1
theorem nest_use {K : PySem.W.Frag} {ec : EC} {W : WX} {i : Nat} {a : Env → R (List (List D))} {D : Ends} {σ : L2.St} {H : Hp} (h : tS K ec W (sNest i a) D σ H) : tAsg (tN K ec W a) (gName i) D σ H := by
  obtain ⟨r, F, F0, B, S, q⟩ := h
  exact ⟨r, F, F0, B, S, (Aft.so S q).imp fun xss F1 H1 _ g k F2 H2 p vs g2 hp h2 hv f2 hn => k _ F2 _ g2.f ((S.grow g).setNest g2 hp h2 hv (fun a m => by
    obtain ⟨_, _, _, z⟩ := nest_foot hn m
    exact z) f2 (nest_base (fun a z => (S.grow g).gr.h.free z) hn))⟩
theorem SR.frz {K : PySem.W.Frag} {F0 B : Hp} {r : Env} {σ : L2.St} {H F : Hp} (S : SR K F0 B r σ H F) (i : Nat) : ∃ F', Same F F' ∧ SR K F0 B (DL.frz i r) σ H F' := by
  unfold DL.frz
  split
  · rename_i xs hx
    exact S.freeze hx
  · rename_i xss hx
    exact S.freezeN hx
  · exact ⟨F, Same.refl _, S⟩
theorem rep_scal {K : PySem.W.Frag} {F F' : Hp} {d : D} {v : V} (h : scal d = true) (q : Rep K F d v) : Rep K F' d v := by
  cases d <;> first | exact q | cases h
theorem de_frz {X : Cx} {ec : EC} {W : WX} {e : Expr} {φ : EX} (i : Nat) (h : DE X ec W e φ) : DE X ec W e (vFrz i φ) := peImp h fun σ H Q ⟨r, F, F0, B, S, q⟩ => by
  obtain ⟨F1, sf, S1⟩ := S.frz i
  refine ⟨frz i r, F1, F0, B, S1, ?_⟩
  have q' : Thn X.K ec W (rb (noEr (φ (frz i r))) fun x => if scal x = true then ok x else none) σ F H fun d F' H' => ∀ v, Rep X.K F' d v → Q v H' := q
  revert q'
  match φ (frz i r) with
  | none => exact fun z => z
  | some (.error _) => exact fun z => False.elim z
  | some (.ok d) =>
    intro z F' H' g v rv
    have z' : Thn X.K ec W (if scal d = true then ok d else none) σ F H fun d F' H' => ∀ v, Rep X.K F' d v → Q v H' := z
    by_cases c : scal d = true
    · rw [if_pos c] at z'
      exact z' F H' ⟨Same.refl _, g.h, (sf.trans g.f).trans g.i, fun _ _ q _ => q⟩ v (rep_scal c rv)
    · rw [if_neg c] at z'
      exact False.elim z'
section
variable {X : Cx} {ec : EC} {W : WX} {e : Expr} {pos : Pos} {φ ψ χ : EX} {ι ε : EL} {β : EB}
/-- x = [e for .. in ..], e a new list each time -/
theorem ds_nestC {i : Nat} {y : Str} {py : Pos} {elt tg iter : Expr} {ifs : List Expr} {scope : Scope} {own : List (Str × Nat)} {spos : Pos} {g : Tg} (hc : X.calm = true) (hN : X.N.Nodup) (hy : X.N[i]? = some y) (hyl : X.env.scope.names.lookup y = some .local)
    (hsw : swapsWith (.ListComp elt [⟨tg, iter, ifs, 0⟩] scope pos) (some (.Name y py)) spos.line X.env = pure true) (hi : DIX X ec W tg iter ι) (okB : BlkOk X.N X.env.scope scope own) (hv : own.map (·.2) = g.slots)
    (hg : ∀ (s : Shared) (H : Hp) (C : Addr) (cl : List (Str × Addr)) (fp : List Addr), PG (X.blk s H scope (compEnvC scope cl C X.env) fp) tg (tgT X.K g)) (ht : ∀ (s : Shared) (H : Hp) (C : Addr) (cl : List (Str × Addr)) (fp : List Addr), PTs (X.blk s H scope (compEnvC scope cl C X.env) fp) ifs (tT X.K ec W0 β))
    (he : ∀ (s : Shared) (H : Hp) (C : Addr) (cl : List (Str × Addr)) (fp : List Addr), DLi (X.blk s H scope (compEnvC scope cl C X.env) fp) ec W0 elt ε) (hs : ∀ x, foldedSetIterable iter X.env x = pure x := by intro _; rfl) :
    DS X ec W (.Assign [.Name y py] (.ListComp elt [⟨tg, iter, ifs, 0⟩] scope pos) spos) (sNest i (lCompN ι g β ε)) := psImp (ps_setLc hc hN hy hyl hsw hi okB hg ht he hs) fun D σ H h => by
  have h' := nest_use h
  exact lcN_use hv h'
theorem nestix_use {K : PySem.W.Frag} {i : Nat} {σ : L2.St} {H : Hp} {Q : VK} (h : tX K ec W (vNestIx i ψ) σ H Q) : tOp (fun x y H Q => rIxL K x y H Q ∨ rIxT K x y H Q) (tVar i) (tX K ec W ψ) σ H Q := by
  obtain ⟨r, F, F0, B, S, q⟩ := h
  unfold vNestIx at q
  split at q
  · rename_i xss hi
    obtain ⟨y, h1, a, vs, rfl, h3, h4, h5, h6, h7⟩ := S.ok i _ hi
    refine ⟨.ref a, h1, r, F, F0, B, S, (Thn.bind q).imp fun j F1 H1 ej g1 k u ru => ?_⟩
    split at k
    · rename_i m
      split at k
      · rename_i n hn
        obtain ⟨d, ed, k2⟩ := k.po
        obtain ⟨xs, ex, rfl⟩ := Option.map_eq_some_iff.mp ed
        have S1 := S.grow g1
        have h7' := nest_grow g1 h7
        obtain ⟨b, us, e1, e2, e3⟩ := nest_at h7' ex
        have u' : u = .int m := ru
        refine .inl ⟨a, vs, m, .ref b, rfl, u', .inl (.inl (g1.h _ _ h3)), ?_, k2 F1 H1 (Gr.refl g1.i) _ ⟨b, us, rfl, .inl (.inl e2), e3⟩⟩
        unfold L2.atI
        rw [nest_len h7]
        show (ixAt xss.length m).bind (fun q => vs[q]?) = _
        rw [hn]
        exact e1
      · exact False.elim k
    · exact False.elim k
  · exact False.elim q
theorem dx_nestix {i : Nat} {x : Str} {xp : Pos} {b : Expr} (hN : X.N[i]? = some x) (hv : Vis X.env.scope x) (hb : DX X ec W b ψ) (hs : PlainIx b := by exact fun _ _ => rfl) (hd : (x == ("__debug__" : Str)) = false := by decide) (hcd : (x == ("__classdict__" : Str)) = false := by decide) :
    DX X ec W (.Subscript (.Name x xp) b pos) (vNestIx i ψ) := peImp (pe_ix (ix_list.or ix_tup) (pe_var hN hv hd hcd) hb hs) fun _ _ _ h => nestix_use h
/-- x[k][m] = e -/
theorem ds_setix2 {i : Nat} {x : Str} {xp tp tp2 : Pos} {k m : Expr} (hN : X.N[i]? = some x) (hv : Vis X.env.scope x) (hk : DX X ec W k ψ) (hm : DX X ec W m χ) (ha : DE X ec W e φ)
    (h : ∀ {te to ti : TE}, PE X e te → PE X (.Subscript (.Name x xp) k tp) to → PE X m ti → PS X (.Assign [.Subscript (.Subscript (.Name x xp) k tp) m tp2] e pos) (tAsg te (gSub to ti rSetL))) (hs : PlainIx k := by exact fun _ _ => rfl) (hd : (x == ("__debug__" : Str)) = false := by decide) (hcd : (x == ("__classdict__" : Str)) = false := by decide) :
    DS X ec W (.Assign [.Subscript (.Subscript (.Name x xp) k tp) m tp2] e pos) (sSetIx2 i ψ χ φ) := psImp (h ha (pe_ix (ix_list.or ix_tup) (pe_var hN hv hd hcd) hk hs) hm) fun D σ H ⟨r, F, F0, B, S, q⟩ => by
  unfold sSetIx2 at q
  split at q
  · rename_i xss hi
    obtain ⟨y, h1, a, vs, rfl, h3, h4, h5, h6, h7⟩ := S.ok i _ hi
    refine ⟨r, F, F0, B, S, (Aft.so S q).imp fun d F1 H1 _ g1 k1 v rv => ⟨.ref a, h1, r, F1, F0, B, S.grow g1, (Aft.so (S.grow g1) k1).imp fun j F2 H2 ej g2 k2 u ru => ?_⟩⟩
    split at k2
    · rename_i j
      split at k2
      · rename_i n hn
        split at k2
        · rename_i xs ex
          have g12 := g1.trans g2
          have S2 := S.grow g12
          obtain ⟨b, us, e1, e2, e3⟩ := nest_at (nest_grow g12 h7) ex
          have u' : u = .int j := ru
          refine .inl ⟨a, vs, j, .ref b, rfl, u', .inl (.inl (g12.h _ _ h3)), ?_, r, F2, F0, B, S2, (Aft.so S2 k2).imp fun l F3 H3 el g3 k3 w rw' => ?_⟩
          · unfold L2.atI
            rw [nest_len h7]
            show (ixAt xss.length j).bind (fun q => vs[q]?) = _
            rw [hn]
            exact e1
          · split at k3
            · rename_i l
              split at k3
              · rename_i p hp
                have e3' := e3.mono g3.f
                have w' : w = .int l := rw'
                refine ⟨b, us, l, p, rfl, w', g3.h _ _ e2, by rw [e3'.length]; exact hp, ?_⟩
                exact k3 σ F3 _ (Same.refl _) ((S2.grow g3).writeN hi h1 (g3.h _ _ (g12.h _ _ h3)) e1 (RepL.set ((rv.mono g2.f).mono g3.f) p e3'))
              · exact False.elim k3
            · exact False.elim k3
        · exact False.elim k2
      · exact False.elim k2
    · exact False.elim k2
  · exact False.elim q
/-- x[k].append(e) -/
theorem ds_app2 {i : Nat} {x : Str} {xp tp apos cpos : Pos} {k : Expr} (hN : X.N[i]? = some x) (hv : Vis X.env.scope x) (hk : DX X ec W k ψ) (ha : DE X ec W e φ) (hpl : PlainIx k := by exact fun _ _ => rfl) (hd : (x == ("__debug__" : Str)) = false := by decide) (hcd : (x == ("__classdict__" : Str)) = false := by decide)
    (hs : swapsWith (.Call (.Attribute (.Subscript (.Name x xp) k tp) "append" apos) [e] [] cpos) none pos.line X.env = pure false := by rfl)
    (hbase : attributeBase (.Subscript (.Name x xp) k tp) "append" X.env (eval (.Subscript (.Name x xp) k tp) X.env) = eval (.Subscript (.Name x xp) k tp) X.env := by rfl)
    (hfew : ((backTo cpos (starEach [e] X.env)).all (fun x => !x.1) && (backToKw cpos (keywordEach [] X.env)).all (fun x => x.1.isSome)
      && decide ([e].length + ([] : List Keyword).length + (if ([] : List Keyword).isEmpty then 0 else 1) < 30)) = true := by rfl)
    (hline : (apos.endLine == cpos.line) = true := by rfl) (hst : starEach [e] X.env = (false, eval e X.env) :: starEach [] X.env := by rfl) (hplain : (backTo cpos (starEach [] X.env)).any (·.1) = false := by rfl) :
    DS X ec W (.Expr (.Call (.Attribute (.Subscript (.Name x xp) k tp) "append" apos) [e] [] cpos) pos) (sApp2 i ψ φ) :=
  psImp (ps_expr (pe_bm PySem.F.plainAttrs_list PySem.F.slot_list_append PySem.F.type_list_append mt_append (pe_ix (ix_list.or ix_tup) (pe_var hN hv hd hcd) hk hpl) (pa_cons ha pa_nil hst) hbase hfew hline hst hplain) hs) fun D σ H ⟨r, F, F0, B, S, q⟩ => by
    unfold sApp2 at q
    split at q
    · rename_i xss hi
      obtain ⟨y, h1, a, vs, rfl, h3, h4, h5, h6, h7⟩ := S.ok i _ hi
      refine ⟨.ref a, h1, r, F, F0, B, S, (Aft.so S q).imp fun j F2 H2 ej g2 k2 u ru => ?_⟩
      split at k2
      · rename_i j
        split at k2
        · rename_i n hn
          have S2 := S.grow g2
          have k2' : Thn X.K ec W (φ r) σ F2 H2 _ := Aft.so S2 k2
          have u' : u = .int j := ru
          by_cases hx : ∃ xs, xss[n]? = some xs
          · obtain ⟨xs, ex⟩ := hx
            rw [ex] at k2'
            obtain ⟨b, us, e1, e2, e3⟩ := nest_at (nest_grow g2 h7) ex
            refine .inl ⟨a, vs, j, .ref b, rfl, u', .inl (.inl (g2.h _ _ h3)), ?_, .inl ⟨rfl, _, .inl (.inl e2)⟩, r, F2, F0, B, S2, k2'.imp fun d F3 H3 ed g3 k3 v rv => ?_⟩
            · unfold L2.atI
              rw [nest_len h7]
              show (ixAt xss.length j).bind (fun q => vs[q]?) = _
              rw [hn]
              exact e1
            · have e3' := e3.mono g3.f
              by_cases hl : xs.length < lim
              · have k3' : Aft X.K ec W F0 B F3 (if xs.length < lim then some (.nx (r.set i (.nest (xss.set n (xs ++ [d]))))) else none) D := k3
                rw [if_pos hl] at k3'
                refine ⟨b, us, v, rfl, rfl, g3.h _ _ e2, by rw [e3'.length]; exact lim_lt hl, ?_⟩
                exact k3' σ F3 _ (Same.refl _) ((S2.grow g3).writeN hi h1 (g3.h _ _ (g2.h _ _ h3)) e1 (e3'.append ⟨v, [], rfl, rv, rfl⟩))
              · have k3' : Aft X.K ec W F0 B F3 (if xs.length < lim then some (.nx (r.set i (.nest (xss.set n (xs ++ [d]))))) else none) D := k3
                rw [if_neg hl] at k3'
                exact False.elim k3'
          · have l1 : n < xss.length := by
              have : ixAt xss.length j = some n := hn
              unfold ixAt at this
              split at this
              · split at this
                · cases this; omega
                · cases this
              · split at this
                · cases this; omega
                · cases this
            exact absurd ⟨_, List.getElem?_eq_getElem l1⟩ hx
        · exact False.elim k2
      · exact False.elim k2
    · exact False.elim q
end
end DL
/-! Dicts whose keys are tuples of ints: made, read, changed. -/
namespace DL
open PySem PySem.Spec PyProof.Rows L2
theorem inl_inj : ∀ {k m : List Int}, k.map (Sum.inl : Int → Key) = m.map Sum.inl → k = m
  | [], [], _ => rfl
  | [], _ :: _, h => by cases h
  | _ :: _, [], h => by cases h
  | i :: k, j :: m, h => by
    rw [List.map_cons, List.map_cons] at h
    injection h with h1 h2
    injection h1 with h1
    rw [h1, inl_inj h2]
abbrev kk (k : List Int) : List Key := k.map Sum.inl
theorem inl_iff {k m : List Int} : decide (kk k = kk m) = decide (k = m) := by
  by_cases c : k = m
  · subst c; rw [decide_eq_true rfl, decide_eq_true rfl]
  · rw [decide_eq_false c, decide_eq_false fun z => c (inl_inj z)]
theorem numsOf_eq : ∀ {xs : List D} {ns : List Int}, numsOf xs = some ns → xs = ns.map PyData.int
  | [], ns, h => by cases h; rfl
  | .int i :: xs, ns, h => by
    have h' : (numsOf xs).map (i :: ·) = some ns := h
    obtain ⟨ms, h1, rfl⟩ := Option.map_eq_some_iff.mp h'
    rw [numsOf_eq h1]
    rfl
  | .none :: _, _, h => by cases h
  | .bool _ :: _, _, h => by cases h
  | .str _ :: _, _, h => by cases h
  | .list _ :: _, _, h => by cases h
  | .tuple _ :: _, _, h => by cases h
  | .dict _ :: _, _, h => by cases h
theorem rep_ints {K : PySem.W.Frag} {F : Hp} : ∀ {ns : List Int} {vs : List V}, RepL K F (ns.map PyData.int) vs → vs = (kk ns).map kV
  | [], vs, h => h
  | i :: ns, vs, h => by
    obtain ⟨v, r, rfl, h1, h2⟩ := (show ∃ v r, vs = v :: r ∧ Rep K F (.int i) v ∧ RepL K F (ns.map PyData.int) r from h)
    have e : v = .int i := h1
    rw [e, rep_ints h2]
    rfl
/-- a key stands as a tuple -/
theorem rep_key {K : PySem.W.Frag} {F H : Hp} {x : D} {v : V} {k : List Int} (e : Same F H) (h : RepX K F H x v) (hk : keyOf x = some k) : ∃ b, v = .ref b ∧ H b = some (.tup ((kk k).map kV)) := by
  cases x with
  | tuple xs =>
    obtain ⟨a, vs, rfl, h1, h2⟩ := (show ∃ a vs, v = .ref a ∧ F a = some (.tup vs) ∧ RepL K F xs vs from h)
    have hk' : numsOf xs = some k := hk
    rw [numsOf_eq hk'] at h2
    rw [rep_ints h2] at h1
    exact ⟨a, rfl, e _ _ h1⟩
  | _ => cases hk
theorem repP_get {K : PySem.W.Frag} {F : Hp} {k : List Int} : ∀ {kvs : List (List Int × D)} {ks : List (List Key × V)}, RepP K F kvs ks → (match getP kvs k with
    | some d => ∃ v, valV ks (kk k) = some v ∧ Rep K F d v
    | none => valV ks (kk k) = none)
  | [], ks, h => by
    have h' : ks = [] := h
    subst h'
    rfl
  | (m, d) :: kvs, ks, ⟨v, r, q, h1, h2⟩ => by
    subst q
    by_cases c : m = k
    · subst c
      have e : getP ((m, d) :: kvs) m = some d := by unfold getP; rw [List.find?_cons]; simp
      rw [e]
      exact ⟨v, valV_pos rfl, h1⟩
    · have e : getP ((m, d) :: kvs) k = getP kvs k := by unfold getP; rw [List.find?_cons]; simp [c]
      rw [e, valV_neg (show ¬ kk m = kk k from fun z => c (inl_inj z))]
      exact repP_get h2
theorem repP_is {K : PySem.W.Frag} {F : Hp} {k : List Int} {kvs : List (List Int × D)} {ks : List (List Key × V)} (h : RepP K F kvs ks) : (valV ks (kk k)).isSome = (getP kvs k).isSome := by
  have := repP_get (k := k) h
  revert this
  match getP kvs k with
  | some d => exact fun ⟨v, e, _⟩ => by rw [e]; rfl
  | none => exact fun e => by rw [show valV ks (kk k) = none from e]; rfl
theorem repP_len {K : PySem.W.Frag} {F : Hp} : ∀ {kvs : List (List Int × D)} {ks : List (List Key × V)}, RepP K F kvs ks → ks.length = kvs.length
  | [], ks, h => by
    have h' : ks = [] := h
    subst h'
    rfl
  | (m, d) :: kvs, ks, ⟨v, r, q, h1, h2⟩ => by
    subst q
    rw [List.length_cons, List.length_cons, repP_len h2]
theorem repP_any {K : PySem.W.Frag} {F : Hp} {k : List Int} : ∀ {kvs : List (List Int × D)} {ks : List (List Key × V)}, RepP K F kvs ks → (ks.any fun p => decide (p.1 = kk k)) = kvs.any fun p => decide (p.1 = k)
  | [], ks, h => by
    have h' : ks = [] := h
    subst h'
    rfl
  | (m, d) :: kvs, ks, ⟨v, r, q, h1, h2⟩ => by
    subst q
    rw [List.any_cons, List.any_cons, repP_any h2]
    congr 1
    exact inl_iff
theorem repP_map {K : PySem.W.Frag} {F : Hp} {k : List Int} {d : D} {v : V} (hv : Rep K F d v) : ∀ {kvs : List (List Int × D)} {ks : List (List Key × V)}, RepP K F kvs ks → RepP K F (kvs.map fun p => if p.1 = k then (p.1, d) else p) (ks.map fun p => if p.1 = kk k then (p.1, v) else p)
  | [], ks, h => by
    have h' : ks = [] := h
    subst h'
    rfl
  | (m, e) :: kvs, ks, ⟨u, r, q, h1, h2⟩ => by
    subst q
    rw [List.map_cons, List.map_cons]
    have ih := repP_map (k := k) hv h2
    by_cases c : m = k
    · subst c
      rw [if_pos rfl, if_pos rfl]
      exact ⟨v, _, rfl, hv, ih⟩
    · rw [if_neg c, if_neg (show ¬ kk m = kk k from fun z => c (inl_inj z))]
      exact ⟨u, _, rfl, h1, ih⟩
theorem repP_app {K : PySem.W.Frag} {F : Hp} {k : List Int} {d : D} {v : V} (hv : Rep K F d v) : ∀ {kvs : List (List Int × D)} {ks : List (List Key × V)}, RepP K F kvs ks → RepP K F (kvs ++ [(k, d)]) (ks ++ [(kk k, v)])
  | [], ks, h => by
    have h' : ks = [] := h
    subst h'
    exact ⟨v, [], rfl, hv, rfl⟩
  | (m, e) :: kvs, ks, ⟨u, r, q, h1, h2⟩ => by
    subst q
    exact ⟨u, _, rfl, h1, repP_app hv h2⟩
theorem repP_put {K : PySem.W.Frag} {F : Hp} {k : List Int} {d : D} {v : V} {kvs : List (List Int × D)} {ks : List (List Key × V)} (h : RepP K F kvs ks) (hv : Rep K F d v) : RepP K F (putP kvs k d) (putK ks (kk k) v) := by
  unfold putP putK
  rw [repP_any h]
  split
  · exact repP_map hv h
  · exact repP_app hv h
section
variable {X : Cx} {ec : EC} {W : WX} {e : Expr} {pos : Pos} {φ κ : EX}
/-- x[k] -/
theorem de_dget {i : Nat} {x : Str} {xp : Pos} {k : Expr} (hu : X.A.units + 65 < cLine) (hN : X.N[i]? = some x) (hv : Vis X.env.scope x) (hk : DX X ec W k κ) (hs : NoSl k := by intro _ _; rfl) (hd : (x == ("__debug__" : Str)) = false := by decide) (hcd : (x == ("__classdict__" : Str)) = false := by decide) :
    DE X ec W (.Subscript (.Name x xp) k pos) (vDget i κ) := peImp (pe_dget (by omega) (pe_var hN hv hd hcd) hk hs) fun σ H Q ⟨r, F, F0, B, S, q⟩ => by
  unfold vDget at q
  split at q
  · rename_i kvs hi
    obtain ⟨y, h1, a, ks, rfl, h3, h4, h5, h6⟩ := S.ok i _ hi
    refine ⟨.ref a, h1, r, F, F0, B, S, (Thn.bind q).imp fun d F1 H1 _ g1 k1 u ru => ?_⟩
    split at k1
    · rename_i k hk
      obtain ⟨z, ez, k2⟩ := k1.po
      obtain ⟨b, rfl, hb⟩ := rep_key g1.i ru hk
      have hg := repP_get (k := k) (h6.mono g1.f)
      rw [ez] at hg
      obtain ⟨v, e1, e2⟩ := hg
      refine ⟨a, v, rfl, ?_, k2 F1 H1 (Gr.refl g1.i) v e2⟩
      rw [← e1]
      exact DGet.t (g1.h _ _ h3) hb
    · exact False.elim k1
  · exact False.elim q
/-- k in x; k not in x -/
theorem din_use {K : PySem.W.Frag} {i : Nat} {f : Bool → Bool} {σ : L2.St} {H : Hp} {Q : VK} {β : EB} (hβ : ∀ r, β r = match r[i]? with
    | some (.dct kvs) => rb (κ r) fun x => (match keyOf x with
      | some k => ok (f (getP kvs k).isSome)
      | none => none)
    | _ => none) (h : tD K ec W (vB β) σ H Q) : tX K ec W κ σ H fun y H1 => tVar i σ H1 fun x H2 => ∃ a o, x = .ref a ∧ DGet H2 a y o ∧ Q (.bl (f o.isSome)) H2 := by
  obtain ⟨r, F, F0, B, S, q⟩ := h
  have q' : Thn K ec W (rb (β r) fun b => ok (PyData.bool b)) σ F H fun d F' H' => ∀ v, Rep K F' d v → Q v H' := q
  rw [hβ r] at q'
  split at q'
  · rename_i kvs hi
    obtain ⟨y, h1, a, ks, rfl, h3, h4, h5, h6⟩ := S.ok i _ hi
    refine ⟨r, F, F0, B, S, (Thn.bind (show Thn K ec W (rb (κ r) fun x => rb (match keyOf x with
      | some k => ok (f (getP kvs k).isSome)
      | none => none) fun b => ok (PyData.bool b)) σ F H fun d F' H' => ∀ v, Rep K F' d v → Q v H' from by
        revert q'
        match κ r with
        | none => exact fun z => z
        | some (.error _) => exact fun z => z
        | some (.ok k) => exact fun z => z)).imp fun d F1 H1 _ g1 k1 u ru => ⟨.ref a, h1, ?_⟩⟩
    match hk : keyOf d with
    | some k =>
      rw [hk] at k1
      obtain ⟨b, rfl, hb⟩ := rep_key g1.i ru hk
      refine ⟨a, _, rfl, DGet.t (g1.h _ _ h3) hb, ?_⟩
      rw [repP_is h6]
      exact Thn.ok g1.i (a := PyData.bool (f (getP kvs k).isSome)) k1 _ rfl
    | none =>
      rw [hk] at k1
      exact False.elim k1
  · exact False.elim q'
theorem db_din {i : Nat} {x : Str} {xp : Pos} {k : Expr} (hu : X.A.units + 65 < cLine) (hN : X.N[i]? = some x) (hv : Vis X.env.scope x) (hk : DX X ec W k κ) (hd : (x == ("__debug__" : Str)) = false := by decide) (hcd : (x == ("__classdict__" : Str)) = false := by decide) :
    DB X ec W (.Compare k [.In] [.Name x xp] pos) (bDin i κ) := peImp (pe_cmp (pc_din (by omega) hk (pe_var hN hv hd hcd))) fun σ H Q h => din_use (f := id) (fun _ => rfl) h
theorem db_dnin {i : Nat} {x : Str} {xp : Pos} {k : Expr} (hu : X.A.units + 65 < cLine) (hN : X.N[i]? = some x) (hv : Vis X.env.scope x) (hk : DX X ec W k κ) (hd : (x == ("__debug__" : Str)) = false := by decide) (hcd : (x == ("__classdict__" : Str)) = false := by decide) :
    DB X ec W (.Compare k [.NotIn] [.Name x xp] pos) (bDnin i κ) := peImp (pe_cmp (pc_dnotin (by omega) hk (pe_var hN hv hd hcd))) fun σ H Q h => din_use (f := not) (fun _ => rfl) h
/-- as tests -/
theorem din_useT {K : PySem.W.Frag} {i : Nat} {f : Bool → Bool} {σ : L2.St} {H : Hp} {Q : Bool → Hp → Prop} {β : EB} (hβ : ∀ r, β r = match r[i]? with
    | some (.dct kvs) => rb (κ r) fun x => (match keyOf x with
      | some k => ok (f (getP kvs k).isSome)
      | none => none)
    | _ => none) (h : tT K ec W β σ H Q) : tX K ec W κ σ H fun y H1 => tVar i σ H1 fun x H2 => ∃ a o, x = .ref a ∧ DGet H2 a y o ∧ ∃ b, V.bl (f o.isSome) = V.bl b ∧ Q b H2 := by
  obtain ⟨r, F, F0, B, S, q⟩ := h
  rw [hβ r] at q
  split at q
  · rename_i kvs hi
    obtain ⟨y, h1, a, ks, rfl, h3, h4, h5, h6⟩ := S.ok i _ hi
    refine ⟨r, F, F0, B, S, (Thn.bind q).imp fun d F1 H1 _ g1 k1 u ru => ⟨.ref a, h1, ?_⟩⟩
    match hk : keyOf d with
    | some k =>
      rw [hk] at k1
      obtain ⟨b, rfl, hb⟩ := rep_key g1.i ru hk
      refine ⟨a, _, rfl, DGet.t (g1.h _ _ h3) hb, f (getP kvs k).isSome, ?_, Thn.ok g1.i (a := f (getP kvs k).isSome) k1⟩
      rw [repP_is h6]
    | none =>
      rw [hk] at k1
      exact False.elim k1
  · exact False.elim q
theorem dt_din {i : Nat} {x : Str} {xp : Pos} {k : Expr} (hu : X.A.units + 65 < cLine) (hN : X.N[i]? = some x) (hv : Vis X.env.scope x) (hk : DX X ec W k κ) (hd : (x == ("__debug__" : Str)) = false := by decide) (hcd : (x == ("__classdict__" : Str)) = false := by decide) :
    DT X ec W (.Compare k [.In] [.Name x xp] pos) (bDin i κ) := ptImp (pt_cmp (pc_din (by omega) hk (pe_var hN hv hd hcd))) fun σ H Q h => din_useT (f := id) (fun _ => rfl) h
theorem dt_dnin {i : Nat} {x : Str} {xp : Pos} {k : Expr} (hu : X.A.units + 65 < cLine) (hN : X.N[i]? = some x) (hv : Vis X.env.scope x) (hk : DX X ec W k κ) (hd : (x == ("__debug__" : Str)) = false := by decide) (hcd : (x == ("__classdict__" : Str)) = false := by decide) :
    DT X ec W (.Compare k [.NotIn] [.Name x xp] pos) (bDnin i κ) := ptImp (pt_cmp (pc_dnotin (by omega) hk (pe_var hN hv hd hcd))) fun σ H Q h => din_useT (f := not) (fun _ => rfl) h
/-- x[k] = e -/
theorem ds_dput {i : Nat} {x : Str} {xp tp : Pos} {k : Expr} (hu : X.A.units + 65 < cLine) (hN : X.N[i]? = some x) (hv : Vis X.env.scope x) (hk : DX X ec W k κ) (ha : DE X ec W e φ) (hs : swapsWith e (some (.Subscript (.Name x xp) k tp)) pos.line X.env = pure false := by rfl)
    (hd : (x == ("__debug__" : Str)) = false := by decide) (hcd : (x == ("__classdict__" : Str)) = false := by decide) :
    DS X ec W (.Assign [.Subscript (.Name x xp) k tp] e pos) (sDput i κ φ) := psImp (ps_dput (by omega) (pe_var hN hv hd hcd) hk ha hs) fun D σ H ⟨r, F, F0, B, S, q⟩ => by
  unfold sDput at q
  split at q
  · rename_i kvs hi
    obtain ⟨y, h1, a, ks, rfl, h3, h4, h5, h6⟩ := S.ok i _ hi
    refine ⟨r, F, F0, B, S, (Aft.so S q).imp fun d F1 H1 _ g1 k1 v rv => ⟨.ref a, h1, r, F1, F0, B, S.grow g1, (Aft.so (S.grow g1) k1).imp fun z F2 H2 _ g2 k2 u ru => ?_⟩⟩
    split at k2
    · rename_i k hk
      split at k2
      · rename_i hl
        obtain ⟨b, rfl, hb⟩ := rep_key g2.i ru hk
        have g12 := g1.trans g2
        have S2 := S.grow g12
        have h6' := h6.mono g12.f
        refine ⟨a, _, rfl, DPut.t (g12.h _ _ h3) hb (by rw [repP_len h6]; exact lim_lt hl), ?_⟩
        refine k2 σ F2 _ (Same.refl _) (S2.wr hi h1 (fun b c => upd_ne fun z => c (by subst z; rfl)) ⟨a, _, rfl, upd_same, ?_, h5, repP_put h6' (rv.mono g2.f)⟩ (fun b f => f) fun _ z => nomatch z)
        exact g12.nu h3 (fun _ z => nomatch z) h4
      · exact False.elim k2
    · exact False.elim k2
  · exact False.elim q
end
/-! ### displays -/
theorem Gr.over {F H F' H' : Hp} (g : Gr F H F' H') {p : Addr} (hp : H p = none) (fp : F' p = none) (o : HO) : Gr F H F' (upd H' p o) :=
  ⟨g.f, fun b x q => by rw [upd_ne (ne_of_none q hp)]; exact g.h b x q, fun b x q => by rw [upd_ne (ne_of_none q fp)]; exact g.i b x q, g.n⟩
theorem dictSetT {X : Cx} {pins : List (Addr × Obj)} {σ : L2.St} {H : Hp} {s : Shared} {E : Value → Shared → Prop} {D b : Addr} {ks : List (List Key × V)} {k : List Key} {v : V} {r : Value} {Q : Unit → Shared → Prop} (hu : X.A.units < cLine) (I : Inv X pins σ H s) (hD : H D = some (.dT ks)) (hz : ks.length < sizeLine)
    (eb : H b = some (.tup (k.map kV))) (rv : RelV v r) (h : ∀ s', Inv X pins σ (upd H D (.dT (putK ks k v))) s' → Q () s') : wpAny (model X.prog X.w) X.A (dictSet D (.ref b) r) Q E s := by
  obtain ⟨z, hd, xs, rel, dd⟩ := dt_of I.hok hD
  have l1 : xs.length ≤ sizeLine := by rw [← Paired.length rel]; exact z
  have l2 : (putK ks k v).length ≤ sizeLine := by have := length_putK ks k v; omega
  refine wpAny_dictSet_heap (hsz := l1) hu (key_of I.hok eb) dd fun h' dd' hs => h _ ?_
  obtain ⟨q, es, ep, hq, h2, h3, h4, _, h5⟩ := dd'
  refine d_write I (by rw [hD]; exact True.intro) hs ⟨q, hq⟩ ⟨l2, hd, _, (rel.put k eb rv).keeps fun c ys ec => ?_, q, es, ep, hq, h2, h3, h4, h5⟩
  rw [upd_ne (ne_of ec hD (fun z => nomatch z))]
  exact ec
/-- {k: v}, the key a tuple -/
def tDisp1 (tk tv : TE) : TE := fun σ H Q => ∀ p, H p = none → tPairs [(tk, tv)] σ (upd H p (.dT [])) fun ps H2 => H2 p = some (.dT []) ∧ ∃ (k : List Key) (b : Addr) (y : V), ps = [(.ref b, y)] ∧ H2 b = some (.tup (k.map kV)) ∧ Q (.ref p) (upd H2 p (.dT [(k, y)]))
theorem pe_disp1 {X : Cx} {pos : Pos} {k v : Expr} {tk tv : TE} (hu : X.A.units < cLine) (hk : PE X k tk) (hv : PE X v tv) : PE X (.Dict [some k] [v] pos) (tDisp1 tk tv) := by
  refine ⟨fun pins s σ H Q I q => ?_⟩
  have hn := I.hok.fresh (Nat.le_refl s.heap.objs.size)
  have I1 := I.laid (a := s.heap.objs.size) (o := .dT []) (h' := s.heap.push { cls := .type "dict", data := .dict #[] }) (t' := s.toks) (fun _ _ q => Heap.get?_push_of_some _ q) (Nat.le_refl _) (dt_empty s.heap I.big)
  refine wpAny_Dict_any rfl rfl (by simp) (show 1 ≤ 15 by decide) (thn ((pps_cons hk hv pps_nil).run pins _ σ _ _ I1 (q _ hn)) fun ws s2 ⟨ps, H2, I2, rel, e, k, b, y, ep, eb, q3⟩ => ?_)
  subst ep
  cases rel with
  | @cons p0 w0 _ _ h t =>
    cases t
    obtain ⟨u, r⟩ := w0
    obtain ⟨h1, h2⟩ := h
    obtain rfl : u = Value.ref b := h1
    unfold storeAll
    rw [List.forIn_cons]
    refine wpAny_bind (wpAny_bind (dictSetT hu I2 e (by show 0 < sizeLine; rw [sizeLine_eq]; omega) eb h2 fun s3 I3 => wpAny_pure ?_))
    dsimp only
    rw [List.forIn_nil]
    exact wpAny_pure ⟨.ref _, _, I3, rfl, q3⟩
section
variable {X : Cx} {ec : EC} {W : WX} {e : Expr} {pos : Pos} {φ κ : EX}
/-- x = {k: v} -/
theorem ds_dct1 {i : Nat} {x : Str} {k v : Expr} {pos' dpos : Pos} (hu : X.A.units + 65 < cLine) (hN : X.N.Nodup) (hi : X.N[i]? = some x) (hx : Loc X.env.scope x) (hk : DE X ec W k κ) (hv : DE X ec W v φ) (hs : swapsWith (.Dict [some k] [v] dpos) (some (.Name x pos')) pos.line X.env = pure false := by rfl)
    (hf : X.fn x = true ∨ X.env.scope.names.lookup x = some .local := by first | exact .inl rfl | exact .inr rfl | assumption) : DS X ec W (.Assign [.Name x pos'] (.Dict [some k] [v] dpos) pos) (sDct1 i κ φ) :=
  psImp (ps_set hN hi hx (pe_disp1 (by omega) hk hv) hs hf) fun D σ H ⟨r, F, F0, B, S, q⟩ => by
    intro p hp
    have go : Gr F H F (upd H p (.dT [])) := Gr.own S.sub hp _
    have S1 := S.grow go
    refine ⟨r, F, F0, B, S1, ((Aft.so S q).grow go).imp fun d F2 H2 _ g2 k2 u ru => ⟨r, F2, F0, B, S1.grow g2, (Aft.so (S1.grow g2) k2).imp fun z F3 H3 _ g3 k3 w rw' => ?_⟩⟩
    have g23 := g2.trans g3
    have hp3 : H3 p = some (.dT []) := g23.h _ _ upd_same
    refine ⟨hp3, ?_⟩
    split at k3
    · rename_i k hk
      obtain ⟨b, rfl, hb⟩ := rep_key g3.i ((ru.mono g3.f).x g3.i) hk
      have fp : F3 p = none := g23.nu upd_same (fun _ z => nomatch z) (S.sub.free hp)
      refine ⟨kk k, b, w, rfl, hb, ?_⟩
      refine k3 (σ.set i (some (.ref p))) F3 _ (Same.refl _) (S.put ((go.trans g23).over hp fp _) (s := .dct [(k, z)]) ⟨p, [(kk k, w)], rfl, upd_same, fp, S.gr.h.free hp, w, [], rfl, rw', rfl⟩ (fun a f => ?_) fun _ z => nomatch z)
      have f' : some (V.ref p) = some (V.ref a) := f
      cases f'
      exact hp
    · exact False.elim k3
/-! ### list(d) -/
/-- with the heap's tuples -/
def withT (F H : Hp) : Hp := fun a => match F a with
  | some o => some o
  | none => match H a with
    | some (.tup vs) => some (.tup vs)
    | _ => none
theorem withT_gr {F H : Hp} (e : Same F H) : Gr F H (withT F H) H := by
  refine ⟨fun a x q => ?_, Same.refl _, fun a x q => ?_, fun a _ q t => ?_⟩
  · unfold withT; rw [q]
  · unfold withT at q
    split at q
    · rename_i o ho
      cases q
      exact e _ _ ho
    · split at q
      · rename_i vs hv
        cases q
        exact hv
      · cases q
  · unfold withT
    rw [q]
    dsimp only
    split
    · rename_i vs hv
      exact absurd hv (t vs)
    · rfl
theorem withT_tup {F H : Hp} (e : Same F H) {a : Addr} {vs : List V} (h : H a = some (.tup vs)) : withT F H a = some (.tup vs) := by
  unfold withT
  split
  · rename_i o ho
    have := e _ _ ho
    rw [h] at this
    exact this.symm
  · rw [h]
theorem keyInts {K : PySem.W.Frag} {F : Hp} : ∀ k : List Int, RepL K F (k.map PyData.int) ((kk k).map kV)
  | [] => rfl
  | i :: k => ⟨.int i, _, rfl, rfl, keyInts k⟩
theorem keys_rep {K : PySem.W.Frag} {F H F' : Hp} (hT : ∀ a vs, H a = some (.tup vs) → F' a = some (.tup vs)) : ∀ {kvs : List (D × D)} {ks : List (List Key × V)} {bs : List Addr}, RepKV K F kvs ks → IsKeys H ks bs → RepL K F' (kvs.map (·.1)) (bs.map V.ref)
  | [], ks, bs, h, q => by
    have h' : ks = [] := h
    subst h'
    cases q
    rfl
  | (x, d) :: kvs, ks, bs, ⟨k, v, r, q1, q2, h1, h2⟩, q => by
    subst q1 q2
    cases q with
    | @cons _ b _ bs h t => exact ⟨.ref b, _, rfl, ⟨b, _, rfl, hT _ _ h, keyInts k⟩, keys_rep hT h2 t⟩
theorem dl_keys {x : Str} {p pos : Pos} (hg : Gl X x) (hm : X.mg x = none) (ha : DE X ec W e φ) (hv : bootBuiltins x = some (.type "list")) (hc : X.calm = true := by rfl) (hn : x ≠ "__name__" := by decide) (hdb : (x == ("__debug__" : Str)) = false := by decide)
    (he : starEach [e] X.env = (false, eval e X.env) :: starEach [] X.env := by rfl) : DLi X ec W (.Call (.Name x p) [e] [] pos) (l1 lKeys φ) := peImp (pe_callTy (call_list_dT hc) hg hm hv (pa_cons ha pa_nil he) hn hdb he (by rfl)) fun σ H Q ⟨r, F, F0, B, S, q⟩ => by
  refine ⟨r, F, F0, B, S, (Thn.bind q).imp fun d F1 H1 _ g1 k1 v rv => ?_⟩
  obtain ⟨xs, ex, k2⟩ := k1.po
  unfold lKeys at ex
  cases d with
  | dict kvs =>
    dsimp only at ex
    split at ex
    · rename_i hk
      cases ex
      obtain ⟨a, rfl, ⟨z, _⟩ | ⟨ks, h1, h2⟩⟩ := (show ∃ a, v = .ref a ∧ ((isTK kvs = false ∧ ∃ ks, F1 a = some (.dK ks)) ∨ ∃ ks, F1 a = some (.dT ks) ∧ RepKV X.K F1 kvs ks) from rv)
      · rw [hk] at z; cases z
      · exact ⟨a, ks, rfl, .inl (g1.i _ _ h1), fun l bs hl hb => k2 _ _ (withT_gr g1.i) l _ hl (keys_rep (fun a vs h => withT_tup g1.i h) h2 hb)⟩
    · cases ex
  | _ => cases ex
/-! ### x += e -/
theorem aug_use {i : Nat} {f : Int → Int → Int} {ti : TIp} (hti : ∀ m n H Q, Q (V.int (f m n)) H → ti (.int m) (.int n) H Q) {D : Ends} {σ : L2.St} {H : Hp} (h : tS X.K ec W (sAugI i f φ) D σ H) : tAug i (tX X.K ec W φ) ti D σ H := by
  obtain ⟨r, F, F0, B, S, q⟩ := h
  unfold sAugI at q
  split at q
  · rename_i m hi
    obtain ⟨y, h1, v, rfl, h2⟩ := S.ok i _ hi
    have e : v = .int m := h2
    subst e
    refine ⟨.int m, h1, r, F, F0, B, S, (Aft.so S q).imp fun d F1 H1 _ g1 k1 u ru => ?_⟩
    cases d with
    | int n =>
      have e : u = .int n := ru
      subst e
      exact hti m n H1 _ (k1 _ F1 H1 (Same.refl _) ((S.grow g1).set rfl))
    | _ => exact False.elim k1
  · exact False.elim q
theorem ds_augAdd {i : Nat} {x : Str} {pos' : Pos} (hN : X.N.Nodup) (hi : X.N[i]? = some x) (hx : Loc X.env.scope x) (he : DX X ec W e φ) (hf : X.fn x = true ∨ X.env.scope.names.lookup x = some .local := by first | exact .inl rfl | exact .inr rfl | assumption) :
    DS X ec W (.AugAssign (.Name x pos') .Add e pos) (sAugI i (fun m n => m + n) φ) := psImp (ps_aug hN hi hx he ip_add hf) fun D σ H h => aug_use (fun m n H Q q => ⟨m, n, rfl, rfl, q⟩) h
theorem ds_augSub {i : Nat} {x : Str} {pos' : Pos} (hN : X.N.Nodup) (hi : X.N[i]? = some x) (hx : Loc X.env.scope x) (he : DX X ec W e φ) (hf : X.fn x = true ∨ X.env.scope.names.lookup x = some .local := by first | exact .inl rfl | exact .inr rfl | assumption) :
    DS X ec W (.AugAssign (.Name x pos') .Sub e pos) (sAugI i (fun m n => m - n) φ) := psImp (ps_aug hN hi hx he ip_sub hf) fun D σ H h => aug_use (fun m n H Q q => ⟨m, n, rfl, rfl, q⟩) h
end
end DL
/-! Dict comprehensions whose keys are tuples. -/
namespace DL
open PySem PySem.Spec PyProof.Rows L2
section
variable {X : Cx}
/-- {k: v for target in iter if ..}: D the new dict; W says what holds between two turns, with a number that falls -/
def tDcT (wi : TI) (g : TG) (tt : TT) (tk tv : TE) (vs : List Nat) : TE := fun σ H Q => wi σ H fun J H1 => ∀ D, H1 D = none → ∃ W : Nat → Nat → Hp → Prop, (∃ m, W 0 m (upd H1 D (.dT []))) ∧ ∀ i m H, W i m H →
  (J.stop i H ∧ Q (.ref D) H) ∨ (J.go i H ∧ ∀ x H', J.yld i H x H' → g x (wipe σ vs) H' fun σ2 H2 => wipe σ2 vs = wipe σ vs ∧ tt σ2 H2 fun b H3 =>
    if b = true then tk σ2 H3 fun y H4 => tv σ2 H4 fun z H5 => ∃ (ks : List (List Key × V)) (k : List Key) (c : Addr), y = .ref c ∧ H5 c = some (.tup (k.map kV)) ∧ H5 D = some (.dT ks) ∧ ks.length < sizeLine ∧ ∃ m', m' < m ∧ W (i + 1) m' (upd H5 D (.dT (putK ks k z)))
    else ∃ m', m' < m ∧ W (i + 1) m' H3)
/-- behind a turn the iterator's objects stand as they stood, and the names of the block are forgotten -/
theorem turn_end {Y : Cx} {tg : Expr} {J : It} {fp : List Addr} {it : Addr} {tn : Nat → Heap → Prop} (T : Turn Y.prog Y.w Y.K tg J fp it tn) {vs : List Nat} {ρ σ : L2.St} {H : Hp} {s : Shared} {h : Heap} {i : Nat} (I : Inv Y ([] ++ pinsAt fp h) σ H s) (st : tn i h) (hw : wipe σ vs = ρ) :
    Inv Y [] ρ H s ∧ tn i s.heap ∧ ∀ b ∈ fp, H b = none := by
  have still : ∀ b ∈ fp, ∀ o, h.get? b = some o → s.heap.get? b = some o ∧ H b = none := fun b hb o e => by
    have z := I.pin (b, o) (List.mem_append_right _ (List.mem_append_right _ (mem_pinsAt hb e)))
    exact ⟨z.1, z.2.1⟩
  subst hw
  refine ⟨(I.unpinned (pins := [])).weak (wipe_length ..) (fun j v e => (wipe_some e).1), T.keep i h _ st fun b hb o e => (still b hb o e).1, fun b hb => ?_⟩
  obtain ⟨o, e, _⟩ := T.obj i h st b hb
  exact (still b hb o e).2
theorem pe_dcT {kx vx tg iter : Expr} {ifs : List Expr} {scope : Scope} {own : List (Str × Nat)} {pos : Pos} {wi : TI} {g : TG} {tt : TT} {tk tv : TE} (hu : X.A.units < cLine) (hc : X.calm = true) (hN : X.N.Nodup) (hi : PI X tg iter wi) (ok : BlkOk X.N X.env.scope scope own)
    (hg : ∀ (s : Shared) (H : Hp) (C : Addr) (cl : List (Str × Addr)) (fp : List Addr), PG (X.blk s H scope (compEnvC scope cl C X.env) fp) tg g) (ht : ∀ (s : Shared) (H : Hp) (C : Addr) (cl : List (Str × Addr)) (fp : List Addr), PTs (X.blk s H scope (compEnvC scope cl C X.env) fp) ifs tt)
    (hk : ∀ (s : Shared) (H : Hp) (C : Addr) (cl : List (Str × Addr)) (fp : List Addr), PE (X.blk s H scope (compEnvC scope cl C X.env) fp) kx tk)
    (hv : ∀ (s : Shared) (H : Hp) (C : Addr) (cl : List (Str × Addr)) (fp : List Addr), PE (X.blk s H scope (compEnvC scope cl C X.env) fp) vx tv) (hs : ∀ x, foldedSetIterable iter X.env x = pure x := by intro _; rfl) :
    PE X (.DictComp kx vx [⟨tg, iter, ifs, 0⟩] scope pos) (tDcT wi g tt tk tv (own.map (·.2))) := by
  refine ⟨fun pins s σ H Q I q0 => ?_⟩
  rw [arm_eval_DictComp]
  have cls : ∀ y ∈ scope.names, y.2 = .free → ∃ c, X.env.cells.lookup y.1 = some c := fun y hy e => (ok.free y hy e).elim (fun z => I.ok.has _ (.inl z)) fun z => I.ok.has _ (.inr z)
  refine wpAny_comprehension_free (use := none) rfl hs (closure_ok cls) ok.kind (fun y hy e => by rw [ok.uniq y hy, e]) (thn (hi.run pins s σ H _ I q0) fun _ s1 k1 => thn k1 fun _ s2 k2 => ?_)
  obtain ⟨it, fp, tn, J, H1, rfl, I1, T, t1, f1, q1⟩ := k2
  refine wpAny_newObj_type (newEnv_comp ?_)
  have nD : H1 s2.heap.objs.size = none := I1.hok.fresh (Nat.le_refl _)
  obtain ⟨W, ⟨m0, w0⟩, turn⟩ := q1 _ nD
  -- the new dict
  obtain ⟨s3, es⟩ : ∃ s3 : Shared, s3 = { s2 with heap := s2.heap.push { cls := .type "dict", data := .dict #[] } } := ⟨_, rfl⟩
  obtain ⟨H2, eH⟩ : ∃ H2, H2 = upd H1 s2.heap.objs.size (.dT []) := ⟨_, rfl⟩
  have I2 : Inv X pins σ H2 s3 := by
    rw [es, eH]
    exact I1.laid (a := s2.heap.objs.size) (o := .dT []) (t' := s2.toks) (fun _ _ e => Heap.get?_push_of_some _ e) (Nat.le_refl _) (dt_empty s2.heap I1.big)
  have t2 : tn 0 s3.heap := T.keep _ _ _ t1 fun _ _ _ e => by rw [es]; exact Heap.get?_push_of_some _ e
  have f2 : ∀ b ∈ fp, FpOk X pins H2 b ∧ b < s3.heap.objs.size := fun b hb => by
    obtain ⟨o, eo, _⟩ := T.obj _ _ t1 b hb
    have lt := Heap.lt_size eo
    rw [es, eH]
    refine ⟨⟨?_, (f1 b hb).2⟩, by show b < (s2.heap.push _).objs.size; rw [Heap.size_push]; exact Nat.lt_succ_of_lt lt⟩
    rw [upd_ne (Nat.ne_of_lt lt)]
    exact (f1 b hb).1
  rw [← eH] at w0
  generalize s2.heap.objs.size = D at turn w0 ⊢
  have start := block_start I2 ok hN f2
  have bg := hg s3 H2 s3.heap.objs.size (cellsFrom (s3.heap.objs.size + 1) scope.names (cloFrom X.env.cells scope.names [])) fp
  have bt := ht s3 H2 s3.heap.objs.size (cellsFrom (s3.heap.objs.size + 1) scope.names (cloFrom X.env.cells scope.names [])) fp
  have bk := hk s3 H2 s3.heap.objs.size (cellsFrom (s3.heap.objs.size + 1) scope.names (cloFrom X.env.cells scope.names [])) fp
  have bv := hv s3 H2 s3.heap.objs.size (cellsFrom (s3.heap.objs.size + 1) scope.names (cloFrom X.env.cells scope.names [])) fp
  have t4 : tn 0 (pushCells (s3.heap.push { cls := .type "dict", data := .dict #[] }) scope.names) := T.keep _ _ _ t2 fun _ _ _ e => pushCells_keeps _ _ _ _ (Heap.get?_push_of_some _ e)
  have n2 : ∀ b ∈ fp, H2 b = none := fun b hb => (f2 b hb).1.1
  rw [← es]
  show codeAny _ _ (.compStart (.DictComp kx vx [⟨tg, iter, ifs, 0⟩] scope pos) 0 (.ref it) (.ref D) (compEnvC scope (cellsFrom (s3.heap.objs.size + 1) scope.names (cloFrom X.env.cells scope.names [])) s3.heap.objs.size X.env)) (compPost (model X.prog X.w) X.A X.xe none (EP X pins σ Q) (.ref D) s3.heap.objs.size) { s3 with heap := pushCells (s3.heap.push { cls := .type "dict", data := .dict #[] }) scope.names }
  have lC : (compEnvC scope (cellsFrom (s3.heap.objs.size + 1) scope.names (cloFrom X.env.cells scope.names [])) s3.heap.objs.size X.env).locals = s3.heap.objs.size := rfl
  generalize compEnvC scope (cellsFrom (s3.heap.objs.size + 1) scope.names (cloFrom X.env.cells scope.names [])) s3.heap.objs.size X.env = ce at start bg bt bk bv lC ⊢
  generalize e4 : ({ s3 with heap := pushCells (s3.heap.push { cls := .type "dict", data := .dict #[] }) scope.names } : Shared) = s4 at start ⊢
  have t4 : tn 0 s4.heap := by rw [← e4]; exact t4
  have stat : ∀ {ρ : L2.St} {H' : Hp} {s' : Shared}, Inv (X.blk s3 H2 scope ce fp) [] ρ H' s' → (∀ b ∈ fp, H' b = none) → ∀ b ∈ fp, FpOk (X.blk s3 H2 scope ce fp) [] H' b := fun I' hn b hb =>
    ⟨hn b hb, (I'.ok.exf b hb).1, I'.ok.exfs b hb, .inl hb, fun x c e => (I'.ok.exf b hb).2 x c e, fun p hp => nomatch (show p ∈ ([] : List (Addr × Obj)) from hp)⟩
  have loop : codeAny (model X.prog X.w) X.A (.compLoop (.DictComp kx vx [⟨tg, iter, ifs, 0⟩] scope pos) 0 (.ref it) (.ref D) ce) (compPost (model X.prog X.w) X.A X.xe none (EP X pins σ Q) (.ref D) s3.heap.objs.size) s4 := by
    refine compLoop_anyD (fun n s' => ∃ i H', Inv (X.blk s3 H2 scope ce fp) [] (wipe σ (own.map (·.2))) H' s' ∧ tn i s'.heap ∧ (∀ b ∈ fp, H' b = none) ∧ W i n H') ?_ m0 ⟨0, H2, start, t4, n2, w0⟩
    rintro n s5 ⟨i, H5, I5, t5, n5, w5⟩
    rcases turn i n H5 w5 with ⟨stop, fin⟩ | ⟨go, step⟩
    · refine thnF (T.done (X.blk s3 H2 scope ce fp) rfl rfl rfl hc i [] s5 _ H5 (fun _ _ => False) I5 (stat I5 n5) t5 stop) fun r s6 ⟨hr, I6⟩ => ?_
      subst hr
      have I7 : Inv X pins σ H5 s6 := I2.call' (ch := fp) I6.os I6.base I6.hok I6.bare fun b hb => ⟨(f2 b hb).1.2.2.2.1, (f2 b hb).1.2.1, (f2 b hb).1.2.2.2.2.1, (f2 b hb).1.2.2.2.2.2⟩
      have nC : H5 s3.heap.objs.size = none := lC ▸ (show H5 ce.locals = none from I6.free)
      obtain ⟨m, hm, _⟩ := I6.loc
      have hm : s6.heap.Ns ce.locals m := hm
      rw [lC] at hm
      obtain ⟨p0, p1, _, p3, p4, p5⟩ := I2.fpOk (Nat.le_refl _) nC
      exact ⟨m, hm, fun h'' sb => ⟨.ref D, H5, I7.turned (t' := s6.toks) (fun b o hb e => (sb.2 b hb).trans e) p0 p1 p3 p4 p5, rfl, fin⟩⟩
    · refine thnF (T.item (X.blk s3 H2 scope ce fp) rfl rfl rfl hc i [] s5 _ H5 (fun _ _ => False) I5 (stat I5 n5) t5 go) fun r s6 ⟨u, hr, h6⟩ => ?_
      subst hr
      refine thnF h6 fun _ s7 ⟨x, H7, I7, r7, y7, t7, n7⟩ => ?_
      refine thnF (bg.run _ s7 _ H7 x u _ (I7.pinned (stat I7 n7) (T.obj _ _ t7)) r7 (step x H7 y7)) fun _ s8 ⟨σ8, H8, I8, w8, q8⟩ => ?_
      refine thnF (bt.run _ s8 σ8 H8 _ I8 q8) fun b s9 ⟨H9, I9, q9⟩ => ?_
      have close : ∀ {s' : Shared} {H' : Hp}, Inv (X.blk s3 H2 scope ce fp) ([] ++ pinsAt fp s7.heap) σ8 H' s' → (∃ m', m' < n ∧ W (i + 1) m' H') → ∃ m, m < n ∧ ∃ i H', Inv (X.blk s3 H2 scope ce fp) [] (wipe σ (own.map (·.2))) H' s' ∧ tn i s'.heap ∧ (∀ b ∈ fp, H' b = none) ∧ W i m H' := fun I' ⟨m', lt, w'⟩ => by
        obtain ⟨a1, a2, a3⟩ := turn_end (Y := X.blk s3 H2 scope ce fp) T I' t7 w8
        exact ⟨m', lt, i + 1, _, a1, a2, a3, w'⟩
      cases b with
      | false =>
        simp only [Bool.false_eq_true, if_false] at q9 ⊢
        exact close I9 q9
      | true =>
        simp only [if_true] at q9 ⊢
        refine thnF (bk.run _ s9 σ8 H9 _ I9 q9) fun z s10 ⟨yk, H10, I10, r10, q10⟩ => ?_
        refine thnF (bv.run _ s10 σ8 H10 _ I10 q10) fun z2 s11 ⟨yv, H11, I11, r11, ks, k, c, ek, hc', hD, hz, nx⟩ => ?_
        subst ek
        obtain rfl : z = Value.ref c := r10
        exact dictSetT (X := X.blk s3 H2 scope ce fp) hu I11 hD hz hc' r11 fun s12 I12 => close I12 nx
  exact codeAny_compStart_dict loop (T.self X.A 0 _ _ _ t4 loop)
end
theorem putP_len (kvs : List (List Int × D)) (k : List Int) (d : D) : (putP kvs k d).length ≤ kvs.length + 1 := by
  unfold putP
  split
  · rw [List.length_map]; exact Nat.le_succ _
  · rw [List.length_append]; exact Nat.le_refl _
theorem repKV_of {K : PySem.W.Frag} {F : Hp} : ∀ {kvs : List (List Int × D)} {ks : List (List Key × V)}, RepP K F kvs ks → RepKV K F (kvs.map keyP) ks
  | [], _, h => h
  | (k, d) :: kvs, ks, ⟨v, r, q, h1, h2⟩ => ⟨k, v, r, rfl, q, h1, repKV_of h2⟩
theorem dc_use {K : PySem.W.Frag} {ec : EC} {W : WX} {ι : EL} {g : Tg} {β : EB} {κ φ : EX} {vs : List Nat} (hvs : vs = g.slots) {σ : L2.St} {H : Hp} {Q : VK} (h : tD K ec W (vDComp ι g β κ φ) σ H Q) :
    tDcT (tIX K ec W ι) (tgT K g) (tT K ec W0 β) (tD K ec W0 κ) (tD K ec W0 φ) vs σ H Q := by
  subst hvs
  obtain ⟨r, F, F0, B, S, q⟩ := h
  refine ⟨r, F, F0, B, S, (Thn.bind q).imp fun xs F1 H1 _ g1 h1 J hJ D hD => ?_⟩
  by_cases hlim : xs.length ≤ lim
  · rw [if_pos hlim] at h1
    match ec1 : noEr (compD g β κ φ (unSlots g.slots r) xs []) with
    | none => rw [ec1] at h1; exact False.elim h1
    | some (.error _) =>
      exfalso
      unfold noEr at ec1
      split at ec1
      · cases ec1
      · cases ec1
    | some (.ok fin) =>
      rw [ec1] at h1
      have hc : compD g β κ φ (unSlots g.slots r) xs [] = ok fin := noEr_ok ec1
      have S1 := SR.wipe g.slots (S.grow g1)
      obtain ⟨G, Y, w, hG, hY⟩ := hJ
      refine ⟨fun i m Hc => m = xs.length - i ∧ i ≤ xs.length ∧ ∃ kvs ks F2 Hm, compD g β κ φ (unSlots g.slots r) (xs.drop i) kvs = ok fin ∧ kvs.length ≤ i ∧ Hc = upd Hm D (.dT ks) ∧ Hm D = none ∧ RepP K F2 kvs ks ∧ Gr F1 H1 F2 Hm,
        ⟨xs.length, by simp, Nat.zero_le _, [], [], F1, H1, hc, Nat.le_refl _, rfl, hD, rfl, Gr.refl g1.i⟩, ?_⟩
      rintro i m Hc ⟨rfl, hi, kvs, ks, F2, Hm, er, hl, rfl, hm, hu, g2⟩
      have go := Gr.own g2.i hm (.dT ks)
      have hGi := hG _ (g2.h.trans go.h)
      by_cases lt : i < xs.length
      · refine .inr ⟨w.goes i _ lt hGi, fun x H' y => ?_⟩
        have y := w.yields i _ x H' lt hGi y
        obtain ⟨d, hd⟩ : ∃ d, xs[i]? = some d := ⟨xs[i], List.getElem?_eq_getElem lt⟩
        have hdrop : xs.drop i = d :: xs.drop (i + 1) := by
          rw [List.drop_eq_getElem_cons lt]
          congr 1
          have := List.getElem?_eq_getElem lt
          rw [hd] at this
          exact (Option.some.inj this).symm
        obtain ⟨F3, g3, r3⟩ := hY i d _ x H' F2 hd (g2.h.trans go.h) g2.f go.i y
        have S3 := (S1.grow g2).grow (go.trans g3)
        rw [hdrop] at er
        unfold compD at er
        split at er
        · cases er
        · rename_i r1 hput
          obtain ⟨k, ek, er1⟩ := rb_eq_ok er
          refine put_ok S3 r3 hput fun σ2 S4 hw => ⟨by rw [hw, wipe_wipe], ⟨r1, F3, F0, B, S4, Thn.ok0 ek fun F4 H4 g4 => ?_⟩⟩
          have f2D : F2 D = none := g2.i.free hm
          cases k with
          | true =>
            rw [if_pos rfl] at er1
            obtain ⟨z, ez, er2⟩ := rb_eq_ok er1
            obtain ⟨e, ee, er3⟩ := rb_eq_ok er2
            refine iteT ⟨r1, F4, F0, B, S4.grow g4, Thn.ok0 ez fun F5 H5 g5 u ru => ⟨r1, F5, F0, B, (S4.grow g4).grow g5, Thn.ok0 ee fun F6 H6 g6 v rv => ?_⟩⟩
            split at er3
            · rename_i k hk
              obtain ⟨c, rfl, hc6⟩ := rep_key g6.i ((ru.mono g6.f).x g6.i) hk
              have g7 : Gr F2 (upd Hm D (.dT ks)) F6 H6 := ((g3.trans g4).trans g5).trans g6
              have hD6 : H6 D = some (.dT ks) := g7.h _ _ upd_same
              refine ⟨ks, kk k, c, rfl, hc6, hD6, ?_, _, ?_, rfl, lt, putP kvs k e, putK ks (kk k) v, F6, DL.del H6 D, er3, ?_, ?_, del_self, repP_put (hu.mono g7.f) rv, g2.trans (g7.del hm f2D)⟩
              · rw [repP_len hu]
                exact Nat.lt_of_lt_of_le (Nat.lt_of_le_of_lt hl lt) (lim_line hlim)
              · omega
              · have := putP_len kvs k e
                omega
              · funext b
                unfold upd DL.del
                by_cases c : b = D
                · rw [if_pos c, if_pos c]
                · rw [if_neg c, if_neg c, if_neg c]
            · cases er3
          | false =>
            rw [if_neg (by simp)] at er1
            have g6 : Gr F2 (upd Hm D (.dT ks)) F4 H4 := g3.trans g4
            have hD5 : H4 D = some (.dT ks) := g6.h _ _ upd_same
            exact iteF ⟨_, by omega, rfl, lt, kvs, ks, F4, DL.del H4 D, er1, Nat.le_succ_of_le hl, (upd_del hD5).symm, del_self, hu.mono g6.f, g2.trans (g6.del hm f2D)⟩
      · have ei : i = xs.length := by omega
        subst ei
        refine .inl ⟨w.stops _ hGi, ?_⟩
        rw [List.drop_length] at er
        have e5 : kvs = fin := by
          have e6 : ok kvs = ok fin := er
          unfold ok at e6
          simpa using e6
        subst e5
        have gn := Gr.new g2.i hm (.dT ks)
        exact h1 _ _ (g2.trans gn) _ ⟨D, rfl, .inr ⟨ks, upd_same, repKV_of (hu.mono gn.f)⟩⟩
  · rw [if_neg hlim] at h1
    exact False.elim h1
section
variable {X : Cx} {ec : EC} {W : WX} {kx vx tg iter : Expr} {ifs : List Expr} {scope : Scope} {own : List (Str × Nat)} {pos : Pos} {ι : EL} {g : Tg} {β : EB} {κ φ : EX}
theorem de_dcomp (hu : X.A.units + 65 < cLine) (hc : X.calm = true) (hN : X.N.Nodup) (hi : DIX X ec W tg iter ι) (ok : BlkOk X.N X.env.scope scope own) (hv : own.map (·.2) = g.slots)
    (hg : ∀ (s : Shared) (H : Hp) (C : Addr) (cl : List (Str × Addr)) (fp : List Addr), PG (X.blk s H scope (compEnvC scope cl C X.env) fp) tg (tgT X.K g)) (ht : ∀ (s : Shared) (H : Hp) (C : Addr) (cl : List (Str × Addr)) (fp : List Addr), PTs (X.blk s H scope (compEnvC scope cl C X.env) fp) ifs (tT X.K ec W0 β))
    (hk : ∀ (s : Shared) (H : Hp) (C : Addr) (cl : List (Str × Addr)) (fp : List Addr), DE (X.blk s H scope (compEnvC scope cl C X.env) fp) ec W0 kx κ) (he : ∀ (s : Shared) (H : Hp) (C : Addr) (cl : List (Str × Addr)) (fp : List Addr), DE (X.blk s H scope (compEnvC scope cl C X.env) fp) ec W0 vx φ) (hs : ∀ x, foldedSetIterable iter X.env x = pure x := by intro _; rfl) :
    DE X ec W (.DictComp kx vx [⟨tg, iter, ifs, 0⟩] scope pos) (vDComp ι g β κ φ) := peImp (pe_dcT (by omega) hc hN hi ok hg ht hk he hs) fun _ _ _ h => dc_use hv h
end
end DL
/-! sorted(set(..)) of whole numbers. -/
namespace DL
open PySem PySem.Spec PyProof.Rows L2
section
variable {P : Program} {w : World} {A : Around} {E : Value → Shared → Prop}
set_option maxHeartbeats 3200000 in
/-- set(..) of a list of whole numbers -/
theorem set_listI {s : Shared} {l : Addr} {items : Array Value} (ns : List Int) {Q : Value → Shared → Prop} (hh : A.handled = none) (hl : s.heap.IsList l items) (hit : IntsAre items.toList ns) (hb : ns.length + 1 < scanBound)
    (h : ∀ (h' : Heap) (tk c : Nat), SetR w h' s.heap.objs.size (fun j => decide (j ∈ ns)) c → c ≤ ns.length → (∀ b o, s.heap.get? b = some o → h'.get? b = some o) → Q (.ref s.heap.objs.size) { s with heap := h', toks := tk }) : wpAny (model P w) A (call (.type "set") [.ref l]) Q E s := by
  have hisz : items.size = ns.length := by
    have q := IntsAre.length hit
    rw [Array.length_toList] at q
    exact q
  obtain ⟨c, tl, hmro⟩ := F.called_set.mro
  have hmade := F.called_set.made
  have hsub := F.called_set.sub
  refine wpAny_call (codeAny_of_tree ?_)
  show wpAny _ _ (callAny (.type "set") _) _ _ _
  refine wpAny_pure ⟨Code.quiet_builtin _ (by decide +kernel), codeAny_builtin F.entry_type_call ?_⟩
  rw [Around.under_plain (weight_type_call_type "set" [.ref l] []) rfl]
  have h1 := F.called_set.notType
  have h2 := F.called_set.canCreate
  have hct := F.typeCall_set_1 (.ref l)
  repeat (any_goals (first | assumption | wp_step))
  refine codeAny_mono (code_set_led1 (.ref l) (E := E) (Q₁ := fun obj s1 => obj = .ref s.heap.objs.size ∧ s1 = { s with heap := s.heap.push { cls := .type "set", dict := none, data := .set #[] 0 (.fresh 0 0 (!w.params.followText "set-order")) } }) ⟨rfl, rfl⟩) fun r s1 hr => ?_
  cases r with
  | error e => exact hr
  | ok fl =>
    cases fl with
    | ret obj =>
      obtain ⟨rfl, rfl⟩ := hr
      have hS : (s.heap.push { cls := .type "set", dict := none, data := .set #[] 0 (.fresh 0 0 (!w.params.followText "set-order")) }).get? s.heap.objs.size = some { cls := .type "set", dict := none, data := .set #[] 0 (.fresh 0 0 (!w.params.followText "set-order")) } := Heap.get?_push_size _ rfl
      have hT : Shared.TypeIs { s with heap := s.heap.push { cls := .type "set", dict := none, data := .set #[] 0 (.fresh 0 0 (!w.params.followText "set-order")) } } (.ref s.heap.objs.size) "set" := ⟨_, hS, rfl⟩
      have hli := F.called_set.init.lookup
      have hbi := F.called_set.init.bind (.ref s.heap.objs.size)
      repeat (any_goals (first | assumption | wp_step))
      refine codeAny_mono (codeAny_call_builtin (R := wants (fun r s2 => r = .none ∧ ∃ h' tk c, s2 = { s with heap := h', toks := tk } ∧ SetR w h' s.heap.objs.size (fun j => decide (j ∈ ns)) c ∧ c ≤ ns.length ∧ (∀ b o, s.heap.get? b = some o → h'.get? b = some o)) E) F.called_set.init.plain F.entry_set_init (check_set_init_1 hT ?_)) fun r2 s2 hr2 => ?_
      · obtain ⟨ol, hol, hcl, nl, hdl⟩ := hl
        obtain ⟨ocls, odict, odata, oslots⟩ := ol
        simp only at hcl hdl
        subst hcl; subst hdl
        have hol' : (s.heap.push { cls := .type "set", dict := none, data := .set #[] 0 (.fresh 0 0 (!w.params.followText "set-order")) }).get? l = some { cls := .type "list", dict := odict, data := .seq items nl, slots := oslots } := Heap.get?_push_of_some _ hol
        have hsls := F.sub_list_set
        have hslf := F.sub_list_frozenset
        have hne : (Value.type "list" == Value.type "dict") = false := by decide
        have hl1 : (s.heap.push { cls := .type "set", dict := none, data := .set #[] 0 (.fresh 0 0 (!w.params.followText "set-order")) }).IsList l items := ⟨_, hol', rfl, nl, rfl⟩
        unfold Builtin.«set.__init__» noKeywords Builtin.Frozenset.updateFrom
        generalize hPI : pyIter = PI
        wp_walk
        subst hPI
        refine wpAny_pyIter_list hl1 ?_
        refine wpAny_bind (wpAny_runValue ?_)
        have hlS : l < s.heap.objs.size := Heap.lt_size hol
        have hh3 : A.in1.in1.in1.handled = none := by simp [hh]
        have hz1 : (s.heap.push { cls := .type "set", dict := none, data := .set #[] 0 (.fresh 0 0 (!w.params.followText "set-order")) }).objs.size = s.heap.objs.size + 1 := Heap.size_push ..
        have hneI : l ≠ (s.heap.push { cls := .type "set", dict := none, data := .set #[] 0 (.fresh 0 0 (!w.params.followText "set-order")) }).objs.size := by
          rw [Heap.size_push]; exact Nat.ne_of_lt (Nat.lt_succ_of_lt hlS)
        have off : s.heap.objs.size ∉ [(s.heap.push { cls := .type "set", dict := none, data := .set #[] 0 (.fresh 0 0 (!w.params.followText "set-order")) }).objs.size, l] := by
          rw [Heap.size_push]; simp only [List.mem_cons, List.mem_singleton, List.not_mem_nil, or_false, not_or]
          exact ⟨Nat.ne_of_lt (Nat.lt_succ_self _), Nat.ne_of_gt hlS⟩
        have hval : ∀ (i : Nat) (v : Value), items[i]? = some v → ∃ k t, ns[i]? = some k ∧ v = .int k t := fun i v hv => by
          have hi : i < ns.length := by rw [← hisz]; exact (Array.getElem?_eq_some_iff.mp hv).1
          obtain ⟨t, e⟩ := IntsAre.int_at hit i v (by rw [Array.getElem?_toList]; exact hv)
          refine ⟨ns[i], t, List.getElem?_eq_getElem hi, ?_⟩
          rw [e, List.getD_eq_getElem?_getD, List.getElem?_eq_getElem hi]
          rfl
        refine set_update_ints ((Walks.list hh3 _ l hneI items).toS) s.heap.objs.size off ns hisz hb hval (items.size - 0) 0 _ (by omega) (Nat.zero_le _)
          ⟨⟨_, Heap.get?_push_size _ rfl, rfl, rfl⟩, (hl1.push _)⟩ ⟨0, Nat.le_refl 0, setR_new_at (Heap.get?_push_of_some _ hS)⟩ ?_
        intro s' c' hm hc' R
        obtain ⟨h', g2, d', tk', os'⟩ := s'
        have eg : g2 = s.gens := hm.gens
        have ed : d' = s.drawn := hm.drawn
        have eo : os' = s.os := hm.os
        subst eg; subst ed; subst eo
        show wpAny _ _ _ _ _ _
        refine wpAny_pure ?_
        show wpAny _ _ (ret Value.none) _ _ _
        rw [hisz] at hc'
        refine wpAny_pure ⟨rfl, h', tk', c', rfl, R, hc', fun b o e => ?_⟩
        have b0 := Heap.lt_size e
        refine hm.heap b o ?_ (Heap.get?_push_of_some _ (Heap.get?_push_of_some _ e))
        rw [Heap.size_push]
        simp only [List.mem_cons, List.not_mem_nil, or_false, not_or]
        exact ⟨Nat.ne_of_lt b0, Nat.ne_of_lt (Nat.lt_succ_of_lt b0)⟩
      · cases r2 with
        | error e => exact hr2
        | ok fl2 =>
          cases fl2 with
          | ret r =>
            obtain ⟨rfl, h', tk, c', rfl, R, hc', hk'⟩ := hr2
            repeat (any_goals (first | assumption | wp_step))
            exact h _ _ _ R hc' hk'
          | _ => exact hr2.elim
    | _ => exact hr.elim
end
theorem mem_insU {x k : Int} : ∀ {ys : List Int}, k ∈ insU x ys ↔ k = x ∨ k ∈ ys
  | [] => by simp [insU]
  | y :: ys => by
    unfold insU
    split
    · simp
    · split
      · rename_i h
        subst h
        simp
      · rw [List.mem_cons, mem_insU, List.mem_cons]
        constructor
        · rintro (h | h | h)
          · exact .inr (.inl h)
          · exact .inl h
          · exact .inr (.inr h)
        · rintro (h | h | h)
          · exact .inr (.inl h)
          · exact .inl h
          · exact .inr (.inr h)
theorem mem_setS {k : Int} : ∀ {xs : List Int}, k ∈ setS xs ↔ k ∈ xs
  | [] => Iff.rfl
  | x :: xs => by
    rw [setS, mem_insU, mem_setS, List.mem_cons]
theorem insU_lt {x : Int} : ∀ {ys : List Int}, ys.Pairwise (· < ·) → (insU x ys).Pairwise (· < ·)
  | [], _ => List.pairwise_singleton _ _
  | y :: ys, h => by
    obtain ⟨h1, h2⟩ := List.pairwise_cons.mp h
    unfold insU
    split
    · rename_i c
      refine List.pairwise_cons.mpr ⟨fun z hz => ?_, h⟩
      rcases List.mem_cons.mp hz with rfl | hz
      · exact c
      · exact Int.lt_trans c (h1 z hz)
    · split
      · exact h
      · rename_i c d
        refine List.pairwise_cons.mpr ⟨fun z hz => ?_, insU_lt h2⟩
        rcases mem_insU.mp hz with rfl | hz
        · omega
        · exact h1 z hz
theorem setS_lt : ∀ xs : List Int, (setS xs).Pairwise (· < ·)
  | [] => List.Pairwise.nil
  | x :: xs => insU_lt (setS_lt xs)
/-- ascending lists with the same members -/
theorem asc_eq : ∀ {xs ys : List Int}, xs.Pairwise (· < ·) → ys.Pairwise (· < ·) → (∀ k, k ∈ xs ↔ k ∈ ys) → xs = ys
  | [], [], _, _, _ => rfl
  | [], y :: _, _, _, h => nomatch (h y).mpr List.mem_cons_self
  | x :: _, [], _, _, h => nomatch (h x).mp List.mem_cons_self
  | x :: xs, y :: ys, hx, hy, h => by
    obtain ⟨x1, x2⟩ := List.pairwise_cons.mp hx
    obtain ⟨y1, y2⟩ := List.pairwise_cons.mp hy
    have e : x = y := by
      rcases List.mem_cons.mp ((h x).mp List.mem_cons_self) with a | a
      · exact a
      · rcases List.mem_cons.mp ((h y).mpr List.mem_cons_self) with b | b
        · exact b.symm
        · have := x1 y b
          have := y1 x a
          omega
    subst e
    congr 1
    refine asc_eq x2 y2 fun k => ⟨fun m => ?_, fun m => ?_⟩
    · rcases List.mem_cons.mp ((h k).mp (List.mem_cons_of_mem _ m)) with a | a
      · subst a; exact absurd (x1 k m) (Int.lt_irrefl k)
      · exact a
    · rcases List.mem_cons.mp ((h k).mpr (List.mem_cons_of_mem _ m)) with a | a
      · subst a; exact absurd (y1 k m) (Int.lt_irrefl k)
      · exact a
/-- each once within others: not more -/
theorem nodup_le : ∀ {xs ys : List Int}, xs.Nodup → (∀ k ∈ xs, k ∈ ys) → xs.length ≤ ys.length
  | [], _, _, _ => Nat.zero_le _
  | x :: xs, ys, hd, h => by
    obtain ⟨d1, d2⟩ := List.nodup_cons.mp hd
    have hx := h x List.mem_cons_self
    have ih := nodup_le (ys := ys.erase x) d2 fun k hk => (List.mem_erase_of_ne (fun z => d1 (by rw [← z]; exact hk))).mpr (h k (List.mem_cons_of_mem _ hk))
    have := List.length_erase_of_mem hx
    have : 0 < ys.length := List.length_pos_of_mem hx
    rw [List.length_cons]
    omega
theorem setR_few {w : World} {h : Heap} {a : Addr} {ns : List Int} {c : Nat} (R : SetR w h a (fun j => decide (j ∈ ns)) c) : c ≤ (setS ns).length := by
  obtain ⟨o, es, ep, t, _, _, _, _, nd, hm, _, _, hn, _⟩ := R
  have := nodup_le nd (ys := setS ns) fun k hk => mem_setS.mpr (by simpa using (hm k).mpr hk)
  rw [List.length_map, Array.length_toList, hn] at this
  exact this
section
variable {X : Cx} {ec : EC} {W : WX} {e : Expr} {pos p p2 q2 : Pos} {φ : EX}
def rSetI (K : PySem.W.Frag) (w : World) : List V → Hp → VK → Prop := fun xs H Q => ∃ (l : Addr) (ns : List Int), xs = [V.ref l] ∧ SqL K H l (ns.map V.int) ∧ ns.length ≤ 2000 ∧ ∀ a c, H a = none → c ≤ (setS ns).length → Q (.ref a) (upd H a (SetO w a (fun j => decide (j ∈ ns)) c))
theorem cr_setI (hc : X.calm = true) : CallR X (.type "set") (rSetI X.K X.w) := by
  intro pins s σ H xs us Q I r h
  obtain ⟨l, ns, rfl, hl, hn, q⟩ := h
  rw [Vals.ref1 r]
  obtain ⟨its, rv, pl, hz⟩ := I.list hl
  have hi : IntsAre its ns := intsAre_of rv
  refine set_listI (P := X.prog) (w := X.w) ns (I.ok.hd hc) pl.isList (by simpa using hi) (Nat.lt_of_le_of_lt (Nat.succ_le_succ hn) (by decide)) fun h' tk c R hle k => ?_
  exact ⟨.ref s.heap.objs.size, _, I.laid (t' := tk) k (Nat.le_refl _) (setO_new R), rfl, q _ c (I.hok.fresh (Nat.le_refl _)) (setR_few R)⟩
theorem dl_sortset (hg : Gl X "sorted") (hm : X.mg "sorted" = none) (hg2 : Gl X "set") (hm2 : X.mg "set" = none) (ha : DX X ec W e φ) (hv : bootBuiltins "sorted" = some (.builtin "sorted")) (hv2 : bootBuiltins "set" = some (.type "set")) (hc : X.calm = true := by rfl)
    (na : starEach [e] X.env = (false, eval e X.env) :: starEach [] X.env := by rfl) (nb : starEach [.Call (.Name "set" p2) [e] [] q2] X.env = (false, eval (.Call (.Name "set" p2) [e] [] q2) X.env) :: starEach [] X.env := by rfl) :
    DLi X ec W (.Call (.Name "sorted" p) [.Call (.Name "set" p2) [e] [] q2] [] pos) (l1 lSortS φ) :=
  peImp (pe_callB (cr_sortedSet hc) hg hm hv (pa_cons (pe_callTy (cr_setI hc) hg2 hm2 hv2 (pa_cons ha pa_nil na) (by decide) (by decide) na (by rfl)) pa_nil nb) (by decide) (by decide) nb (by rfl)) fun σ H Q ⟨r, F, F0, B, S, q⟩ => by
    refine ⟨r, F, F0, B, S, (Thn.bind q).imp fun d F1 H1 _ g1 k1 v rv => ?_⟩
    obtain ⟨xs', ex, k2⟩ := k1.po
    cases d with
    | list ys =>
      obtain ⟨a, vs, rfl, h1, h2⟩ := rv
      have ex' : (match numsOf ys with
        | some ns => if ns.length ≤ 2000 ∧ (setS ns).length < 64 then some ((setS ns).map PyData.int) else none
        | none => none) = some xs' := ex
      match hn : numsOf ys with
      | none => rw [hn] at ex'; cases ex'
      | some ns =>
        rw [hn] at ex'
        dsimp only at ex'
        split at ex'
        · rename_i c
          cases ex'
          rw [numsOf_eq hn] at h2
          have ev : vs = ns.map V.int := by
            rw [rep_ints h2, List.map_map]
            rfl
          rw [ev] at h1
          refine ⟨a, ns, rfl, h1, c.1, fun p n hp hle => ⟨p, _, n, rfl, upd_same, Nat.lt_of_le_of_lt hle c.2, fun ms l hs hm hlen hl => ?_⟩⟩
          have em : ms = setS ns := asc_eq hs (setS_lt ns) fun k => by rw [hm k, mem_setS, decide_eq_true_eq]
          subst em
          refine k2 F1 _ (Gr.own g1.i hp _) l _ hl ?_
          have := keyInts (K := X.K) (F := F1) (setS ns)
          rw [List.map_map] at this
          exact this
        · cases ex'
    | _ => cases ex
end
end DL
/-! len(set(..)) of whole numbers. -/
namespace DL
open PySem PySem.Spec PyProof.Rows L2
theorem numsOf_rep {K : PySem.W.Frag} {F : Hp} : ∀ {xs : List D} {ns : List Int} {vs : List V}, numsOf xs = some ns → RepL K F xs vs → vs = ns.map V.int
  | [], ns, vs, h, r => by
    have e : ns = [] := by
      have h' : some ([] : List Int) = some ns := h
      exact (Option.some.inj h').symm
    have r' : vs = [] := r
    rw [e, r']; rfl
  | .int i :: xs, ns, vs, h, ⟨v, us, e, h1, h2⟩ => by
    have h' : (numsOf xs).map (i :: ·) = some ns := h
    obtain ⟨ms, e1, e2⟩ := Option.map_eq_some_iff.mp h'
    subst e2
    have h1' : v = .int i := h1
    rw [e, h1', numsOf_rep e1 h2]
    rfl
  | .none :: _, _, _, h, _ => by cases h
  | .bool _ :: _, _, _, h, _ => by cases h
  | .str _ :: _, _, _, h, _ => by cases h
  | .list _ :: _, _, _, h, _ => by cases h
  | .tuple _ :: _, _, _, h, _ => by cases h
  | .dict _ :: _, _, _, h, _ => by cases h
theorem numsOf_len : ∀ {xs : List D} {ns : List Int}, numsOf xs = some ns → ns.length = xs.length
  | [], ns, h => by
    have h' : some ([] : List Int) = some ns := h
    rw [← Option.some.inj h']; rfl
  | .int i :: xs, ns, h => by
    have h' : (numsOf xs).map (i :: ·) = some ns := h
    obtain ⟨ms, e1, e2⟩ := Option.map_eq_some_iff.mp h'
    subst e2
    rw [List.length_cons, List.length_cons, numsOf_len e1]
  | .none :: _, _, h => by cases h
  | .bool _ :: _, _, h => by cases h
  | .str _ :: _, _, h => by cases h
  | .list _ :: _, _, h => by cases h
  | .tuple _ :: _, _, h => by cases h
  | .dict _ :: _, _, h => by cases h
theorem met_uniq (ns : List Int) : firstMet (fun i => ns.getD i 0) ns.length = uniq ns := by
  have e : (List.range ns.length).map (fun i => ns.getD i 0) = ns := by
    apply List.ext_getElem?
    intro j
    by_cases hj : j < ns.length
    · rw [List.getElem?_map, List.getElem?_range hj, List.getElem?_eq_getElem hj]
      show some (ns.getD j 0) = _
      rw [List.getD_eq_getElem?_getD, List.getElem?_eq_getElem hj]
      rfl
    · rw [List.getElem?_eq_none (by rw [List.length_map, List.length_range]; omega), List.getElem?_eq_none (by omega)]
  unfold firstMet uniq
  rw [e]
  rfl
theorem uniq_le : ∀ (ns acc : List Int), (ns.foldl addU acc).length ≤ acc.length + ns.length
  | [], acc => Nat.le_refl _
  | n :: ns, acc => by
    have h := uniq_le ns (addU acc n)
    have h2 : (addU acc n).length ≤ acc.length + 1 := by
      unfold addU
      split
      · omega
      · rw [List.length_append]; exact Nat.le_refl _
    rw [List.foldl_cons, List.length_cons]
    omega
section
variable {X : Cx} {ec : EC} {W : WX} {e : Expr} {pos p p2 q : Pos} {φ : EX}
theorem de_lensetI (hg : Gl X "len") (hm : X.mg "len" = none) (hg2 : Gl X "set") (hm2 : X.mg "set" = none) (ha : DX X ec W e φ) (hc : X.calm = true := by rfl)
    (na : starEach [e] X.env = (false, eval e X.env) :: starEach [] X.env := by rfl) : DE X ec W (.Call (.Name "len" p) [.Call (.Name "set" p2) [e] [] q] [] pos) (v1 dLenSetI φ) := by
  refine ⟨fun pins s σ H Q I h => ?_⟩
  obtain ⟨r, F, F0, B, S, h⟩ := h
  refine Call_ (ld_blt I hg hm boot_len ?_)
  refine PyProof.Rows.callWith_builtin1 (PyProof.Rows.args_cons ?_ rfl) rfl rfl
  refine Call_ (ld_blt I hg2 hm2 boot_set ?_)
  refine PyProof.Rows.callWith_type1 (PyProof.Rows.args_cons (thn (ha.run pins s σ H (fun x H1 => ∃ a vs ns, x = .ref a ∧ SqL X.K H1 a vs ∧ vs = ns.map V.int ∧ ns.length ≤ 2000 ∧ Q (.int ((uniq ns).length : Nat)) H1) I
    ⟨r, F, F0, B, S, (Thn.bind h).imp fun d F1 H1 _ g k v rv => ?_⟩) fun v s1 ⟨x, H1, I1, r1, q1⟩ => PyProof.Rows.args_nil ?_) na) na rfl
  · obtain ⟨y, ey, k⟩ := Thn.po k
    unfold dLenSetI at ey
    split at ey
    · rename_i xs
      split at ey
      · rename_i ns hn
        split at ey
        · rename_i c
          cases ey
          obtain ⟨a, vs, rfl, h1, h2⟩ := rv
          exact ⟨a, vs, ns, rfl, h1, numsOf_rep hn h2, c, k F1 H1 (Gr.refl g.i) _ rfl⟩
        · cases ey
      · cases ey
    · cases ey
  · obtain ⟨a, vs, ns, rfl, h1, e1, hn, q1⟩ := q1
    subst e1
    cases r1
    obtain ⟨its, rv, pl, hz⟩ := I1.list h1
    have hi : IntsAre its ns := intsAre_of rv
    have hsz : its.toArray.size = ns.length := by
      have := IntsAre.length hi
      rw [List.size_toArray]
      exact this
    refine PySem.call_set_list (items := its.toArray) (ns := ns) (I1.ok.hd hc) pl.isList (by simpa using hi) (by rw [hsz]; exact Nat.lt_of_le_of_lt (Nat.succ_le_succ hn) (by decide)) fun h' tk hS hk => PyProof.Rows.args_nil ?_
    rw [hsz, met_uniq] at hS
    obtain ⟨o, es, ep, t, ho, hex, hd, _, _, _, hf, he⟩ := hS
    have I2 : Inv X pins σ H1 { s1 with heap := h', toks := tk } := I1.kept fun b o e => hk b o (Heap.lt_size e) e
    have hle := uniq_le ns []
    exact call_len_set ho hex hd hf (by rw [he]; unfold uniq; simp only [List.length_nil] at hle; omega) ⟨.int ((uniq ns).length : Nat), H1, I2.tok _, ⟨_, by rw [← he]⟩, q1⟩
end
end DL
/-! xs[::-1] of a list or a tuple. -/
namespace HT
open PySem PySem.Spec PyProof.Rows
section
variable {prog : Program} {w : World} {A : Around} {E : Value → Shared → Prop} {s : Shared}
theorem sliceApplied_rev {sl : Addr} {vs : Value} {n : Nat} {Q : Int × Int × Nat → Shared → Prop} (hs : s.heap.IsSliceOf sl .none .none vs) (ps : IsPart vs (some (-1)))
    (h : Q ((n : Int) - 1, -1, n) s) : wpAny (model prog w) A (Builtin.Slice.sliceApplied (.ref sl) (pure (n : Int))) Q E s := by
  obtain ⟨os, hos, hcs, hds⟩ := id hs
  unfold Builtin.Slice.sliceApplied Builtin.Slice.sliceFields
  refine wpAny_bind (wpAny_bind (wpAny_field hos hds (x := .none) rfl (wpAny_bind (wpAny_field hos hds (x := .none) rfl (wpAny_bind (wpAny_field hos hds (x := vs) rfl (wpAny_pure ?_)))))))
  refine wpAny_bind (slicePart_ ps ?_)
  show wpAny _ _ (if ((-1 : Int) == 0) = true then _ else _) _ _ s
  rw [if_neg (by decide)]
  refine wpAny_bind (slicePart_none (wpAny_bind (slicePart_none (wpAny_bind (wpAny_pure ?_)))))
  show wpAny _ _ (match Builtin.Slice.sliceAdjust none none (-1) (n : Int) with | (lo, hi) => pure (lo, (-1 : Int), Builtin.Slice.slicePlaces lo hi (-1))) _ _ s
  have e1 : Builtin.Slice.sliceAdjust none none (-1) (n : Int) = ((n : Int) - 1, -1) := rfl
  have e2 : Builtin.Slice.slicePlaces ((n : Int) - 1) (-1) (-1) = n := by
    unfold Builtin.Slice.slicePlaces
    have h1 : ¬ ((-1 : Int) > 0) := by decide
    rw [if_neg h1]
    by_cases c : (n : Int) - 1 > -1
    · rw [if_pos c]
      have : ((n : Int) - 1 - -1 - 1) / (- -1) = (n : Int) - 1 := by
        rw [show (- -1 : Int) = 1 from rfl, Int.ediv_one]
        omega
      rw [this]
      omega
    · rw [if_neg c]
      omega
  rw [e1]
  show wpAny _ _ (pure ((n : Int) - 1, (-1 : Int), Builtin.Slice.slicePlaces ((n : Int) - 1) (-1) (-1))) _ _ s
  rw [e2]
  exact wpAny_pure h
theorem fm_congr {α β : Type} {f g : α → Option β} : ∀ {l : List α}, (∀ x ∈ l, f x = g x) → l.filterMap f = l.filterMap g
  | [], _ => rfl
  | x :: xs, h => by rw [List.filterMap_cons, List.filterMap_cons, h x List.mem_cons_self, fm_congr fun y hy => h y (List.mem_cons_of_mem _ hy)]
theorem pick_rev (xs : Array Value) : ((List.range xs.size).filterMap fun (m : Nat) => xs[((xs.size : Int) - 1 + (m : Int) * -1).toNat]?).toArray = xs.toList.reverse.toArray := by
  congr 1
  have e : ∀ m, m < xs.size → xs[((xs.size : Int) - 1 + (m : Int) * -1).toNat]? = xs.toList.reverse[m]? := fun m hm => by
    rw [List.getElem?_reverse (by rw [Array.length_toList]; exact hm), Array.length_toList, Array.getElem?_toList]
    congr 1
    omega
  have h1 : (List.range xs.size).filterMap (fun (m : Nat) => xs[((xs.size : Int) - 1 + (m : Int) * -1).toNat]?) = (List.range xs.size).filterMap fun m => xs.toList.reverse[m]? := fm_congr fun m hm => e m (List.mem_range.mp hm)
  rw [h1]
  have h2 : ∀ l : List Value, (List.range l.length).filterMap (fun m => l[m]?) = l := fun l => by
    have := PySem.W.krv_all l.toArray
    simpa using this
  have h3 := h2 xs.toList.reverse
  rw [List.length_reverse, Array.length_toList] at h3
  exact h3
theorem getItem_tuple_rev {t sl : Addr} {items : Array Value} {vs : Value} {Q : Value → Shared → Prop} (ht : IsTup s.heap t items) (hs : s.heap.IsSliceOf sl .none .none vs) (ps : IsPart vs (some (-1)))
    (h : Q (.ref s.heap.objs.size) { s with heap := s.heap.push { cls := .type "tuple", data := .seq items.toList.reverse.toArray } })
    (hsz : items.size ≤ sizeLine) : wpAny (model prog w) A (getItem (.ref t) (.ref sl)) Q E s := by
  have htake : sizeOk (.seq items.toList.reverse.toArray) := by
    show items.toList.reverse.toArray.size ≤ sizeLine
    rw [List.size_toArray, List.length_reverse, Array.length_toList]
    exact hsz
  obtain ⟨os, hos, hcs, hds⟩ := id hs
  have hTs : s.TypeIs (.ref sl) "slice" := ⟨os, hos, hcs⟩
  unfold getItem
  try with_reducible refine wpAny_holding ?_
  first | refine wpAny_bind (wpAny_pure ?_) | skip
  refine wpAny_bind (wpAny_sequenceKey ht.typeIs (by decide) ?_)
  refine wpAny_bind (wpAny_callSpecial?_slot (name := Str.ofString "__getitem__") ht.typeIs PyProof.Rows.slot_tuple_getitem
    (wpAny_call_entry PyProof.Rows.slot_tuple_getitem ht.typeIs entry_tuple_getitem ?_ (args_tuple_getitem _ _)))
  show wpAny _ _ (Builtin.Tuple.tupleItemsOf (.ref t) >>= _) _ _ s
  refine wpAny_bind (tupleItemsOf_ ht ?_)
  refine wpAny_bind (wpAny_typeOf hTs ?_)
  rw [if_pos (by decide)]
  refine wpAny_bind (sliceApplied_rev hs ps ?_)
  show wpAny _ _ (if (((items.size : Int) - 1) == 0 && (-1 : Int) == 1 && items.size == items.size) = true then _ else _) _ _ s
  have hno : ¬ ((((items.size : Int) - 1) == 0 && (-1 : Int) == 1 && items.size == items.size) = true) := by
    intro q
    rw [Bool.and_eq_true, Bool.and_eq_true] at q
    exact absurd q.1.2 (by decide)
  rw [if_neg hno, pick_rev]
  first
    | exact wpAny_bind (m := Builtin.Tuple.tupleExact _) (wpAny_newObj_type (wpAny_pure ⟨_, rfl, wpAny_pure h⟩) htake)
    | exact wpAny_bind (m := Builtin.Tuple.tupleExact _) (wpAny_newObj_type (wpAny_bind (wpAny_pure (wpAny_pure ⟨_, rfl, wpAny_pure h⟩))) htake)
    | exact wpAny_bind (wpAny_bind (m := Builtin.Tuple.tupleExact _) (wpAny_newObj_type (wpAny_pure (wpAny_pure ⟨_, rfl, wpAny_pure h⟩)) htake))
    | exact wpAny_bind (wpAny_bind (m := Builtin.Tuple.tupleExact _) (wpAny_newObj_type (wpAny_pure ⟨_, rfl, wpAny_pure h⟩) htake))
end
end HT
namespace L2
open PySem PySem.Spec PyProof.Rows
section
variable {X : Cx}
def tRevA (K : PySem.W.Frag) (te : TE) : TE := fun σ H Q => te σ H fun x H1 => (∃ a xs, x = .ref a ∧ SqL K H1 a xs ∧ ∀ p, H1 p = none → Q (.ref p) (upd H1 p (.lst xs.reverse))) ∨ ∃ a xs, x = .ref a ∧ SqT K H1 a xs ∧ ∀ p, H1 p = none → Q (.ref p) (upd H1 p (.tup xs.reverse))
theorem pe_revA {e : Expr} {te : TE} {k : Nat} {p1 p2 p3 pos : Pos} (he : PE X e te) : PE X (.Subscript e (.Slice none none (some (.UnaryOp .USub (.Constant (.int 1) k p1) p2)) p3) pos) (tRevA X.K te) := by
  refine ⟨fun pins s σ H Q I h => ?_⟩
  refine Subscript_ (thn (he.run pins s σ H _ I h) fun v s1 ⟨x, H1, I1, r1, q1⟩ => ?_)
  have hst : PO X (some (.UnaryOp .USub (.Constant (.int 1) k p1) p2)) (tPart (tUn (rU fun i => .int (-i)) (tC (.int 1)))) := po_some (pe_un un_neg pe_int)
  refine wpAny_Slice (thn (po_none.run pins s1 σ H1 (fun o H2 => o = none ∧ H2 = H1) I1 ⟨rfl, rfl⟩) fun vl s2 ⟨l, H2, I2, pl, el, e2⟩ => ?_)
  subst el e2
  refine thn (po_none.run pins s2 σ H2 (fun o H3 => o = none ∧ H3 = H2) I2 ⟨rfl, rfl⟩) fun vu s3 ⟨u, H3, I3, pu, eu, e3⟩ => ?_
  subst eu e3
  refine thn (hst.run pins s3 σ H3 (fun o H4 => o = some (-1) ∧ H4 = H3) I3 ⟨1, rfl, -1, rfl, rfl, rfl⟩) fun vs s4 ⟨o, H4, I4, ps, eo, e4⟩ => ?_
  subst eo e4
  have I5 : Inv X pins σ H4 { s4 with heap := s4.heap.push { cls := .type "slice", data := .fields #[vl, vu, vs] } } := I4.kept (t' := s4.toks) fun b ob q => Heap.get?_push_of_some _ q
  rcases q1 with ⟨a, xs, ex, hx, q⟩ | ⟨a, xs, ex, hx, q⟩
  · subst ex
    cases r1
    obtain ⟨its, r, ht, hz⟩ := I5.list hx
    have hlen := r.length
    show wpAny (model X.prog X.w) X.A (subscriptTail e (.Slice none none (some (.UnaryOp .USub (.Constant (.int 1) k p1) p2)) p3) (.ref a) (.ref s4.heap.objs.size)) (EP X pins σ Q) X.xe { s4 with heap := s4.heap.push { cls := .type "slice", data := .fields #[vl, vu, vs] } }
    refine tail_any (ops := [.ref a, .ref s4.heap.objs.size]) ht.isList.typeIs (PySem.slot_list_getitem.lookup) ?_ (by with_unfolding_all rfl)
    refine wpAny_getItem_list_slice ht.isList (Heap.IsSliceOf.new _ vl vu vs) pl pu ps (by decide) ?_ (by rw [List.size_toArray]; omega)
    rw [PySem.W.krv_pick]
    refine ⟨.ref _, _, I5.laid (t' := s4.toks) (o := .lst xs.reverse) (fun b ob q => Heap.get?_push_of_some _ q) (Nat.le_refl _) ?_, rfl, q _ (I5.hok.fresh (Nat.le_refl _))⟩
    exact ⟨by rw [List.length_reverse]; exact hz, _, 0, r.reverse, Heap.get?_push_size _ rfl⟩
  · subst ex
    cases r1
    cases pl
    cases pu
    obtain ⟨its, r, ht, hz⟩ := I5.tuple hx
    have hlen := r.length
    show wpAny (model X.prog X.w) X.A (subscriptTail e (.Slice none none (some (.UnaryOp .USub (.Constant (.int 1) k p1) p2)) p3) (.ref a) (.ref s4.heap.objs.size)) (EP X pins σ Q) X.xe { s4 with heap := s4.heap.push { cls := .type "slice", data := .fields #[.none, .none, vs] } }
    refine tail_any (ops := [.ref a, .ref s4.heap.objs.size]) ht.typeIs (PyProof.Rows.slot_tuple_getitem.lookup) ?_ (by with_unfolding_all rfl)
    refine HT.getItem_tuple_rev ht (Heap.IsSliceOf.new _ .none .none vs) ps ?_ (by rw [List.size_toArray]; omega)
    refine ⟨.ref _, _, I5.laid (t' := s4.toks) (o := .tup xs.reverse) (fun b ob q => Heap.get?_push_of_some _ q) (Nat.le_refl _) ?_, rfl, q _ (I5.hok.fresh (Nat.le_refl _))⟩
    exact ⟨by rw [List.length_reverse]; exact hz, _, r.reverse, IsTup.new _ _⟩
end
end L2
namespace DL
open PySem PySem.Spec PyProof.Rows L2
theorem RepL.reverse {K : PySem.W.Frag} {F : Hp} : ∀ {ds : List D} {vs : List V}, RepL K F ds vs → RepL K F ds.reverse vs.reverse
  | [], vs, h => by
    have e : vs = [] := h
    rw [e]
    rfl
  | d :: ds, vs, ⟨v, us, e, h1, h2⟩ => by
    rw [e, List.reverse_cons, List.reverse_cons]
    exact h2.reverse.append ⟨v, [], rfl, h1, rfl⟩
section
variable {X : Cx} {ec : EC} {W : WX} {e : Expr} {pos : Pos} {φ : EX}
theorem de_rev {k : Nat} {p1 p2 p3 : Pos} (ha : DX X ec W e φ) : DE X ec W (.Subscript e (.Slice none none (some (.UnaryOp .USub (.Constant (.int 1) k p1) p2)) p3) pos) (v1 dRev φ) := peImp (pe_revA ha) fun σ H Q ⟨r, F, F0, B, S, q⟩ => by
  refine ⟨r, F, F0, B, S, (Thn.bind q).imp fun x F1 H1 _ g1 h1 v rv => ?_⟩
  obtain ⟨d, ed, k⟩ := h1.po
  unfold dRev at ed
  split at ed
  · cases ed
    obtain ⟨a, vs, rfl, h4, h5⟩ := rv
    refine .inl ⟨a, vs, rfl, h4, fun p hp => ?_⟩
    have g' := Gr.new g1.i hp (.lst vs.reverse)
    exact k _ _ g' _ ⟨p, _, rfl, .inl (.inl upd_same), h5.reverse.mono g'.f⟩
  · cases ed
    obtain ⟨a, vs, rfl, h4, h5⟩ := rv
    refine .inr ⟨a, vs, rfl, tupT g1.i h4, fun p hp => ?_⟩
    have g' := Gr.new g1.i hp (.tup vs.reverse)
    exact k _ _ g' _ ⟨p, _, rfl, upd_same, h5.reverse.mono g'.f⟩
  · cases ed
end
end DL
/-! tuple(range(..)), xs.index(x) -/
namespace DL
open PySem PySem.Spec PyProof.Rows L2
section
variable {X : Cx} {ec : EC} {W : WX} {e b : Expr} {pos p p2 q apos : Pos} {φ ψ : EX}
theorem de_tupRg1 (hc : X.calm = true) (hg : Gl X "tuple") (hm : X.mg "tuple" = none) (hg2 : Gl X "range") (hm2 : X.mg "range" = none) (ha : DX X ec W e φ) (na : starEach [e] X.env = (false, eval e X.env) :: starEach [] X.env := by rfl)
    (nb : starEach [.Call (.Name "range" p2) [e] [] q] X.env = (false, eval (.Call (.Name "range" p2) [e] [] q) X.env) :: starEach [] X.env := by rfl) : DE X ec W (.Call (.Name "tuple" p) [.Call (.Name "range" p2) [e] [] q] [] pos) (v1 dTupRg1 φ) :=
  peImp (pe_tupRg hc hg hm (prg_1 hg2 hm2 ha na) nb) fun σ H Q ⟨r, F, F0, B, S, q⟩ => by
    refine ⟨r, F, F0, B, S, (Thn.bind q).imp fun x F1 H1 ex1 g1 h1 v rv => ?_⟩
    obtain ⟨d, ex, k⟩ := h1.po
    unfold dTupRg1 at ex
    obtain ⟨xs, ex, rfl⟩ := Option.map_eq_some_iff.mp ex
    unfold lRange1 at ex
    split at ex
    · rename_i j _
      split at ex
      · rename_i hj
        cases ex
        refine ⟨j, rv, small_ok (by decide) hj.1 (by simpa using hj.2), fun q hq => ?_⟩
        have g' := Gr.new g1.i hq (.tup (rgV 0 j))
        have h := rgV_rng (K := X.K) (F := F1) 0 j
        rw [Int.sub_zero] at h
        exact k _ _ g' (.ref q) ⟨q, _, rfl, upd_same, h.mono g'.f⟩
      · cases ex
    · cases ex
theorem de_tupRg2 (hc : X.calm = true) (hg : Gl X "tuple") (hm : X.mg "tuple" = none) (hg2 : Gl X "range") (hm2 : X.mg "range" = none) (ha : DX X ec W e φ) (hb : DX X ec W b ψ) (na : starEach [e, b] X.env = (false, eval e X.env) :: starEach [b] X.env := by rfl) (na2 : starEach [b] X.env = (false, eval b X.env) :: starEach [] X.env := by rfl)
    (hp : (backTo q (starEach [b] X.env)).any (·.1) = false := by rfl)
    (nb : starEach [.Call (.Name "range" p2) [e, b] [] q] X.env = (false, eval (.Call (.Name "range" p2) [e, b] [] q) X.env) :: starEach [] X.env := by rfl) : DE X ec W (.Call (.Name "tuple" p) [.Call (.Name "range" p2) [e, b] [] q] [] pos) (v2 dTupRg2 φ ψ) :=
  peImp (pe_tupRg hc hg hm (prg_2 hg2 hm2 ha hb na na2 hp) nb) fun σ H Q ⟨r, F, F0, B, S, q⟩ => by
    refine ⟨r, F, F0, B, S, (Thn.bind q).imp fun x F1 H1 ex1 g1 h1 v rv => ⟨r, F1, F0, B, S.grow g1, (Thn.bind h1).imp fun y F2 H2 ey g2 h2 u ru => ?_⟩⟩
    obtain ⟨d, ex, k⟩ := h2.po
    unfold dTupRg2 at ex
    obtain ⟨xs, ex, rfl⟩ := Option.map_eq_some_iff.mp ex
    unfold lRange2 at ex
    split at ex
    · rename_i i j _
      split at ex
      · rename_i hj
        cases ex
        refine ⟨i, j, rv, ru, small_ok hj.1 hj.2.1 hj.2.2, fun q hq => ?_⟩
        have g' := Gr.new g2.i hq (.tup (rgV i j))
        exact k _ _ g' (.ref q) ⟨q, _, rfl, upd_same, (rgV_rng i j).mono g'.f⟩
      · cases ex
    · cases ex
theorem find_first {ds : List D} {t : D → Bool} {j : Nat} (h : ds.findIdx? t = some j) : ∃ z, ds[j]? = some z ∧ t z = true ∧ ∀ m z', m < j → ds[m]? = some z' → t z' = false := by
  obtain ⟨hj, h1, h2⟩ := List.findIdx?_eq_some_iff_getElem.mp h
  refine ⟨ds[j], List.getElem?_eq_getElem hj, h1, fun m z' hm hz => ?_⟩
  obtain ⟨hl, rfl⟩ := List.getElem?_eq_some_iff.mp hz
  have := h2 m hm
  simpa using this
theorem de_index (hu : X.A.units + 65 < cLine) (ha : DX X ec W e φ) (hb : DX X ec W b ψ) (h1 : attributeBase e "index" X.env (eval e X.env) = eval e X.env := by rfl)
    (h2 : ((((backTo pos (starEach [b] X.env)).all fun x => !x.fst) && (backToKw pos (keywordEach [] X.env)).all fun x => x.fst.isSome) && decide (([b].length + ([] : List Keyword).length + if ([] : List Keyword).isEmpty = true then 0 else 1) < 30)) = true := by rfl) (h3 : (apos.endLine == pos.line) = true := by rfl) (h4 : starEach [b] X.env = (false, eval b X.env) :: starEach [] X.env := by rfl) (h5 : ((backTo pos (starEach [] X.env)).any fun x => x.fst) = false := by rfl) :
    DE X ec W (.Call (.Attribute e "index" apos) [b] [] pos) (vIndex φ ψ) :=
  peImp (pe_bm F.plainAttrs_list F.slot_list_index F.type_list_index (mt_indexD hu) ha (pa_cons hb pa_nil h4) h1 h2 h3 h4 h5) fun σ H Q ⟨r, F, F0, B, S, q⟩ => by
    refine ⟨r, F, F0, B, S, (Thn.bind q).imp fun x F1 H1 ex1 g1 h1 v rv => ?_⟩
    split at h1
    · rename_i ds
      refine ⟨?_, r, F1, F0, B, S.grow g1, (Thn.bind h1).imp fun y F2 H2 ey g2 h2 u ru => ?_⟩
      · obtain ⟨a, vs, rfl, h, _⟩ := rv
        exact .inl ⟨rfl, vs, h⟩
      · obtain ⟨d, ex, k⟩ := h2.po
        unfold dIndexOf at ex
        dsimp only at ex
        split at ex
        · rename_i hs
          rw [Bool.and_eq_true] at hs
          obtain ⟨j, hj, rfl⟩ := Option.map_eq_some_iff.mp ex
          obtain ⟨z, z1, z2, z3⟩ := find_first hj
          have rv2 := RepX.mono g2 rv
          obtain ⟨a, vs, rfl, _⟩ := id rv2
          exact ⟨a, u, y, ds, j, z, rfl, rfl, RepX.dp g2.i rv2 hs.1, ru.dp g2.i hs.2, hs.1, hs.2, z1, z2, z3, k F2 H2 (Gr.refl g2.i) _ rfl⟩
        · cases ex
    · exact False.elim h1
end
end DL
/-! Rules for working the functions of data out. -/
namespace DL
open PySem
/-! ### each combinator at an environment -/
section
variable {r : Env} {a b c e : EX} {l m : EL} {t u : EB} {as : List EX} {p q : SX} {i j : Nat} {x : D} {f : D → Option D} {g : D → D → Option D} {ft fu : D → D → Option Bool} {gt : D → Option Bool} {gl : D → Option (List D)} {hl : D → D → Option (List D)}
theorem e_vVar : vVar i r = (match r[i]? with | some (.d x) => ok x | some (.tg xs) => ok (.list xs) | _ => none) := (rfl)
theorem e_vRd : vRd i r = (match r[i]? with | some (.d x) => ok x | some (.own xs) => ok (.list xs) | some (.tg xs) => ok (.list xs) | some (.io _ xs) => ok (.list xs) | _ => none) := (rfl)
theorem e_vC : vC x r = ok x := (rfl)
theorem e_v1 : v1 f a r = rb (a r) fun x => po (f x) := (rfl)
theorem e_v2 : v2 g a b r = rb (a r) fun x => rb (b r) fun y => po (g x y) := (rfl)
theorem e_c1 : c1 gt a r = rb (a r) fun x => po (gt x) := (rfl)
theorem e_c2 : c2 ft a b r = rb (a r) fun x => rb (b r) fun y => po (ft x y) := (rfl)
theorem e_l1 : l1 gl a r = rb (a r) fun x => po (gl x) := (rfl)
theorem e_l2 : l2 hl a b r = rb (a r) fun x => rb (b r) fun y => po (hl x y) := (rfl)
theorem e_vL : vL l r = rb (l r) fun xs => ok (.list xs) := (rfl)
theorem e_vB : vB t r = rb (t r) fun b => ok (.bool b) := (rfl)
theorem e_vArgs0 : vArgs [] r = ok [] := (rfl)
theorem e_vArgs : vArgs (a :: as) r = rb (a r) fun x => rb (vArgs as r) fun xs => ok (x :: xs) := (rfl)
theorem e_vTup : vTup as r = rb (vArgs as r) fun xs => ok (.tuple xs) := (rfl)
theorem e_vCall {f : List D → R D} : vCall f as r = rb (vArgs as r) f := (rfl)
theorem e_vIf : vIf t a b r = rb (t r) fun k => if k = true then a r else b r := (rfl)
theorem e_bTr : bTr a r = rb (a r) fun x => po (dTr x) := (rfl)
theorem e_bNot : bNot t r = rb (t r) fun b => ok (!b) := (rfl)
theorem e_bAnd : bAnd t u r = rb (t r) fun k => if k = true then u r else ok false := (rfl)
theorem e_bOr : bOr t u r = rb (t r) fun k => if k = true then ok true else u r := (rfl)
theorem e_bChain : bChain ft fu a b c r = rb (a r) fun x => rb (b r) fun y => rb (po (ft x y)) fun k => if k = true then rb (c r) fun z => po (fu y z) else ok false := (rfl)
theorem e_iSeq : iSeq a r = rb (a r) fun x => po (seqOf x) := (rfl)
theorem e_iEnumE : iEnumE a r = rb (a r) fun x => po (enum1 x) := (rfl)
theorem e_iRange1 : iRange1 a r = rb (a r) fun x => po (rng1 x) := (rfl)
theorem e_iRange2 : iRange2 a b r = rb (a r) fun x => rb (b r) fun y => po (rng2 x y) := (rfl)
theorem e_vCut {lo hi : Option EX} : vCut a lo hi r = rb (a r) fun x => rb (vOpt lo r) fun i => rb (vOpt hi r) fun j => po (dCut i j x) := (rfl)
theorem e_vOpt0 : vOpt none r = ok none := (rfl)
theorem e_vOpt : vOpt (some a) r = rb (a r) fun x => match x with | .int i => ok (some i) | _ => none := (rfl)
theorem e_sNx : sNx r = some (.nx r) := (rfl)
theorem e_sBk : sBk r = some (.bk r) := (rfl)
theorem e_sCt : sCt r = some (.ct r) := (rfl)
theorem e_sSeq : sSeq p q r = (match p r with | some (.nx r1) => q r1 | o => o) := (rfl)
theorem e_sSet : sSet i a r = so (a r) r fun x => some (.nx (r.set i (.d x))) := (rfl)
theorem e_sOwn : sOwn i l r = so (l r) r fun xs => some (.nx (r.set i (.own xs))) := (rfl)
theorem e_sPut {g : Tg} : sPut g a r = so (a r) r fun x => (g.put x r).map .nx := (rfl)
theorem e_sFreeze : sFreeze i r = some (.nx (frz i r)) := (rfl)
theorem e_sRet : sRet a r = so (a r) r fun x => some (.rt x) := (rfl)
theorem e_sExpr : sExpr a r = so (a r) r fun _ => some (.nx r) := (rfl)
theorem e_sIf : sIf t p q r = so (t r) r fun k => if k = true then p r else q r := (rfl)
theorem e_sApp : sApp i a r = (match r[i]? with | some (.own xs) => so (a r) r fun x => if xs.length < lim then some (.nx (r.set i (.own (xs ++ [x])))) else none | some (.io b xs) => so (a r) r fun x => if xs.length < lim then some (.nx (r.set i (.io b (xs ++ [x])))) else none | _ => none) := (rfl)
theorem e_sPar : sPar i j a b r = so (vArgs [a, b] r) r fun xs => match xs with | [x, y] => some (.nx ((r.set i (.d x)).set j (.d y))) | _ => none := (rfl)
theorem e_sSetIx : sSetIx i a b r = (match r[i]? with | some (.own xs) => so (b r) r fun x => so (a r) r fun j => (match j with | .int j => (match ixAt xs.length j with | some n => some (.nx (r.set i (.own (xs.set n x)))) | none => none) | _ => none) | some (.io d xs) => so (b r) r fun x => so (a r) r fun j => (match j with | .int j => (match ixAt xs.length j with | some n => some (.nx (r.set i (.io d (xs.set n x)))) | none => none) | _ => none) | _ => none) := (rfl)
theorem e_sFor {g : Tg} : sFor l g p r = so (l r) r fun xs => loopF g p xs r := (rfl)
theorem e_sErr {c : String} : sErr c r = some (.er ⟨c, none⟩ r) := (rfl)
theorem e_sTry {tab : List ((String × String) × Bool)} {hs : List (String × SX)} : sTry tab p hs r = (match p r with | some (.er e r1) => pickH tab e r1 hs | o => o) := (rfl)
theorem e_sRetL : sRetL l r = so (l r) r fun xs => some (.rl xs) := (rfl)
theorem e_uX {α : Type} {a : Env → R α} : uX a r = up r (a r) := (rfl)
section
variable {a b : ES D} {as : List (ES D)} {k : ES Bool} {m : ES Bool} {l : ES (List D)}
theorem e_w1 : w1 f a r = sb (a r) fun x r1 => up r1 (po (f x)) := (rfl)
theorem e_w2 : w2 g a b r = sb (a r) fun x r1 => sb (b r1) fun y r2 => up r2 (po (g x y)) := (rfl)
theorem e_wc2 : wc2 ft a b r = sb (a r) fun x r1 => sb (b r1) fun y r2 => up r2 (po (ft x y)) := (rfl)
theorem e_wl1 : wl1 gl a r = sb (a r) fun x r1 => up r1 (po (gl x)) := (rfl)
theorem e_wl2 : wl2 hl a b r = sb (a r) fun x r1 => sb (b r1) fun y r2 => up r2 (po (hl x y)) := (rfl)
theorem e_wL : wL l r = sb (l r) fun xs r1 => okS (.list xs) r1 := (rfl)
theorem e_wB : wB k r = sb (k r) fun b r1 => okS (.bool b) r1 := (rfl)
theorem e_wTr : wTr a r = sb (a r) fun x r1 => up r1 (po (dTr x)) := (rfl)
theorem e_wNot : wNot k r = sb (k r) fun b r1 => okS (!b) r1 := (rfl)
theorem e_wAnd : wAnd k m r = sb (k r) fun x r1 => if x = true then m r1 else okS false r1 := (rfl)
theorem e_wOr : wOr k m r = sb (k r) fun x r1 => if x = true then okS true r1 else m r1 := (rfl)
theorem e_wIf : wIf k a b r = sb (k r) fun x r1 => if x = true then a r1 else b r1 := (rfl)
theorem e_wArgs0 : wArgs [] r = okS [] r := (rfl)
theorem e_wArgs : wArgs (a :: as) r = sb (a r) fun x r1 => sb (wArgs as r1) fun xs r2 => okS (x :: xs) r2 := (rfl)
theorem e_wTup : wTup as r = sb (wArgs as r) fun xs r1 => okS (.tuple xs) r1 := (rfl)
theorem e_wCall {f : List D → R D} : wCall f as r = sb (wArgs as r) fun xs r1 => up r1 (f xs) := (rfl)
theorem e_zSet : zSet i a r = soS (a r) fun x r1 => some (.nx (r1.set i (.d x))) := (rfl)
theorem e_zOwn : zOwn i l r = soS (l r) fun xs r1 => some (.nx (r1.set i (.own xs))) := (rfl)
theorem e_zPut {g : Tg} : zPut g a r = soS (a r) fun x r1 => (g.put x r1).map .nx := (rfl)
theorem e_zRet : zRet a r = soS (a r) fun x r1 => some (.ri x r1) := (rfl)
theorem e_zRt : zRt a r = soS (a r) fun x _ => some (.rt x) := (rfl)
theorem e_zExpr : zExpr a r = soS (a r) fun _ r1 => some (.nx r1) := (rfl)
theorem e_zIf : zIf k p q r = soS (k r) fun x r1 => if x = true then p r1 else q r1 := (rfl)
theorem e_zFor {g : Tg} : zFor l g p r = soS (l r) fun xs r1 => loopF g p xs r1 := (rfl)
end
theorem po_some {α : Type} (a : α) : po (some a) = ok a := (rfl)
theorem isi_int (n : String) (k : Int) : cIsi n (.int k) = some ("int" == n || (n == "int" && "int" == "bool")) := (rfl)
end
theorem put_one (i : Nat) (x : D) (r : Env) : (Tg.one i).put x r = some (r.set i (.d x)) := (rfl)
/-- a loop all of whose turns go on -/
theorem loop_nx {g : Tg} {b : SX} (I : Nat → Env → Prop) : ∀ (xs : List D) (n : Nat) (r : Env), I n r →
    (∀ k x r, xs[k]? = some x → I (n + k) r → ∃ r1 r2, g.put x r = some r1 ∧ b r1 = some (.nx r2) ∧ I (n + k + 1) r2) → ∃ r', loopF g b xs r = some (.nx r') ∧ I (n + xs.length) r'
  | [], n, r, h, _ => ⟨r, rfl, h⟩
  | x :: xs, n, r, h, st => by
    obtain ⟨r1, r2, h1, h2, h3⟩ := st 0 x r rfl h
    obtain ⟨r', h4, h5⟩ := loop_nx I xs (n + 1) r2 h3 fun k y r hk hr => by
      have := st (k + 1) y r hk (by rw [show n + (k + 1) = n + 1 + k by omega]; exact hr)
      rw [show n + (k + 1) = n + 1 + k by omega] at this
      exact this
    refine ⟨r', ?_, by rw [List.length_cons, show n + (xs.length + 1) = n + 1 + xs.length by omega]; exact h5⟩
    unfold loopF
    rw [h1]
    dsimp only
    rw [h2]
    exact h4
/-- the list of what is kept -/
theorem comp_filter {i : Nat} {t : EB} {e : EX} {r : Env} {T : D → Bool} {G : D → D} : ∀ (xs : List D), (∀ x ∈ xs, t (r.set i (.d x)) = ok (T x)) → (∀ x ∈ xs, T x = true → e (r.set i (.d x)) = ok (G x)) → compL (.one i) t e r xs = ok ((xs.filter T).map G)
  | [], _, _ => rfl
  | x :: xs, ht, he => by
    have ih := comp_filter xs (fun y hy => ht y (List.mem_cons_of_mem _ hy)) (fun y hy => he y (List.mem_cons_of_mem _ hy))
    unfold compL
    rw [put_one]
    dsimp only
    rw [ht x List.mem_cons_self, rb_ok, List.filter_cons]
    split
    · rename_i h
      rw [he x List.mem_cons_self h, rb_ok, ih, rb_ok, List.map_cons]
    · exact ih
theorem comp_map {i : Nat} {e : EX} {r : Env} {G : D → D} (xs : List D) (he : ∀ x ∈ xs, e (r.set i (.d x)) = ok (G x)) : compL (.one i) bYes e r xs = ok (xs.map G) := by
  have h := comp_filter (i := i) (t := bYes) (e := e) (r := r) (T := fun _ => true) (G := G) xs (fun _ _ => rfl) fun x hx _ => he x hx
  rw [h, List.filter_eq_self.mpr fun _ _ => rfl]
theorem lcomp_map {it : EL} {i : Nat} {e : EX} {r : Env} {xs : List D} (G : D → D) (hi : it r = ok xs) (hl : xs.length ≤ lim) (he : ∀ x ∈ xs, e ((r.set i .un).set i (.d x)) = ok (G x)) : lComp it (.one i) bYes e r = ok (xs.map G) := by
  unfold lComp
  rw [hi, rb_ok, if_pos hl]
  show noEr (compL (.one i) bYes e (r.set i .un) xs) = _
  rw [comp_map xs he]
  rfl
theorem lcomp_filter {it : EL} {i : Nat} {t : EB} {e : EX} {r : Env} {xs : List D} (T : D → Bool) (G : D → D) (hi : it r = ok xs) (hl : xs.length ≤ lim) (ht : ∀ x ∈ xs, t ((r.set i .un).set i (.d x)) = ok (T x)) (he : ∀ x ∈ xs, T x = true → e ((r.set i .un).set i (.d x)) = ok (G x)) : lComp it (.one i) t e r = ok ((xs.filter T).map G) := by
  unfold lComp
  rw [hi, rb_ok, if_pos hl]
  show noEr (compL (.one i) t e (r.set i .un) xs) = _
  rw [comp_filter xs ht he]
  rfl
theorem bools_map (xs : List D) (f : D → Bool) : bools (xs.map fun x => .bool (f x)) = some (xs.map f) := by
  induction xs with
  | nil => rfl
  | cons x xs ih => rw [List.map_cons, List.map_cons]; unfold bools; rw [ih]; rfl
theorem cAll_map (xs : List D) (f : D → Bool) : cAll (.list (xs.map fun x => .bool (f x))) = some (xs.all f) := by
  show (match bools (xs.map fun x => .bool (f x)) with | some bs => some (bs.all id) | none => none) = _
  rw [bools_map]
  dsimp only
  rw [List.all_map]
  rfl
theorem eq_int (i j : Int) : cEq (.int i) (.int j) = some (i == j) := (rfl)
/-! ### numbers and tuples -/
def isNum (lo hi : Int) : D → Bool
  | .int i => decide (lo ≤ i) && decide (i ≤ hi)
  | _ => false
def isTup (n : Int) : D → Bool
  | .tuple xs => ((xs.length : Nat) : Int) == n
  | _ => false
theorem isNum_int {lo hi : Int} {d : D} (h : isNum lo hi d = true) : ∃ i, d = .int i ∧ lo ≤ i ∧ i ≤ hi := by
  cases d with
  | int i => simp only [isNum, Bool.and_eq_true, decide_eq_true_eq] at h; exact ⟨i, rfl, h⟩
  | _ => cases h
/-! ### each once -/
def fresh : List D → List D → Bool
  | _, [] => true
  | seen, x :: xs => !(seen.any fun z => PyData.eqv z x) && fresh (seen ++ [x]) xs
theorem unlike_len : ∀ (xs seen : List D), (unlike seen xs).length ≤ seen.length + xs.length ∧ (((unlike seen xs).length == seen.length + xs.length) = fresh seen xs)
  | [], seen => by simp [unlike, fresh]
  | x :: xs, seen => by
    unfold unlike fresh
    split
    · rename_i h
      obtain ⟨h1, h2⟩ := unlike_len xs seen
      refine ⟨by rw [List.length_cons]; omega, ?_⟩
      rw [h]
      have : (unlike seen xs).length ≠ seen.length + (x :: xs).length := by rw [List.length_cons]; omega
      simpa using this
    · rename_i h
      obtain ⟨h1, h2⟩ := unlike_len xs (seen ++ [x])
      have e : seen.length + (x :: xs).length = (seen ++ [x]).length + xs.length := by simp only [List.length_append, List.length_cons, List.length_nil]; omega
      rw [e, h2]
      refine ⟨h1, ?_⟩
      simp [h]
theorem fresh_iff : ∀ (xs seen : List D), fresh seen xs = true ↔ ∀ k x, xs[k]? = some x → ((seen ++ xs.take k).any fun z => PyData.eqv z x) = false
  | [], seen => by simp [fresh]
  | x :: xs, seen => by
    unfold fresh
    rw [Bool.and_eq_true, fresh_iff xs (seen ++ [x])]
    constructor
    · rintro ⟨h1, h2⟩ k y hk
      cases k with
      | zero =>
        cases hk
        simpa using h1
      | succ k =>
        have := h2 k y hk
        simpa using this
    · intro h
      refine ⟨?_, fun k y hk => ?_⟩
      · have := h 0 x rfl
        simpa using this
      · have := h (k + 1) y hk
        simpa using this
theorem fresh_snoc {xs : List D} {x : D} (h : fresh [] xs = true) (hx : (xs.any fun z => PyData.eqv z x) = false) : fresh [] (xs ++ [x]) = true := by
  rw [fresh_iff] at h ⊢
  intro k y hk
  rcases Nat.lt_trichotomy k xs.length with c | c | c
  · rw [List.getElem?_append_left c] at hk
    rw [List.take_append_of_le_length (Nat.le_of_lt c)]
    exact h k y hk
  · subst c
    rw [List.getElem?_append_right (Nat.le_refl _), Nat.sub_self] at hk
    cases hk
    rw [List.take_left']
    · exact hx
    · rfl
  · rw [List.getElem?_eq_none (by rw [List.length_append]; exact c)] at hk
    cases hk
/-! ### the size of data: how deep, how many parts -/
def lv : Nat → D → Bool
  | 0, .list _ => false
  | 0, .tuple _ => false
  | n + 1, .list xs => xs.all (lv n)
  | n + 1, .tuple xs => xs.all (lv n)
  | _, _ => true
theorem lv_up : ∀ (n m : Nat) {d : D}, n ≤ m → lv n d = true → lv m d = true := by
  intro n
  induction n with
  | zero => intro m d _ h; cases d <;> cases m <;> first | rfl | cases h
  | succ n ih =>
    intro m d hm h
    obtain ⟨m, rfl⟩ : ∃ k, m = k + 1 := ⟨m - 1, by omega⟩
    cases d with
    | list xs => exact List.all_eq_true.mpr fun x hx => ih m (by omega) (List.all_eq_true.mp (show xs.all (lv n) = true from h) x hx)
    | tuple xs => exact List.all_eq_true.mpr fun x hx => ih m (by omega) (List.all_eq_true.mp (show xs.all (lv n) = true from h) x hx)
    | _ => rfl
mutual
def wt : D → Nat
  | .list xs => 1 + wts xs
  | .tuple xs => 1 + wts xs
  | _ => 1
def wts : List D → Nat
  | [] => 0
  | x :: xs => wt x + wts xs
end
theorem wts_app (xs ys : List D) : wts (xs ++ ys) = wts xs + wts ys := by
  induction xs with
  | nil => simp [wts]
  | cons x xs ih => rw [List.cons_append, wts, wts, ih]; omega
theorem wt_pos (d : D) : 1 ≤ wt d := by cases d <;> simp [wt]
theorem wts_len (xs : List D) : xs.length ≤ wts xs := by
  induction xs with
  | nil => exact Nat.zero_le _
  | cons x xs ih => have := wt_pos x; rw [wts, List.length_cons]; omega
theorem wts_take (xs : List D) (n : Nat) : wts (xs.take n) + wts (xs.drop n) = wts xs := by rw [← wts_app, List.take_append_drop]
/-! ### operations on numbers -/
theorem int_int (i : Int) : dInt (.int i) = some (.int i) := (rfl)
theorem add_int (i j : Int) : dAdd (.int i) (.int j) = some (.int (i + j)) := (rfl)
theorem sub_int (i j : Int) : dSub (.int i) (.int j) = some (.int (i - j)) := (rfl)
theorem neg_int (i : Int) : dNeg (.int i) = some (.int (-i)) := (rfl)
theorem lt_int (i j : Int) : cLt (.int i) (.int j) = some (decide (i < j)) := (rfl)
theorem le_int (i j : Int) : cLe (.int i) (.int j) = some (decide (i ≤ j)) := (rfl)
theorem gt_int (i j : Int) : cGt (.int i) (.int j) = some (decide (j < i)) := (rfl)
theorem ge_int (i j : Int) : cGe (.int i) (.int j) = some (decide (j ≤ i)) := (rfl)
theorem min_int (i j : Int) : dMin (.int i) (.int j) = some (.int (if j < i then j else i)) := (rfl)
theorem max_int (i j : Int) : dMax (.int i) (.int j) = some (.int (if j > i then j else i)) := (rfl)
theorem ne_int (i j : Int) : cNe (.int i) (.int j) = some (!(i == j)) := (rfl)
theorem mod_int (i j : Int) (h : 0 < j) : dMod (.int i) (.int j) = some (.int (i % j)) := if_pos h
theorem div_int (i j : Int) (h : 0 < j) (h2 : j < 1073741824) : dDiv (.int i) (.int j) = some (.int (i / j)) := if_pos ⟨h, h2⟩
theorem mulL (i j : Int) (h : small64 i = true) : dMul (.int i) (.int j) = some (.int (i * j)) := if_pos (by rw [h]; rfl)
theorem mulR (i j : Int) (h : small64 j = true) : dMul (.int i) (.int j) = some (.int (i * j)) := if_pos (by rw [h, Bool.or_true])
theorem small_mod (i m : Int) (h : 0 < m) (h2 : m < 18446744073709551616) : small64 (i % m) = true := by
  have h3 := Int.emod_nonneg i (Int.ne_of_gt h)
  have h4 := Int.emod_lt_of_pos i h
  have h5 : -(2 ^ 64 : Int) < i % m := by omega
  have h6 : i % m < (2 ^ 64 : Int) := by omega
  simp only [small64, h5, h6, decide_true, Bool.and_self]
theorem small_of (i : Int) (h1 : -18446744073709551616 < i) (h2 : i < 18446744073709551616) : small64 i = true := by
  have h5 : -(2 ^ 64 : Int) < i := by omega
  have h6 : i < (2 ^ 64 : Int) := by omega
  simp only [small64, h5, h6, decide_true, Bool.and_self]
theorem len_list (xs : List D) : dLen (.list xs) = some (.int (xs.length : Nat)) := (rfl)
theorem len_tup (xs : List D) : dLen (.tuple xs) = some (.int (xs.length : Nat)) := (rfl)
theorem enum_tup (xs : List D) : enum1 (.tuple xs) = some (enumL 0 xs) := (rfl)
theorem enum_list (xs : List D) : enum1 (.list xs) = some (enumL 0 xs) := (rfl)
theorem seq_list (xs : List D) : seqOf (.list xs) = some xs := (rfl)
theorem seq_tup (xs : List D) : seqOf (.tuple xs) = some xs := (rfl)
theorem cut_list (lo hi : Option Int) (xs : List D) : dCut lo hi (.list xs) = some (.list (cutD xs lo hi)) := (rfl)
theorem cut_tup (lo hi : Option Int) (xs : List D) : dCut lo hi (.tuple xs) = some (.tuple (cutD xs lo hi)) := (rfl)
theorem tup_list (xs : List D) : dTup (.list xs) = some (.tuple xs) := (rfl)
theorem add_list (xs ys : List D) (h : (xs ++ ys).length ≤ lim) : dAdd (.list xs) (.list ys) = some (.list (xs ++ ys)) := if_pos h
theorem add_tup (xs ys : List D) (h : (xs ++ ys).length ≤ lim) : dAdd (.tuple xs) (.tuple ys) = some (.tuple (xs ++ ys)) := if_pos h
theorem tr_bool (b : Bool) : dTr (.bool b) = some b := (rfl)
/-! ### places -/
theorem at_nat (xs : List D) (k : Nat) : atD xs (k : Nat) = xs[k]? := by
  unfold atD ixAt
  by_cases h : k < xs.length
  · have h' : ((k : Nat) : Int) < ((xs.length : Nat) : Int) := by omega
    have h0 : (0 : Int) ≤ ((k : Nat) : Int) := by omega
    simp [h, List.getElem?_eq_getElem h]
  · have h0 : (0 : Int) ≤ ((k : Nat) : Int) := by omega
    simp [h]
theorem ixl (xs : List D) (k : Nat) : dIx (.list xs) (.int (k : Nat)) = xs[k]? := at_nat xs k
theorem ixt (xs : List D) (k : Nat) : dIx (.tuple xs) (.int (k : Nat)) = xs[k]? := at_nat xs k
theorem ix_mem (xs : List D) (v : Int) (h0 : 0 ≤ v) (h : v < (xs.length : Nat)) : ∃ d ∈ xs, dIx (.list xs) (.int v) = some d := by
  obtain ⟨k, rfl⟩ : ∃ k : Nat, v = k := ⟨v.toNat, by omega⟩
  have hk : k < xs.length := by omega
  exact ⟨xs[k], List.getElem_mem hk, by rw [ixl, List.getElem?_eq_getElem hk]⟩
theorem cutD_sub {xs : List D} {lo hi : Option Int} {x : D} (h : x ∈ cutD xs lo hi) : x ∈ xs := List.mem_of_mem_drop (List.mem_of_mem_take h)
theorem wts_cut (xs : List D) (lo hi : Option Int) : wts (cutD xs lo hi) ≤ wts xs := by
  have h1 := wts_take xs (cutAt xs.length 0 lo)
  have h2 := wts_take (xs.drop (cutAt xs.length 0 lo)) (cutAt xs.length xs.length hi - cutAt xs.length 0 lo)
  unfold cutD
  omega
theorem cut_len (xs : List D) (lo hi : Option Int) : (cutD xs lo hi).length ≤ xs.length := by
  unfold cutD
  rw [List.length_take, List.length_drop]
  omega
theorem cut_from1 (x : D) (xs : List D) (hi : Option Int) : (cutD (x :: xs) (some 1) hi).length ≤ xs.length := by
  have : cutAt (x :: xs).length 0 (some 1) = 1 := by
    unfold cutAt
    simp only [List.length_cons]
    rw [if_neg (by omega)]
    omega
  unfold cutD
  rw [this, List.length_take, List.length_drop, List.length_cons]
  omega
theorem cut_to (xs : List D) (k : Nat) (h : k ≤ xs.length) : cutD xs none (some ((k : Nat) : Int)) = xs.take k := by
  have h0 : ¬ ((k : Nat) : Int) < 0 := by omega
  have : cutAt xs.length xs.length (some ((k : Nat) : Int)) = k := by
    unfold cutAt
    dsimp only
    rw [if_neg h0]
    omega
  unfold cutD
  rw [this]
  rfl
theorem cut_from (xs : List D) (k : Nat) (h : k ≤ xs.length) : cutD xs (some ((k : Nat) : Int)) none = xs.drop k := by
  have h0 : ¬ ((k : Nat) : Int) < 0 := by omega
  have : cutAt xs.length 0 (some ((k : Nat) : Int)) = k := by
    unfold cutAt
    dsimp only
    rw [if_neg h0]
    omega
  unfold cutD
  rw [this]
  show (xs.drop k).take (xs.length - k) = _
  rw [List.take_of_length_le (by rw [List.length_drop]; exact Nat.le_refl _)]
theorem rng_at (lo : Int) (n k : Nat) (h : k < n) : (rng lo n)[k]? = some (.int (lo + k)) := by
  unfold rng
  rw [List.getElem?_map, List.getElem?_range h]
  rfl
theorem rng_size (lo : Int) (n : Nat) : (rng lo n).length = n := by
  unfold rng
  rw [List.length_map, List.length_range]
theorem rng_mem {n : Nat} {x : D} (h : x ∈ rng 0 n) : ∃ k : Nat, k < n ∧ x = .int (k : Nat) := by
  unfold rng at h
  obtain ⟨k, hk, e⟩ := List.mem_map.mp h
  exact ⟨k, List.mem_range.mp hk, by rw [← e]; simp⟩
theorem small_nat {n : Nat} (h : n ≤ lim) : small62 ((n : Nat) : Int) = true := by
  have h1 : -(2 ^ 62 : Int) ≤ ((n : Nat) : Int) := by omega
  have h2 : ((n : Nat) : Int) < 2 ^ 62 := by have : lim = 16777216 := rfl; omega
  simp only [small62, h1, h2, decide_true, Bool.and_self]
theorem rng1_nat {n : Nat} (h : n ≤ lim) : rng1 (.int (n : Nat)) = some (rng 0 n) := by simp only [rng1, small_nat h, if_true, Int.toNat_natCast]
theorem lrng1_nat {n : Nat} (h : n ≤ lim) : lRange1 (.int (n : Nat)) = some (rng 0 n) := by simp only [lRange1, small_nat h, Int.toNat_natCast, h, and_self, if_true]
theorem loop_out {g : Tg} {b : SX} {xs : List D} {r : DL.Env} {L : Option Out} (hL : loopF g b xs r = L) (I : Nat → DL.Env → Prop) (h0 : I 0 r)
    (st : ∀ k x r, xs[k]? = some x → I k r → ∃ r1 r2, g.put x r = some r1 ∧ b r1 = some (.nx r2) ∧ I (k + 1) r2) : ∃ r', L = some (.nx r') ∧ I xs.length r' := by
  obtain ⟨r', h1, h2⟩ := loop_nx (g := g) (b := b) I xs 0 r h0 (fun k x r hx hI => by
    rw [Nat.zero_add] at hI ⊢
    exact st k x r hx hI)
  rw [Nat.zero_add] at h2
  exact ⟨r', hL ▸ h1, h2⟩
theorem enum_len : ∀ (xs : List D) (k : Nat), (enumL k xs).length = xs.length
  | [], _ => rfl
  | x :: xs, k => by rw [enumL, List.length_cons, List.length_cons, enum_len xs]
theorem rng_cons (lo : Int) (n : Nat) : rng lo (n + 1) = .int lo :: rng (lo + 1) n := by
  unfold rng
  rw [List.range_succ_eq_map, List.map_cons, List.map_map]
  congr 1
  · simp
  · refine List.map_congr_left fun k _ => ?_
    simp only [Function.comp]
    rw [show lo + ((k + 1 : Nat) : Int) = lo + 1 + (k : Int) by omega]
/-- over enumerate(..), the numbers kept -/
theorem comp_enum {i j : Nat} {t : EB} {e : EX} {r : DL.Env} {T : D → Bool} : ∀ (xs : List D) (n : Nat),
    (∀ k x, xs[k]? = some x → t ((r.set i (.d (.int ((n + k : Nat) : Int)))).set j (.d x)) = ok (T (.int ((n + k : Nat) : Int)))) →
    (∀ k x, xs[k]? = some x → e ((r.set i (.d (.int ((n + k : Nat) : Int)))).set j (.d x)) = ok (.int ((n + k : Nat) : Int))) → compL (.many [i, j]) t e r (enumL n xs) = ok ((rng (n : Nat) xs.length).filter T)
  | [], n, _, _ => rfl
  | x :: xs, n, ht, he => by
    have ih := comp_enum (i := i) (j := j) (t := t) (e := e) (r := r) (T := T) xs (n + 1) (fun k y hk => by
      have := ht (k + 1) y hk
      rw [show n + (k + 1) = n + 1 + k by omega] at this
      exact this) (fun k y hk => by
      have := he (k + 1) y hk
      rw [show n + (k + 1) = n + 1 + k by omega] at this
      exact this)
    have h0 := ht 0 x rfl
    have h1 := he 0 x rfl
    rw [Nat.add_zero] at h0 h1
    rw [enumL]
    show (match (Tg.many [i, j]).put (.tuple [.int n, x]) r with | none => none | some r1 => rb (t r1) fun k => if k = true then rb (e r1) fun y => rb (compL (.many [i, j]) t e r (enumL (n + 1) xs)) fun ys => ok (y :: ys) else compL (.many [i, j]) t e r (enumL (n + 1) xs)) = _
    have hp : (Tg.many [i, j]).put (.tuple [.int n, x]) r = some ((r.set i (.d (.int n))).set j (.d x)) := rfl
    rw [hp]
    dsimp only
    rw [h0, rb_ok, ih, List.length_cons, rng_cons, List.filter_cons]
    split
    · rw [h1, rb_ok, rb_ok]
      rfl
    · rfl
/-- whole numbers, one from each -/
theorem comp_ints {g : Tg} {e : EX} {r : DL.Env} : ∀ (xs : List D), (∀ x ∈ xs, ∃ r1 i, g.put x r = some r1 ∧ e r1 = ok (.int i)) → ∃ ns : List Int, compL g bYes e r xs = ok (ns.map PyData.int) ∧ ns.length = xs.length
  | [], _ => ⟨[], rfl, rfl⟩
  | x :: xs, h => by
    obtain ⟨ns, h1, h2⟩ := comp_ints xs fun y hy => h y (List.mem_cons_of_mem _ hy)
    obtain ⟨r1, i, h3, h4⟩ := h x List.mem_cons_self
    refine ⟨i :: ns, ?_, by rw [List.length_cons, List.length_cons, h2]⟩
    unfold compL
    rw [h3]
    dsimp only
    show rb (ok true) _ = _
    rw [rb_ok, if_pos rfl, h4, rb_ok, h1, rb_ok]
    rfl
theorem lcomp_ints {it : EL} {i : Nat} {e : EX} {r : DL.Env} {xs : List D} (hi : it r = ok xs) (hl : xs.length ≤ lim) (he : ∀ x ∈ xs, ∃ k, e ((r.set i .un).set i (.d x)) = ok (.int k)) : ∃ ns : List Int, lComp it (.one i) bYes e r = ok (ns.map PyData.int) ∧ ns.length = xs.length := by
  obtain ⟨ns, h1, h2⟩ := comp_ints (g := .one i) (e := e) (r := r.set i .un) xs fun x hx => by
    obtain ⟨k, hk⟩ := he x hx
    exact ⟨_, k, rfl, hk⟩
  refine ⟨ns, ?_, h2⟩
  unfold lComp
  rw [hi, rb_ok, if_pos hl]
  show noEr (compL (.one i) bYes e (r.set i .un) xs) = _
  rw [h1]
  rfl
/-- each the parent of its node -/
def pOk : Nat → List D → Bool
  | _, [] => true
  | k, x :: xs => isNum (-1) ((k : Nat) - 1) x && pOk (k + 1) xs
theorem comp_pOk {i j : Nat} {e : EX} {r : DL.Env} : ∀ (xs : List D) (n : Nat), (∀ k x, xs[k]? = some x → e ((r.set i (.d (.int ((n + k : Nat) : Int)))).set j (.d x)) = ok (.bool (isNum (-1) (((n + k : Nat) : Int) - 1) x))) →
    ∃ L bs, compL (.many [i, j]) bYes e r (enumL n xs) = ok L ∧ bools L = some bs ∧ bs.all id = pOk n xs
  | [], n, _ => ⟨[], [], rfl, rfl, rfl⟩
  | x :: xs, n, he => by
    obtain ⟨L, bs, h1, h2, h3⟩ := comp_pOk (i := i) (j := j) (e := e) (r := r) xs (n + 1) (fun k y hk => by
      have := he (k + 1) y hk
      rw [show n + (k + 1) = n + 1 + k by omega] at this
      exact this)
    have h0 := he 0 x rfl
    rw [Nat.add_zero] at h0
    refine ⟨.bool (isNum (-1) ((n : Nat) - 1) x) :: L, isNum (-1) ((n : Nat) - 1) x :: bs, ?_, ?_, ?_⟩
    · rw [enumL]
      show (match (Tg.many [i, j]).put (.tuple [.int n, x]) r with | none => none | some r1 => rb (bYes r1) fun k => if k = true then rb (e r1) fun y => rb (compL (.many [i, j]) bYes e r (enumL (n + 1) xs)) fun ys => ok (y :: ys) else compL (.many [i, j]) bYes e r (enumL (n + 1) xs)) = _
      have hp : (Tg.many [i, j]).put (.tuple [.int n, x]) r = some ((r.set i (.d (.int n))).set j (.d x)) := rfl
      rw [hp]
      dsimp only
      show rb (ok true) _ = _
      rw [rb_ok, if_pos rfl, h0, rb_ok, h1, rb_ok]
    · unfold bools
      rw [h2]
      rfl
    · rw [List.all_cons, h3]
      rfl
end DL
/-! Working out what changes own lists. -/
namespace DL
open PySem
section
variable {r r1 r2 : DL.Env} {g : List Slot → RI} {as : List AArg} {i : Nat} {a : ES D}
theorem e_wCallI : wCallI g as r = sb (wArgI as r) fun bs r1 => callI g bs r1 := (rfl)
theorem e_wCallN {l : EL} : wCallN g l as r = sb (up r (l r)) fun xs r1 => sb (wArgI as r1) fun bs r2 => callN g xs bs r2 := (rfl)
theorem e_wArgI0 : wArgI [] r = okS [] r := (rfl)
theorem e_wArgIx : wArgI (.ex a :: as) r = sb (a r) fun x r1 => sb (wArgI as r1) fun xs r2 => okS (.d x :: xs) r2 := (rfl)
theorem e_wArgIo : wArgI (.io i :: as) r = (match ioXs r i with | some _ => sb (wArgI as r) fun xs r1 => okS (.io i :: xs) r1 | none => none) := (rfl)
theorem e_ioXs : ioXs r i = (match r[i]? with | some (.own xs) => some xs | some (.io _ xs) => some xs | _ => none) := (rfl)
theorem e_ioSet {l : List D} : ioSet r i l = (match r[i]? with | some s => r.set i (reslot s l) | none => r) := (rfl)
theorem resl_own (xs l : List D) : reslot (.own xs) l = .own l := (rfl)
theorem resl_io (b : Addr) (xs l : List D) : reslot (.io b xs) l = .io b l := (rfl)
theorem e_zApp : zApp i a r = (match ioXs r i with | some _ => soS (a r) fun x r1 => (match ioXs r1 i with | some xs => if xs.length < lim then some (.nx (ioSet r1 i (xs ++ [x]))) else none | none => none) | none => none) := (rfl)
theorem e_wPop : wPop i a r = (match ioXs r i with | some _ => sb (a r) fun d r1 => (match d, ioXs r1 i with | .int j, some xs => if 0 ≤ j ∧ j < xs.length ∧ xs.length ≤ lim then (match xs[j.toNat]? with | some y => okS y (ioSet r1 i (xs.eraseIdx j.toNat)) | none => none) else none | _, _ => none) | none => none) := (rfl)
theorem lCall_e {f : List D → R (List D)} {as : List EX} : lCall f as r = rb (vArgs as r) f := (rfl)
theorem callI_of {bs : List AV} {e : Except Err D} {ls : List (List D)} (S : (Nat → Addr) → List Slot) (h : ∀ ad, mkS r ad bs = some (S ad)) (hg : ∀ ad, g (S ad) = some (e, ls)) (hp : putB bs ls r = some r2) : callI g bs r = some (e, r2) := by
  unfold callI
  rw [allA_of (x := some (e, ls)) fun ad => by rw [h ad]; exact hg ad]
  simp only [hp]
theorem callN_of {xs l : List D} {bs : List AV} {e : Except Err D} {ls : List (List D)} (S : (Nat → Addr) → List Slot) (h : ∀ ad, mkS r ad bs = some (S ad)) (hg : ∀ ad, g (.io (ad r.length) xs :: S ad) = some (e, l :: ls)) (hp : putB bs ls r = some r2) : callN g xs bs r = some (e, r2) := by
  unfold callN
  rw [allA_of (x := some (e, l :: ls)) fun ad => by rw [h ad]; exact hg ad]
  simp only [hp]
/-- one list that is passed, then a datum -/
theorem call1 {xs l : List D} {d : D} {e : Except Err D} (hr : ioXs r i = some xs) (hg : ∀ b, g [.io b xs, .d d] = some (e, [l])) : callI g [.io i, .d d] r = some (e, ioSet r i l) :=
  callI_of (fun ad => [.io (ad i) xs, .d d]) (fun ad => by simp [mkS, hr]) (fun ad => hg _) rfl
end
/-- a comprehension whose items change own lists: the state s, whatever the addresses A -/
theorem compS {α σ : Type} {i : Nat} {e : ES D} (E : α → σ → DL.Env) (Q : D → Prop) (un : ∀ A s x, unSlots [i] ((E A s).set i (.d x)) = E A s) (I : σ → Prop)
    (turn : ∀ s x, I s → ∃ y s', Q y ∧ I s' ∧ ∀ A, e ((E A s).set i (.d x)) = some (.ok y, (E A s').set i (.d x))) :
    ∀ (xs : List D) (s : σ), I s → ∃ ys s', ys.length = xs.length ∧ (∀ y ∈ ys, Q y) ∧ I s' ∧ ∀ A, compLS (.one i) bYes e xs (E A s) = some (.ok ys, E A s')
  | [], s, hs => ⟨[], s, rfl, fun _ h => absurd h List.not_mem_nil, hs, fun _ => rfl⟩
  | x :: xs, s, hs => by
    obtain ⟨y, s1, h1, h2, h3⟩ := turn s x hs
    obtain ⟨ys, s2, k1, k2, k3, k4⟩ := compS E Q un I turn xs s1 h2
    refine ⟨y :: ys, s2, by rw [List.length_cons, List.length_cons, k1], fun z hz => ?_, k3, fun A => ?_⟩
    · rcases List.mem_cons.mp hz with c | c
      · rw [c]; exact h1
      · exact k2 z c
    · show (match (Tg.one i).put x (E A s) with
        | none => none
        | some r1 => sb (up r1 (bYes r1)) fun k r1 => if k = true then sb (e r1) fun y r2 => sb (compLS (.one i) bYes e xs (unSlots (Tg.one i).slots r2)) fun ys r3 => okS (y :: ys) r3 else compLS (.one i) bYes e xs (unSlots (Tg.one i).slots r1)) = _
      rw [put_one]
      show sb (e ((E A s).set i (.d x))) (fun y r2 => sb (compLS (.one i) bYes e xs (unSlots [i] r2)) fun ys r3 => okS (y :: ys) r3) = _
      rw [h3 A]
      show sb (compLS (.one i) bYes e xs (unSlots [i] ((E A s1).set i (.d x)))) (fun ys r3 => okS (y :: ys) r3) = _
      rw [un, k4 A]
      rfl
/-- a loop: the state s, whatever the addresses A -/
theorem loopS {α σ : Type} {g : Tg} {b : SX} (E : α → σ → DL.Env) (I : Nat → σ → Prop) :
    ∀ (xs : List D) (n : Nat) (s : σ), I n s → (∀ k s x, xs[k]? = some x → I (n + k) s → ∃ s', I (n + k + 1) s' ∧ ∀ A, ∃ r1, g.put x (E A s) = some r1 ∧ (b r1 = some (.nx (E A s')) ∨ b r1 = some (.ct (E A s')))) →
      ∃ s', I (n + xs.length) s' ∧ ∀ A, loopF g b xs (E A s) = some (.nx (E A s'))
  | [], n, s, hs, _ => ⟨s, hs, fun _ => rfl⟩
  | x :: xs, n, s, hs, turn => by
    obtain ⟨s1, h1, h2⟩ := turn 0 s x rfl hs
    obtain ⟨s2, k1, k2⟩ := loopS E I xs (n + 1) s1 h1 fun k s y hy hi => by
      have e1 : n + 1 + k = n + (k + 1) := by omega
      rw [e1] at hi ⊢
      exact turn (k + 1) s y (by simpa using hy) hi
    refine ⟨s2, by rw [List.length_cons]; have : n + 1 + xs.length = n + (xs.length + 1) := by omega
                   rw [this] at k1; exact k1, fun A => ?_⟩
    obtain ⟨r1, q1, q2⟩ := h2 A
    unfold loopF
    rw [q1]
    rcases q2 with q2 | q2
    · simp only [q2]; exact k2 A
    · simp only [q2]; exact k2 A
theorem comp_fin {it : ES (List D)} {i : Nat} {e : ES D} {r r1 r2 : DL.Env} {xs ys : List D} (hi : it r = some (.ok xs, r1)) (hl : xs.length ≤ lim) (h : compLS (.one i) bYes e xs (unSlots [i] r1) = some (.ok ys, r2)) : wComp it (.one i) bYes e r = okS ys r2 := by
  unfold wComp
  rw [hi]
  show (if xs.length ≤ lim then noErS (compLS (.one i) bYes e xs (unSlots [i] r1)) else none) = _
  rw [if_pos hl, h]
  rfl
theorem mulM (i j : Int) (h : i.natAbs < 2 ^ 256) (h2 : j.natAbs < 2 ^ 256) : dMul (.int i) (.int j) = some (.int (i * j)) := by
  unfold dMul
  split
  · rename_i a b c d
    split
    · cases c; cases d; rfl
    · cases c; cases d; rw [if_pos ⟨h, h2⟩]
  · rename_i c
    exact absurd rfl (c i j rfl)
theorem sb_some {α β : Type} (a : α) (r : DL.Env) (f : α → DL.Env → RS β) : sb (some (.ok a, r)) f = f a r := (rfl)
theorem soS_some {α : Type} (a : α) (r : DL.Env) (f : α → DL.Env → Option Out) : soS (some (.ok a, r)) f = f a r := (rfl)
theorem runI_ri {n p : Nat} {b : SX} {ss : List Slot} {x : D} {r : DL.Env} {ls : List (List D)} (h : b (ss ++ List.replicate (n - p) .un) = some (.ri x r)) (hl : ss.length = p) (ho : ioOut ss r = some ls) : runI n p b ss = some (.ok x, ls) := by
  unfold runI
  rw [if_pos hl, h]
  simp only [ho, Option.map_some]
theorem runI_nx {n p : Nat} {b : SX} {ss : List Slot} {r : DL.Env} {ls : List (List D)} (h : b (ss ++ List.replicate (n - p) .un) = some (.nx r)) (hl : ss.length = p) (ho : ioOut ss r = some ls) : runI n p b ss = some (.ok .none, ls) := by
  unfold runI
  rw [if_pos hl, h]
  simp only [ho, Option.map_some]
theorem out1 (a : Addr) (xs ys : List D) (ds : List D) (r : DL.Env) (h : ds.length ≤ r.length) : ioOut (.io a xs :: ds.map .d) (.io a ys :: r) = some [ys] := by
  have : ∀ (ds : List D) (r : DL.Env), ds.length ≤ r.length → ioOut (ds.map .d) r = some [] := by
    intro ds
    induction ds with
    | nil => intro r _; rfl
    | cons d ds ih =>
      intro r h
      cases r with
      | nil => exact absurd h (by simp)
      | cons s r => exact ih r (by simpa using h)
  show (if a = a then (ioOut (ds.map .d) r).map (ys :: ·) else none) = _
  rw [if_pos rfl, this ds r h]
  rfl
theorem seq_nx {p q : SX} {r r1 : DL.Env} {x : Option Out} (h : p r = some (.nx r1)) (g : q r1 = x) : sSeq p q r = x := by
  rw [e_sSeq, h]
  exact g
end DL
/-! The defs of the text as functions of data. Made by wip/tools/gen.py from the program's own text. -/
namespace K01
open PySem DL
noncomputable section
def fuel : Nat := 1000000000
def tabl : List ((String × String) × Bool) := [(("BadBook", "BadStep"), false), (("BadBook", "BadWay"), false), (("BadBook", "BadText"), false), (("BadBook", "RestError"), true), (("BadState", "BadStep"), false), (("BadState", "BadWay"), false), (("BadState", "BadText"), false), (("BadState", "RestError"), true), (("BadTree", "BadStep"), false), (("BadTree", "BadWay"), false), (("BadTree", "BadText"), false), (("BadTree", "RestError"), true), (("NoNode", "BadStep"), false), (("NoNode", "BadWay"), false), (("NoNode", "BadText"), false), (("NoNode", "RestError"), true), (("BadStep", "BadStep"), true), (("BadStep", "BadWay"), false), (("BadStep", "BadText"), false), (("BadStep", "RestError"), true), (("NoEnd", "BadStep"), false), (("NoEnd", "BadWay"), false), (("NoEnd", "BadText"), false), (("NoEnd", "RestError"), true), (("BadWay", "BadStep"), false), (("BadWay", "BadWay"), true), (("BadWay", "BadText"), false), (("BadWay", "RestError"), true), (("NoOneRest", "BadStep"), false), (("NoOneRest", "BadWay"), false), (("NoOneRest", "BadText"), false), (("NoOneRest", "RestError"), true), (("BadReader", "BadStep"), false), (("BadReader", "BadWay"), false), (("BadReader", "BadText"), false), (("BadReader", "RestError"), true), (("UnlikeBooks", "BadStep"), false), (("UnlikeBooks", "BadWay"), false), (("UnlikeBooks", "BadText"), false), (("UnlikeBooks", "RestError"), true), (("TooMany", "BadStep"), false), (("TooMany", "BadWay"), false), (("TooMany", "BadText"), false), (("TooMany", "RestError"), true), (("BadLine", "BadStep"), false), (("BadLine", "BadWay"), false), (("BadLine", "BadText"), false), (("BadLine", "RestError"), true), (("BadOrder", "BadStep"), false), (("BadOrder", "BadWay"), false), (("BadOrder", "BadText"), false), (("BadOrder", "RestError"), true), (("BadRule", "BadStep"), false), (("BadRule", "BadWay"), false), (("BadRule", "BadText"), false), (("BadRule", "RestError"), true), (("NothingToUndo", "BadStep"), false), (("NothingToUndo", "BadWay"), false), (("NothingToUndo", "BadText"), false), (("NothingToUndo", "RestError"), true), (("BadText", "BadStep"), false), (("BadText", "BadWay"), false), (("BadText", "BadText"), true), (("BadText", "RestError"), true), (("BadCommand", "BadStep"), false), (("BadCommand", "BadWay"), false), (("BadCommand", "BadText"), false), (("BadCommand", "RestError"), true), (("RestError", "BadStep"), false), (("RestError", "BadWay"), false), (("RestError", "BadText"), false), (("RestError", "RestError"), true)]
def cl_line : List String := ["BadText"]
def cl_place : List String := ["BadStep", "BadWay"]
def tabi : List ((String × String) × Bool) := [(("BadBook", "NoNode"), false), (("BadBook", "BadTree"), false), (("BadBook", "BadState"), false), (("BadBook", "BadBook"), true), (("BadBook", "BadWay"), false), (("BadBook", "NoEnd"), false), (("BadBook", "BadStep"), false), (("BadBook", "UnlikeBooks"), false), (("BadBook", "BadReader"), false), (("BadBook", "NoOneRest"), false), (("BadBook", "BadOrder"), false), (("BadBook", "BadLine"), false), (("BadBook", "TooMany"), false), (("BadBook", "BadText"), false), (("BadBook", "NothingToUndo"), false), (("BadBook", "BadRule"), false), (("BadBook", "ValueError"), true), (("BadBook", "BadCommand"), false), (("BadState", "NoNode"), false), (("BadState", "BadTree"), false), (("BadState", "BadState"), true), (("BadState", "BadBook"), false), (("BadState", "BadWay"), false), (("BadState", "NoEnd"), false), (("BadState", "BadStep"), false), (("BadState", "UnlikeBooks"), false), (("BadState", "BadReader"), false), (("BadState", "NoOneRest"), false), (("BadState", "BadOrder"), false), (("BadState", "BadLine"), false), (("BadState", "TooMany"), false), (("BadState", "BadText"), false), (("BadState", "NothingToUndo"), false), (("BadState", "BadRule"), false), (("BadState", "ValueError"), true), (("BadState", "BadCommand"), false), (("BadTree", "NoNode"), false), (("BadTree", "BadTree"), true), (("BadTree", "BadState"), false), (("BadTree", "BadBook"), false), (("BadTree", "BadWay"), false), (("BadTree", "NoEnd"), false), (("BadTree", "BadStep"), false), (("BadTree", "UnlikeBooks"), false), (("BadTree", "BadReader"), false), (("BadTree", "NoOneRest"), false), (("BadTree", "BadOrder"), false), (("BadTree", "BadLine"), false), (("BadTree", "TooMany"), false), (("BadTree", "BadText"), false), (("BadTree", "NothingToUndo"), false), (("BadTree", "BadRule"), false), (("BadTree", "ValueError"), true), (("BadTree", "BadCommand"), false), (("NoNode", "NoNode"), true), (("NoNode", "BadTree"), false), (("NoNode", "BadState"), false), (("NoNode", "BadBook"), false), (("NoNode", "BadWay"), false), (("NoNode", "NoEnd"), false), (("NoNode", "BadStep"), false), (("NoNode", "UnlikeBooks"), false), (("NoNode", "BadReader"), false), (("NoNode", "NoOneRest"), false), (("NoNode", "BadOrder"), false), (("NoNode", "BadLine"), false), (("NoNode", "TooMany"), false), (("NoNode", "BadText"), false), (("NoNode", "NothingToUndo"), false), (("NoNode", "BadRule"), false), (("NoNode", "ValueError"), true), (("NoNode", "BadCommand"), false), (("BadStep", "NoNode"), false), (("BadStep", "BadTree"), false), (("BadStep", "BadState"), false), (("BadStep", "BadBook"), false), (("BadStep", "BadWay"), false), (("BadStep", "NoEnd"), false), (("BadStep", "BadStep"), true), (("BadStep", "UnlikeBooks"), false), (("BadStep", "BadReader"), false), (("BadStep", "NoOneRest"), false), (("BadStep", "BadOrder"), false), (("BadStep", "BadLine"), false), (("BadStep", "TooMany"), false), (("BadStep", "BadText"), false), (("BadStep", "NothingToUndo"), false), (("BadStep", "BadRule"), false), (("BadStep", "ValueError"), true), (("BadStep", "BadCommand"), false), (("NoEnd", "NoNode"), false), (("NoEnd", "BadTree"), false), (("NoEnd", "BadState"), false), (("NoEnd", "BadBook"), false), (("NoEnd", "BadWay"), false), (("NoEnd", "NoEnd"), true), (("NoEnd", "BadStep"), false), (("NoEnd", "UnlikeBooks"), false), (("NoEnd", "BadReader"), false), (("NoEnd", "NoOneRest"), false), (("NoEnd", "BadOrder"), false), (("NoEnd", "BadLine"), false), (("NoEnd", "TooMany"), false), (("NoEnd", "BadText"), false), (("NoEnd", "NothingToUndo"), false), (("NoEnd", "BadRule"), false), (("NoEnd", "ValueError"), true), (("NoEnd", "BadCommand"), false), (("BadWay", "NoNode"), false), (("BadWay", "BadTree"), false), (("BadWay", "BadState"), false), (("BadWay", "BadBook"), false), (("BadWay", "BadWay"), true), (("BadWay", "NoEnd"), false), (("BadWay", "BadStep"), false), (("BadWay", "UnlikeBooks"), false), (("BadWay", "BadReader"), false), (("BadWay", "NoOneRest"), false), (("BadWay", "BadOrder"), false), (("BadWay", "BadLine"), false), (("BadWay", "TooMany"), false), (("BadWay", "BadText"), false), (("BadWay", "NothingToUndo"), false), (("BadWay", "BadRule"), false), (("BadWay", "ValueError"), true), (("BadWay", "BadCommand"), false), (("NoOneRest", "NoNode"), false), (("NoOneRest", "BadTree"), false), (("NoOneRest", "BadState"), false), (("NoOneRest", "BadBook"), false), (("NoOneRest", "BadWay"), false), (("NoOneRest", "NoEnd"), false), (("NoOneRest", "BadStep"), false), (("NoOneRest", "UnlikeBooks"), false), (("NoOneRest", "BadReader"), false), (("NoOneRest", "NoOneRest"), true), (("NoOneRest", "BadOrder"), false), (("NoOneRest", "BadLine"), false), (("NoOneRest", "TooMany"), false), (("NoOneRest", "BadText"), false), (("NoOneRest", "NothingToUndo"), false), (("NoOneRest", "BadRule"), false), (("NoOneRest", "ValueError"), true), (("NoOneRest", "BadCommand"), false), (("BadReader", "NoNode"), false), (("BadReader", "BadTree"), false), (("BadReader", "BadState"), false), (("BadReader", "BadBook"), false), (("BadReader", "BadWay"), false), (("BadReader", "NoEnd"), false), (("BadReader", "BadStep"), false), (("BadReader", "UnlikeBooks"), false), (("BadReader", "BadReader"), true), (("BadReader", "NoOneRest"), false), (("BadReader", "BadOrder"), false), (("BadReader", "BadLine"), false), (("BadReader", "TooMany"), false), (("BadReader", "BadText"), false), (("BadReader", "NothingToUndo"), false), (("BadReader", "BadRule"), false), (("BadReader", "ValueError"), true), (("BadReader", "BadCommand"), false), (("UnlikeBooks", "NoNode"), false), (("UnlikeBooks", "BadTree"), false), (("UnlikeBooks", "BadState"), false), (("UnlikeBooks", "BadBook"), false), (("UnlikeBooks", "BadWay"), false), (("UnlikeBooks", "NoEnd"), false), (("UnlikeBooks", "BadStep"), false), (("UnlikeBooks", "UnlikeBooks"), true), (("UnlikeBooks", "BadReader"), false), (("UnlikeBooks", "NoOneRest"), false), (("UnlikeBooks", "BadOrder"), false), (("UnlikeBooks", "BadLine"), false), (("UnlikeBooks", "TooMany"), false), (("UnlikeBooks", "BadText"), false), (("UnlikeBooks", "NothingToUndo"), false), (("UnlikeBooks", "BadRule"), false), (("UnlikeBooks", "ValueError"), true), (("UnlikeBooks", "BadCommand"), false), (("TooMany", "NoNode"), false), (("TooMany", "BadTree"), false), (("TooMany", "BadState"), false), (("TooMany", "BadBook"), false), (("TooMany", "BadWay"), false), (("TooMany", "NoEnd"), false), (("TooMany", "BadStep"), false), (("TooMany", "UnlikeBooks"), false), (("TooMany", "BadReader"), false), (("TooMany", "NoOneRest"), false), (("TooMany", "BadOrder"), false), (("TooMany", "BadLine"), false), (("TooMany", "TooMany"), true), (("TooMany", "BadText"), false), (("TooMany", "NothingToUndo"), false), (("TooMany", "BadRule"), false), (("TooMany", "ValueError"), true), (("TooMany", "BadCommand"), false), (("BadLine", "NoNode"), false), (("BadLine", "BadTree"), false), (("BadLine", "BadState"), false), (("BadLine", "BadBook"), false), (("BadLine", "BadWay"), false), (("BadLine", "NoEnd"), false), (("BadLine", "BadStep"), false), (("BadLine", "UnlikeBooks"), false), (("BadLine", "BadReader"), false), (("BadLine", "NoOneRest"), false), (("BadLine", "BadOrder"), false), (("BadLine", "BadLine"), true), (("BadLine", "TooMany"), false), (("BadLine", "BadText"), false), (("BadLine", "NothingToUndo"), false), (("BadLine", "BadRule"), false), (("BadLine", "ValueError"), true), (("BadLine", "BadCommand"), false), (("BadOrder", "NoNode"), false), (("BadOrder", "BadTree"), false), (("BadOrder", "BadState"), false), (("BadOrder", "BadBook"), false), (("BadOrder", "BadWay"), false), (("BadOrder", "NoEnd"), false), (("BadOrder", "BadStep"), false), (("BadOrder", "UnlikeBooks"), false), (("BadOrder", "BadReader"), false), (("BadOrder", "NoOneRest"), false), (("BadOrder", "BadOrder"), true), (("BadOrder", "BadLine"), false), (("BadOrder", "TooMany"), false), (("BadOrder", "BadText"), false), (("BadOrder", "NothingToUndo"), false), (("BadOrder", "BadRule"), false), (("BadOrder", "ValueError"), true), (("BadOrder", "BadCommand"), false), (("BadRule", "NoNode"), false), (("BadRule", "BadTree"), false), (("BadRule", "BadState"), false), (("BadRule", "BadBook"), false), (("BadRule", "BadWay"), false), (("BadRule", "NoEnd"), false), (("BadRule", "BadStep"), false), (("BadRule", "UnlikeBooks"), false), (("BadRule", "BadReader"), false), (("BadRule", "NoOneRest"), false), (("BadRule", "BadOrder"), false), (("BadRule", "BadLine"), false), (("BadRule", "TooMany"), false), (("BadRule", "BadText"), false), (("BadRule", "NothingToUndo"), false), (("BadRule", "BadRule"), true), (("BadRule", "ValueError"), true), (("BadRule", "BadCommand"), false), (("NothingToUndo", "NoNode"), false), (("NothingToUndo", "BadTree"), false), (("NothingToUndo", "BadState"), false), (("NothingToUndo", "BadBook"), false), (("NothingToUndo", "BadWay"), false), (("NothingToUndo", "NoEnd"), false), (("NothingToUndo", "BadStep"), false), (("NothingToUndo", "UnlikeBooks"), false), (("NothingToUndo", "BadReader"), false), (("NothingToUndo", "NoOneRest"), false), (("NothingToUndo", "BadOrder"), false), (("NothingToUndo", "BadLine"), false), (("NothingToUndo", "TooMany"), false), (("NothingToUndo", "BadText"), false), (("NothingToUndo", "NothingToUndo"), true), (("NothingToUndo", "BadRule"), false), (("NothingToUndo", "ValueError"), true), (("NothingToUndo", "BadCommand"), false), (("BadText", "NoNode"), false), (("BadText", "BadTree"), false), (("BadText", "BadState"), false), (("BadText", "BadBook"), false), (("BadText", "BadWay"), false), (("BadText", "NoEnd"), false), (("BadText", "BadStep"), false), (("BadText", "UnlikeBooks"), false), (("BadText", "BadReader"), false), (("BadText", "NoOneRest"), false), (("BadText", "BadOrder"), false), (("BadText", "BadLine"), false), (("BadText", "TooMany"), false), (("BadText", "BadText"), true), (("BadText", "NothingToUndo"), false), (("BadText", "BadRule"), false), (("BadText", "ValueError"), true), (("BadText", "BadCommand"), false), (("BadCommand", "NoNode"), false), (("BadCommand", "BadTree"), false), (("BadCommand", "BadState"), false), (("BadCommand", "BadBook"), false), (("BadCommand", "BadWay"), false), (("BadCommand", "NoEnd"), false), (("BadCommand", "BadStep"), false), (("BadCommand", "UnlikeBooks"), false), (("BadCommand", "BadReader"), false), (("BadCommand", "NoOneRest"), false), (("BadCommand", "BadOrder"), false), (("BadCommand", "BadLine"), false), (("BadCommand", "TooMany"), false), (("BadCommand", "BadText"), false), (("BadCommand", "NothingToUndo"), false), (("BadCommand", "BadRule"), false), (("BadCommand", "ValueError"), true), (("BadCommand", "BadCommand"), true)]
/-! law_cell(script, k): script 0, k 1 -/
def b_law_cell : SX := (sSeq (sIf (c2 cLt (vVar 1) (v1 dLen (vVar 0))) (sRet (v2 dIx (vVar 0) (vVar 1))) sNx) (sRet (vC (.int 0))))
def f_law_cell : List D → R D := runD 2 2 b_law_cell
/-! law_raised(k, at): k 0, at 1 -/
def b_law_raised : SX := (sSeq (sIf (c2 cEq (vVar 0) (vC (.int 0))) (sErr "BadBook") sNx) (sSeq (sIf (c2 cEq (vVar 0) (vC (.int 1))) (sErr "BadState") sNx) (sSeq (sIf (c2 cEq (vVar 0) (vC (.int 2))) (sErr "BadTree") sNx) (sSeq (sIf (c2 cEq (vVar 0) (vC (.int 3))) (sErr "NoNode") sNx) (sSeq (sIf (c2 cEq (vVar 0) (vC (.int 4))) (sErrF "BadStep" (PySem.Str.ofString "place") (vVar 1)) sNx) (sSeq (sIf (c2 cEq (vVar 0) (vC (.int 5))) (sErr "NoEnd") sNx) (sSeq (sIf (c2 cEq (vVar 0) (vC (.int 6))) (sErrF "BadWay" (PySem.Str.ofString "place") (vVar 1)) sNx) (sSeq (sIf (c2 cEq (vVar 0) (vC (.int 7))) (sErr "NoOneRest") sNx) (sSeq (sIf (c2 cEq (vVar 0) (vC (.int 8))) (sErr "BadReader") sNx) (sSeq (sIf (c2 cEq (vVar 0) (vC (.int 9))) (sErr "UnlikeBooks") sNx) (sSeq (sIf (c2 cEq (vVar 0) (vC (.int 10))) (sErr "TooMany") sNx) (sSeq (sIf (c2 cEq (vVar 0) (vC (.int 11))) (sErr "BadLine") sNx) (sSeq (sIf (c2 cEq (vVar 0) (vC (.int 12))) (sErr "BadOrder") sNx) (sSeq (sIf (c2 cEq (vVar 0) (vC (.int 13))) (sErr "BadRule") sNx) (sSeq (sIf (c2 cEq (vVar 0) (vC (.int 14))) (sErr "NothingToUndo") sNx) (sSeq (sIf (c2 cEq (vVar 0) (vC (.int 15))) (sErrF "BadText" (PySem.Str.ofString "line") (vVar 1)) sNx) (sErr "BadCommand")))))))))))))))))
def f_law_raised : List D → R D := runD 2 2 b_law_raised
/-! law_kinds(k, at): k 0, at 1, kinds 2, e 3 -/
def b_law_kinds : SX := (sSeq (sSet 2 (vL (vArgs []))) (sSeq (sTryE tabl (sExpr (vCall f_law_raised [(vVar 0), (vVar 1)])) [("RestError", 3, (sSeq (sSet 2 (vL (vArgs [(vIsE tabi 3 "BadBook"), (vIsE tabi 3 "BadState"), (vIsE tabi 3 "BadTree"), (vIsE tabi 3 "NoNode")]))) (sSeq (sSet 2 (v2 dAdd (vVar 2) (vL (vArgs [(vIsE tabi 3 "BadStep"), (vIsE tabi 3 "NoEnd"), (vIsE tabi 3 "BadWay")])))) (sSeq (sSet 2 (v2 dAdd (vVar 2) (vL (vArgs [(vIsE tabi 3 "NoOneRest"), (vIsE tabi 3 "BadReader"), (vIsE tabi 3 "UnlikeBooks")])))) (sSeq (sSet 2 (v2 dAdd (vVar 2) (vL (vArgs [(vIsE tabi 3 "TooMany"), (vIsE tabi 3 "BadLine"), (vIsE tabi 3 "BadOrder")])))) (sSeq (sSet 2 (v2 dAdd (vVar 2) (vL (vArgs [(vIsE tabi 3 "BadRule"), (vIsE tabi 3 "NothingToUndo"), (vIsE tabi 3 "BadText")])))) (sSet 2 (v2 dAdd (vVar 2) (vL (vArgs [(vIsE tabi 3 "BadCommand"), (vIsE tabi 3 "ValueError")]))))))))))]) (sRet (vVar 2))))
def f_law_kinds : List D → R D := runD 4 2 b_law_kinds
/-! law_by_name(k, at): k 0, at 1 -/
def b_law_by_name : SX := (sSeq (sIf (c2 cEq (vVar 0) (vC (.int 4))) (sErrF "BadStep" (PySem.Str.ofString "place") (vVar 1)) sNx) (sSeq (sIf (c2 cEq (vVar 0) (vC (.int 6))) (sErrF "BadWay" (PySem.Str.ofString "place") (vVar 1)) sNx) (sErrF "BadText" (PySem.Str.ofString "line") (vVar 1))))
def f_law_by_name : List D → R D := runD 2 2 b_law_by_name
/-! law_field(k, at, by_name): k 0, at 1, by_name 2, told 3, e 4 -/
def b_law_field : SX := (sSeq (sSet 3 (vC .none)) (sSeq (sTryE tabl (sIf (bTr (vVar 2)) (sExpr (vCall f_law_by_name [(vVar 0), (vVar 1)])) (sExpr (vCall f_law_raised [(vVar 0), (vVar 1)]))) [("BadStep", 4, (sSet 3 (vFldE cl_place 4 (PySem.Str.ofString "place")))), ("BadWay", 4, (sSet 3 (vFldE cl_place 4 (PySem.Str.ofString "place")))), ("BadText", 4, (sSet 3 (vFldE cl_line 4 (PySem.Str.ofString "line"))))]) (sRet (vB (bAnd (c1 (cIsi "int") (vVar 3)) (c2 cEq (vVar 3) (vVar 1)))))))
def f_law_field : List D → R D := runD 5 3 b_law_field
/-! law(script): script 0, k 1, cell 2, at 3, one 4 -/
def b_law : SX := (sSeq (sFor (iRange1 (vC (.int 17))) (.one 1) (sIf (c2 cNe (vCall f_law_kinds [(vVar 1), (vC (.int 3))]) (vL (lComp (iRange1 (vC (.int 18))) (.one 4) bYes (vB (bOr (c2 cEq (vVar 4) (vVar 1)) (c2 cEq (vVar 4) (vC (.int 17)))))))) (sRet (vC (.bool false))) sNx)) (sSeq (sFor (iSeq (v2 dAdd (vL (vArgs [(vCall f_law_cell [(vVar 0), (vC (.int 0))])])) (vCut (vVar 0) (some (vC (.int 1))) (some (vC (.int 63)))))) (.one 2) (sSeq (sSet 3 (v2 dSub (v2 dMod (v1 dInt (vVar 2)) (v2 dPow (vC (.int 10)) (vC (.int 60)))) (vC (.int 5)))) (sFor (iSeq (vL (vArgs [(vC (.int 4)), (vC (.int 6)), (vC (.int 15))]))) (.one 1) (sSeq (sIf (bOr (bNot (bTr (vCall f_law_field [(vVar 1), (vVar 3), (vC (.bool false))]))) (bNot (bTr (vCall f_law_field [(vVar 1), (vVar 3), (vC (.bool true))])))) (sRet (vC (.bool false))) sNx) (sIf (c2 cNe (vCall f_law_kinds [(vVar 1), (vVar 3)]) (vL (lComp (iRange1 (vC (.int 18))) (.one 4) bYes (vB (bOr (c2 cEq (vVar 4) (vVar 1)) (c2 cEq (vVar 4) (vC (.int 17)))))))) (sRet (vC (.bool false))) sNx))))) (sRet (vC (.bool true)))))
def f_law : List D → R D := runD 5 1 b_law
end
end K01
namespace K01
open PySem DL
theorem try_e {tab : List ((String × String) × Bool)} {a : SX} {hs : List (String × Nat × SX)} {r r1 : DL.Env} {e : Err} (h : a r = some (.er e r1)) : sTryE tab a hs r = pickE tab e r1 hs := by
  unfold sTryE
  rw [h]
theorem pick_yes {tab : List ((String × String) × Bool)} {e : Err} {c : String} {i : Nat} {b : SX} {hs : List (String × Nat × SX)} {r r2 : DL.Env} (h : tab.lookup (e.cls, c) = some true) (hi : i < r.length) (hb : b (r.set i (.ex e.cls e.fld)) = some (.nx r2)) : pickE tab e r ((c, i, b) :: hs) = some (.nx (r2.set i .un)) := by
  unfold pickE
  rw [h]
  dsimp only
  rw [if_pos hi, hb]
  rfl
theorem pick_no {tab : List ((String × String) × Bool)} {e : Err} {c : String} {i : Nat} {b : SX} {hs : List (String × Nat × SX)} {r : DL.Env} (h : tab.lookup (e.cls, c) = some false) : pickE tab e r ((c, i, b) :: hs) = pickE tab e r hs := by
  rw [pickE, h]
theorem e_vIsE {tab : List ((String × String) × Bool)} {i : Nat} {T : String} {r : DL.Env} : vIsE tab i T r = (match r[i]? with
  | some (.ex c _) => (match tab.lookup (c, T) with
    | some b => ok (.bool b)
    | none => none)
  | _ => none) := (rfl)
theorem e_sErrF {c : String} {f : Str} {a : EX} {r : DL.Env} : sErrF c f a r = so (a r) r fun x => (match x with
  | .int i => if i.natAbs.log2 < 1920 then some (.er ⟨c, some (f, .int i)⟩ r) else none
  | _ => none) := (rfl)
/-- the kinds of an error of class k -/
def gin (k : Nat) : D → D
  | .int j => .bool (j == (k : Int) || j == 17)
  | _ => .none
def kin (k : Nat) : List D := (rng 0 18).map (gin k)
theorem kinds_of {k a : D} {e : Err} (hr : f_law_raised [k, a] = er e) (h : tabl.lookup (e.cls, "RestError") = some true) {b0 b1 b2 b3 b4 b5 b6 b7 b8 b9 b10 b11 b12 b13 b14 b15 b16 b17 : Bool}
    (q0 : tabi.lookup (e.cls, "BadBook") = some b0) (q1 : tabi.lookup (e.cls, "BadState") = some b1) (q2 : tabi.lookup (e.cls, "BadTree") = some b2) (q3 : tabi.lookup (e.cls, "NoNode") = some b3) (q4 : tabi.lookup (e.cls, "BadStep") = some b4) (q5 : tabi.lookup (e.cls, "NoEnd") = some b5)
    (q6 : tabi.lookup (e.cls, "BadWay") = some b6) (q7 : tabi.lookup (e.cls, "NoOneRest") = some b7) (q8 : tabi.lookup (e.cls, "BadReader") = some b8) (q9 : tabi.lookup (e.cls, "UnlikeBooks") = some b9) (q10 : tabi.lookup (e.cls, "TooMany") = some b10) (q11 : tabi.lookup (e.cls, "BadLine") = some b11)
    (q12 : tabi.lookup (e.cls, "BadOrder") = some b12) (q13 : tabi.lookup (e.cls, "BadRule") = some b13) (q14 : tabi.lookup (e.cls, "NothingToUndo") = some b14) (q15 : tabi.lookup (e.cls, "BadText") = some b15) (q16 : tabi.lookup (e.cls, "BadCommand") = some b16) (q17 : tabi.lookup (e.cls, "ValueError") = some b17) :
    f_law_kinds [k, a] = ok (.list ([b0, b1, b2, b3, b4, b5, b6, b7, b8, b9, b10, b11, b12, b13, b14, b15, b16, b17].map PyData.bool)) := by
  obtain ⟨c, f⟩ := e
  dsimp only at h q0 q1 q2 q3 q4 q5 q6 q7 q8 q9 q10 q11 q12 q13 q14 q15 q16 q17
  have a1 : ∀ x0 x1 x2 x3 y0 y1 y2 : D, dAdd (.list [x0, x1, x2, x3]) (.list [y0, y1, y2]) = some (.list [x0, x1, x2, x3, y0, y1, y2]) := fun _ _ _ _ _ _ _ => add_list _ _ (show 7 ≤ lim by decide)
  have a2 : ∀ x0 x1 x2 x3 x4 x5 x6 y0 y1 y2 : D, dAdd (.list [x0, x1, x2, x3, x4, x5, x6]) (.list [y0, y1, y2]) = some (.list [x0, x1, x2, x3, x4, x5, x6, y0, y1, y2]) := fun _ _ _ _ _ _ _ _ _ _ => add_list _ _ (show 10 ≤ lim by decide)
  have a3 : ∀ x0 x1 x2 x3 x4 x5 x6 x7 x8 x9 y0 y1 y2 : D, dAdd (.list [x0, x1, x2, x3, x4, x5, x6, x7, x8, x9]) (.list [y0, y1, y2]) = some (.list [x0, x1, x2, x3, x4, x5, x6, x7, x8, x9, y0, y1, y2]) := fun _ _ _ _ _ _ _ _ _ _ _ _ _ => add_list _ _ (show 13 ≤ lim by decide)
  have a4 : ∀ x0 x1 x2 x3 x4 x5 x6 x7 x8 x9 x10 x11 x12 y0 y1 y2 : D, dAdd (.list [x0, x1, x2, x3, x4, x5, x6, x7, x8, x9, x10, x11, x12]) (.list [y0, y1, y2]) = some (.list [x0, x1, x2, x3, x4, x5, x6, x7, x8, x9, x10, x11, x12, y0, y1, y2]) := fun _ _ _ _ _ _ _ _ _ _ _ _ _ _ _ _ => add_list _ _ (show 16 ≤ lim by decide)
  have a5 : ∀ x0 x1 x2 x3 x4 x5 x6 x7 x8 x9 x10 x11 x12 x13 x14 x15 y0 y1 : D, dAdd (.list [x0, x1, x2, x3, x4, x5, x6, x7, x8, x9, x10, x11, x12, x13, x14, x15]) (.list [y0, y1]) = some (.list [x0, x1, x2, x3, x4, x5, x6, x7, x8, x9, x10, x11, x12, x13, x14, x15, y0, y1]) := fun _ _ _ _ _ _ _ _ _ _ _ _ _ _ _ _ _ _ => add_list _ _ (show 18 ≤ lim by decide)
  suffices hb : b_law_kinds (slots 4 [k, a]) = some (.rt (.list ([b0, b1, b2, b3, b4, b5, b6, b7, b8, b9, b10, b11, b12, b13, b14, b15, b16, b17].map PyData.bool))) by
    simp only [f_law_kinds, runD, hb, List.length_cons, List.length_nil, if_true]
  have z : slots 4 [k, a] = [.d k, .d a, .un, .un] := rfl
  rw [b_law_kinds, z]
  refine seq_nx (r1 := [.d k, .d a, .d (.list []), .un]) (by simp only [e_vVar, e_vRd, e_vC, e_v1, e_v2, e_c1, e_c2, e_l1, e_l2, e_vL, e_vB, e_vArgs0, e_vArgs, e_vTup, e_vCall, e_vIf, e_bTr, e_bNot, e_bAnd, e_bOr, e_bChain, e_iSeq, e_iRange1, e_iRange2, e_vCut, e_vOpt0, e_vOpt, e_sNx, e_sBk, e_sCt, e_sSeq, e_sSet, e_sOwn, e_sPut, e_sFreeze, e_sRet, e_sExpr, e_sIf, e_sApp, e_sPar, e_sFor, runD, slots, so_ok, rb_ok, rb_none, so_none, po_some, List.getElem?_cons_zero, List.getElem?_cons_succ, List.set_cons_zero, List.set_cons_succ, List.map_cons, List.map_nil, List.length_cons, List.length_nil, List.replicate, List.append_nil, List.cons_append, List.nil_append, rb_er, so_er, e_sErr, e_sTry, e_iEnumE, e_sSetIx, e_uX, e_w1, e_w2, e_wc2, e_wl1, e_wl2, e_wL, e_wB, e_wTr, e_wNot, e_wAnd, e_wOr, e_wIf, e_wArgs0, e_wArgs, e_wTup, e_wCall, e_zSet, e_zOwn, e_zPut, e_zRet, e_zRt, e_zExpr, e_zIf, e_zFor, e_sRetL, sb_ok, sb_none, up_ok, up_none, up_po, soS_ok, soS_none, Bool.not_true, Bool.not_false, Bool.false_eq_true, Bool.true_and, Bool.false_and, Bool.and_true, Bool.and_false, Bool.true_or, Bool.false_or, Bool.or_true, Bool.or_false, if_true, if_false, Option.map_some, tr_bool, int_int, add_int, sub_int]) ?_
  refine seq_nx (r1 := [.d k, .d a, .d (.list ([b0, b1, b2, b3, b4, b5, b6, b7, b8, b9, b10, b11, b12, b13, b14, b15, b16, b17].map PyData.bool)), .un]) ?_ ?_
  · refine (try_e (r1 := [.d k, .d a, .d (.list []), .un]) (e := ⟨c, f⟩) (by simp only [e_vVar, e_vRd, e_vC, e_v1, e_v2, e_c1, e_c2, e_l1, e_l2, e_vL, e_vB, e_vArgs0, e_vArgs, e_vTup, e_vCall, e_vIf, e_bTr, e_bNot, e_bAnd, e_bOr, e_bChain, e_iSeq, e_iRange1, e_iRange2, e_vCut, e_vOpt0, e_vOpt, e_sNx, e_sBk, e_sCt, e_sSeq, e_sSet, e_sOwn, e_sPut, e_sFreeze, e_sRet, e_sExpr, e_sIf, e_sApp, e_sPar, e_sFor, runD, slots, so_ok, rb_ok, rb_none, so_none, po_some, List.getElem?_cons_zero, List.getElem?_cons_succ, List.set_cons_zero, List.set_cons_succ, List.map_cons, List.map_nil, List.length_cons, List.length_nil, List.replicate, List.append_nil, List.cons_append, List.nil_append, rb_er, so_er, e_sErr, e_sTry, e_iEnumE, e_sSetIx, e_uX, e_w1, e_w2, e_wc2, e_wl1, e_wl2, e_wL, e_wB, e_wTr, e_wNot, e_wAnd, e_wOr, e_wIf, e_wArgs0, e_wArgs, e_wTup, e_wCall, e_zSet, e_zOwn, e_zPut, e_zRet, e_zRt, e_zExpr, e_zIf, e_zFor, e_sRetL, sb_ok, sb_none, up_ok, up_none, up_po, soS_ok, soS_none, Bool.not_true, Bool.not_false, Bool.false_eq_true, Bool.true_and, Bool.false_and, Bool.and_true, Bool.and_false, Bool.true_or, Bool.false_or, Bool.or_true, Bool.or_false, if_true, if_false, Option.map_some, tr_bool, int_int, add_int, sub_int, hr])).trans ?_
    refine pick_yes h (show 3 < 4 by decide) (r2 := [.d k, .d a, .d (.list ([b0, b1, b2, b3, b4, b5, b6, b7, b8, b9, b10, b11, b12, b13, b14, b15, b16, b17].map PyData.bool)), .ex c f]) ?_
    show _ = some (Out.nx [.d k, .d a, .d (.list [.bool b0, .bool b1, .bool b2, .bool b3, .bool b4, .bool b5, .bool b6, .bool b7, .bool b8, .bool b9, .bool b10, .bool b11, .bool b12, .bool b13, .bool b14, .bool b15, .bool b16, .bool b17]), .ex c f])
    simp only [e_vVar, e_vRd, e_vC, e_v1, e_v2, e_c1, e_c2, e_l1, e_l2, e_vL, e_vB, e_vArgs0, e_vArgs, e_vTup, e_vCall, e_vIf, e_bTr, e_bNot, e_bAnd, e_bOr, e_bChain, e_iSeq, e_iRange1, e_iRange2, e_vCut, e_vOpt0, e_vOpt, e_sNx, e_sBk, e_sCt, e_sSeq, e_sSet, e_sOwn, e_sPut, e_sFreeze, e_sRet, e_sExpr, e_sIf, e_sApp, e_sPar, e_sFor, runD, slots, so_ok, rb_ok, rb_none, so_none, po_some, List.getElem?_cons_zero, List.getElem?_cons_succ, List.set_cons_zero, List.set_cons_succ, List.map_cons, List.map_nil, List.length_cons, List.length_nil, List.replicate, List.append_nil, List.cons_append, List.nil_append, rb_er, so_er, e_sErr, e_sTry, e_iEnumE, e_sSetIx, e_uX, e_w1, e_w2, e_wc2, e_wl1, e_wl2, e_wL, e_wB, e_wTr, e_wNot, e_wAnd, e_wOr, e_wIf, e_wArgs0, e_wArgs, e_wTup, e_wCall, e_zSet, e_zOwn, e_zPut, e_zRet, e_zRt, e_zExpr, e_zIf, e_zFor, e_sRetL, sb_ok, sb_none, up_ok, up_none, up_po, soS_ok, soS_none, Bool.not_true, Bool.not_false, Bool.false_eq_true, Bool.true_and, Bool.false_and, Bool.and_true, Bool.and_false, Bool.true_or, Bool.false_or, Bool.or_true, Bool.or_false, if_true, if_false, Option.map_some, tr_bool, int_int, add_int, sub_int, e_vIsE, q0, q1, q2, q3, q4, q5, q6, q7, q8, q9, q10, q11, q12, q13, q14, q15, q16, q17, a1, a2, a3, a4, a5]
  · simp only [e_vVar, e_vRd, e_vC, e_v1, e_v2, e_c1, e_c2, e_l1, e_l2, e_vL, e_vB, e_vArgs0, e_vArgs, e_vTup, e_vCall, e_vIf, e_bTr, e_bNot, e_bAnd, e_bOr, e_bChain, e_iSeq, e_iRange1, e_iRange2, e_vCut, e_vOpt0, e_vOpt, e_sNx, e_sBk, e_sCt, e_sSeq, e_sSet, e_sOwn, e_sPut, e_sFreeze, e_sRet, e_sExpr, e_sIf, e_sApp, e_sPar, e_sFor, runD, slots, so_ok, rb_ok, rb_none, so_none, po_some, List.getElem?_cons_zero, List.getElem?_cons_succ, List.set_cons_zero, List.set_cons_succ, List.map_cons, List.map_nil, List.length_cons, List.length_nil, List.replicate, List.append_nil, List.cons_append, List.nil_append, rb_er, so_er, e_sErr, e_sTry, e_iEnumE, e_sSetIx, e_uX, e_w1, e_w2, e_wc2, e_wl1, e_wl2, e_wL, e_wB, e_wTr, e_wNot, e_wAnd, e_wOr, e_wIf, e_wArgs0, e_wArgs, e_wTup, e_wCall, e_zSet, e_zOwn, e_zPut, e_zRet, e_zRt, e_zExpr, e_zIf, e_zFor, e_sRetL, sb_ok, sb_none, up_ok, up_none, up_po, soS_ok, soS_none, Bool.not_true, Bool.not_false, Bool.false_eq_true, Bool.true_and, Bool.false_and, Bool.and_true, Bool.and_false, Bool.true_or, Bool.false_or, Bool.or_true, Bool.or_false, if_true, if_false, Option.map_some, tr_bool, int_int, add_int, sub_int]
/-- the error of number k -/
def cls (k : Nat) : String := ["BadBook", "BadState", "BadTree", "NoNode", "BadStep", "NoEnd", "BadWay", "NoOneRest", "BadReader", "UnlikeBooks", "TooMany", "BadLine", "BadOrder", "BadRule", "NothingToUndo", "BadText", "BadCommand"].getD k ""
theorem raised_t (a : Int) (ha : a.natAbs.log2 < 1920) : ∀ k : Nat, k < 17 → ∃ f, f_law_raised [.int (k : Nat), .int a] = er ⟨cls k, f⟩ ∧ ((k = 4 ∨ k = 6) → f = some (PySem.Str.ofString "place", .int a)) ∧ (k = 15 → f = some (PySem.Str.ofString "line", .int a)) := by
  intro k hk
  have key : ∀ j : Int, (k : Int) = j → ∃ f, f_law_raised [.int j, .int a] = er ⟨cls k, f⟩ ∧ ((k = 4 ∨ k = 6) → f = some (PySem.Str.ofString "place", .int a)) ∧ (k = 15 → f = some (PySem.Str.ofString "line", .int a)) := by
    match k, hk with
    | 0, _ => rintro _ rfl; exact ⟨none, by simp [f_law_raised, b_law_raised, e_vVar, e_vRd, e_vC, e_v1, e_v2, e_c1, e_c2, e_l1, e_l2, e_vL, e_vB, e_vArgs0, e_vArgs, e_vTup, e_vCall, e_vIf, e_bTr, e_bNot, e_bAnd, e_bOr, e_bChain, e_iSeq, e_iRange1, e_iRange2, e_vCut, e_vOpt0, e_vOpt, e_sNx, e_sBk, e_sCt, e_sSeq, e_sSet, e_sOwn, e_sPut, e_sFreeze, e_sRet, e_sExpr, e_sIf, e_sApp, e_sPar, e_sFor, runD, slots, so_ok, rb_ok, rb_none, so_none, po_some, List.getElem?_cons_zero, List.getElem?_cons_succ, List.set_cons_zero, List.set_cons_succ, List.map_cons, List.map_nil, List.length_cons, List.length_nil, List.replicate, List.append_nil, List.cons_append, List.nil_append, rb_er, so_er, e_sErr, e_sTry, e_iEnumE, e_sSetIx, e_uX, e_w1, e_w2, e_wc2, e_wl1, e_wl2, e_wL, e_wB, e_wTr, e_wNot, e_wAnd, e_wOr, e_wIf, e_wArgs0, e_wArgs, e_wTup, e_wCall, e_zSet, e_zOwn, e_zPut, e_zRet, e_zRt, e_zExpr, e_zIf, e_zFor, e_sRetL, sb_ok, sb_none, up_ok, up_none, up_po, soS_ok, soS_none, Bool.not_true, Bool.not_false, Bool.false_eq_true, Bool.true_and, Bool.false_and, Bool.and_true, Bool.and_false, Bool.true_or, Bool.false_or, Bool.or_true, Bool.or_false, if_true, if_false, Option.map_some, tr_bool, int_int, add_int, sub_int, eq_int, e_sErrF, cls], fun h => absurd h (by decide), fun h => absurd h (by decide)⟩
    | 1, _ => rintro _ rfl; exact ⟨none, by simp [f_law_raised, b_law_raised, e_vVar, e_vRd, e_vC, e_v1, e_v2, e_c1, e_c2, e_l1, e_l2, e_vL, e_vB, e_vArgs0, e_vArgs, e_vTup, e_vCall, e_vIf, e_bTr, e_bNot, e_bAnd, e_bOr, e_bChain, e_iSeq, e_iRange1, e_iRange2, e_vCut, e_vOpt0, e_vOpt, e_sNx, e_sBk, e_sCt, e_sSeq, e_sSet, e_sOwn, e_sPut, e_sFreeze, e_sRet, e_sExpr, e_sIf, e_sApp, e_sPar, e_sFor, runD, slots, so_ok, rb_ok, rb_none, so_none, po_some, List.getElem?_cons_zero, List.getElem?_cons_succ, List.set_cons_zero, List.set_cons_succ, List.map_cons, List.map_nil, List.length_cons, List.length_nil, List.replicate, List.append_nil, List.cons_append, List.nil_append, rb_er, so_er, e_sErr, e_sTry, e_iEnumE, e_sSetIx, e_uX, e_w1, e_w2, e_wc2, e_wl1, e_wl2, e_wL, e_wB, e_wTr, e_wNot, e_wAnd, e_wOr, e_wIf, e_wArgs0, e_wArgs, e_wTup, e_wCall, e_zSet, e_zOwn, e_zPut, e_zRet, e_zRt, e_zExpr, e_zIf, e_zFor, e_sRetL, sb_ok, sb_none, up_ok, up_none, up_po, soS_ok, soS_none, Bool.not_true, Bool.not_false, Bool.false_eq_true, Bool.true_and, Bool.false_and, Bool.and_true, Bool.and_false, Bool.true_or, Bool.false_or, Bool.or_true, Bool.or_false, if_true, if_false, Option.map_some, tr_bool, int_int, add_int, sub_int, eq_int, e_sErrF, cls], fun h => absurd h (by decide), fun h => absurd h (by decide)⟩
    | 2, _ => rintro _ rfl; exact ⟨none, by simp [f_law_raised, b_law_raised, e_vVar, e_vRd, e_vC, e_v1, e_v2, e_c1, e_c2, e_l1, e_l2, e_vL, e_vB, e_vArgs0, e_vArgs, e_vTup, e_vCall, e_vIf, e_bTr, e_bNot, e_bAnd, e_bOr, e_bChain, e_iSeq, e_iRange1, e_iRange2, e_vCut, e_vOpt0, e_vOpt, e_sNx, e_sBk, e_sCt, e_sSeq, e_sSet, e_sOwn, e_sPut, e_sFreeze, e_sRet, e_sExpr, e_sIf, e_sApp, e_sPar, e_sFor, runD, slots, so_ok, rb_ok, rb_none, so_none, po_some, List.getElem?_cons_zero, List.getElem?_cons_succ, List.set_cons_zero, List.set_cons_succ, List.map_cons, List.map_nil, List.length_cons, List.length_nil, List.replicate, List.append_nil, List.cons_append, List.nil_append, rb_er, so_er, e_sErr, e_sTry, e_iEnumE, e_sSetIx, e_uX, e_w1, e_w2, e_wc2, e_wl1, e_wl2, e_wL, e_wB, e_wTr, e_wNot, e_wAnd, e_wOr, e_wIf, e_wArgs0, e_wArgs, e_wTup, e_wCall, e_zSet, e_zOwn, e_zPut, e_zRet, e_zRt, e_zExpr, e_zIf, e_zFor, e_sRetL, sb_ok, sb_none, up_ok, up_none, up_po, soS_ok, soS_none, Bool.not_true, Bool.not_false, Bool.false_eq_true, Bool.true_and, Bool.false_and, Bool.and_true, Bool.and_false, Bool.true_or, Bool.false_or, Bool.or_true, Bool.or_false, if_true, if_false, Option.map_some, tr_bool, int_int, add_int, sub_int, eq_int, e_sErrF, cls], fun h => absurd h (by decide), fun h => absurd h (by decide)⟩
    | 3, _ => rintro _ rfl; exact ⟨none, by simp [f_law_raised, b_law_raised, e_vVar, e_vRd, e_vC, e_v1, e_v2, e_c1, e_c2, e_l1, e_l2, e_vL, e_vB, e_vArgs0, e_vArgs, e_vTup, e_vCall, e_vIf, e_bTr, e_bNot, e_bAnd, e_bOr, e_bChain, e_iSeq, e_iRange1, e_iRange2, e_vCut, e_vOpt0, e_vOpt, e_sNx, e_sBk, e_sCt, e_sSeq, e_sSet, e_sOwn, e_sPut, e_sFreeze, e_sRet, e_sExpr, e_sIf, e_sApp, e_sPar, e_sFor, runD, slots, so_ok, rb_ok, rb_none, so_none, po_some, List.getElem?_cons_zero, List.getElem?_cons_succ, List.set_cons_zero, List.set_cons_succ, List.map_cons, List.map_nil, List.length_cons, List.length_nil, List.replicate, List.append_nil, List.cons_append, List.nil_append, rb_er, so_er, e_sErr, e_sTry, e_iEnumE, e_sSetIx, e_uX, e_w1, e_w2, e_wc2, e_wl1, e_wl2, e_wL, e_wB, e_wTr, e_wNot, e_wAnd, e_wOr, e_wIf, e_wArgs0, e_wArgs, e_wTup, e_wCall, e_zSet, e_zOwn, e_zPut, e_zRet, e_zRt, e_zExpr, e_zIf, e_zFor, e_sRetL, sb_ok, sb_none, up_ok, up_none, up_po, soS_ok, soS_none, Bool.not_true, Bool.not_false, Bool.false_eq_true, Bool.true_and, Bool.false_and, Bool.and_true, Bool.and_false, Bool.true_or, Bool.false_or, Bool.or_true, Bool.or_false, if_true, if_false, Option.map_some, tr_bool, int_int, add_int, sub_int, eq_int, e_sErrF, cls], fun h => absurd h (by decide), fun h => absurd h (by decide)⟩
    | 4, _ => rintro _ rfl; exact ⟨some (PySem.Str.ofString "place", .int a), by simp [f_law_raised, b_law_raised, e_vVar, e_vRd, e_vC, e_v1, e_v2, e_c1, e_c2, e_l1, e_l2, e_vL, e_vB, e_vArgs0, e_vArgs, e_vTup, e_vCall, e_vIf, e_bTr, e_bNot, e_bAnd, e_bOr, e_bChain, e_iSeq, e_iRange1, e_iRange2, e_vCut, e_vOpt0, e_vOpt, e_sNx, e_sBk, e_sCt, e_sSeq, e_sSet, e_sOwn, e_sPut, e_sFreeze, e_sRet, e_sExpr, e_sIf, e_sApp, e_sPar, e_sFor, runD, slots, so_ok, rb_ok, rb_none, so_none, po_some, List.getElem?_cons_zero, List.getElem?_cons_succ, List.set_cons_zero, List.set_cons_succ, List.map_cons, List.map_nil, List.length_cons, List.length_nil, List.replicate, List.append_nil, List.cons_append, List.nil_append, rb_er, so_er, e_sErr, e_sTry, e_iEnumE, e_sSetIx, e_uX, e_w1, e_w2, e_wc2, e_wl1, e_wl2, e_wL, e_wB, e_wTr, e_wNot, e_wAnd, e_wOr, e_wIf, e_wArgs0, e_wArgs, e_wTup, e_wCall, e_zSet, e_zOwn, e_zPut, e_zRet, e_zRt, e_zExpr, e_zIf, e_zFor, e_sRetL, sb_ok, sb_none, up_ok, up_none, up_po, soS_ok, soS_none, Bool.not_true, Bool.not_false, Bool.false_eq_true, Bool.true_and, Bool.false_and, Bool.and_true, Bool.and_false, Bool.true_or, Bool.false_or, Bool.or_true, Bool.or_false, if_true, if_false, Option.map_some, tr_bool, int_int, add_int, sub_int, eq_int, e_sErrF, cls, ha], fun _ => rfl, fun h => absurd h (by decide)⟩
    | 5, _ => rintro _ rfl; exact ⟨none, by simp [f_law_raised, b_law_raised, e_vVar, e_vRd, e_vC, e_v1, e_v2, e_c1, e_c2, e_l1, e_l2, e_vL, e_vB, e_vArgs0, e_vArgs, e_vTup, e_vCall, e_vIf, e_bTr, e_bNot, e_bAnd, e_bOr, e_bChain, e_iSeq, e_iRange1, e_iRange2, e_vCut, e_vOpt0, e_vOpt, e_sNx, e_sBk, e_sCt, e_sSeq, e_sSet, e_sOwn, e_sPut, e_sFreeze, e_sRet, e_sExpr, e_sIf, e_sApp, e_sPar, e_sFor, runD, slots, so_ok, rb_ok, rb_none, so_none, po_some, List.getElem?_cons_zero, List.getElem?_cons_succ, List.set_cons_zero, List.set_cons_succ, List.map_cons, List.map_nil, List.length_cons, List.length_nil, List.replicate, List.append_nil, List.cons_append, List.nil_append, rb_er, so_er, e_sErr, e_sTry, e_iEnumE, e_sSetIx, e_uX, e_w1, e_w2, e_wc2, e_wl1, e_wl2, e_wL, e_wB, e_wTr, e_wNot, e_wAnd, e_wOr, e_wIf, e_wArgs0, e_wArgs, e_wTup, e_wCall, e_zSet, e_zOwn, e_zPut, e_zRet, e_zRt, e_zExpr, e_zIf, e_zFor, e_sRetL, sb_ok, sb_none, up_ok, up_none, up_po, soS_ok, soS_none, Bool.not_true, Bool.not_false, Bool.false_eq_true, Bool.true_and, Bool.false_and, Bool.and_true, Bool.and_false, Bool.true_or, Bool.false_or, Bool.or_true, Bool.or_false, if_true, if_false, Option.map_some, tr_bool, int_int, add_int, sub_int, eq_int, e_sErrF, cls], fun h => absurd h (by decide), fun h => absurd h (by decide)⟩
    | 6, _ => rintro _ rfl; exact ⟨some (PySem.Str.ofString "place", .int a), by simp [f_law_raised, b_law_raised, e_vVar, e_vRd, e_vC, e_v1, e_v2, e_c1, e_c2, e_l1, e_l2, e_vL, e_vB, e_vArgs0, e_vArgs, e_vTup, e_vCall, e_vIf, e_bTr, e_bNot, e_bAnd, e_bOr, e_bChain, e_iSeq, e_iRange1, e_iRange2, e_vCut, e_vOpt0, e_vOpt, e_sNx, e_sBk, e_sCt, e_sSeq, e_sSet, e_sOwn, e_sPut, e_sFreeze, e_sRet, e_sExpr, e_sIf, e_sApp, e_sPar, e_sFor, runD, slots, so_ok, rb_ok, rb_none, so_none, po_some, List.getElem?_cons_zero, List.getElem?_cons_succ, List.set_cons_zero, List.set_cons_succ, List.map_cons, List.map_nil, List.length_cons, List.length_nil, List.replicate, List.append_nil, List.cons_append, List.nil_append, rb_er, so_er, e_sErr, e_sTry, e_iEnumE, e_sSetIx, e_uX, e_w1, e_w2, e_wc2, e_wl1, e_wl2, e_wL, e_wB, e_wTr, e_wNot, e_wAnd, e_wOr, e_wIf, e_wArgs0, e_wArgs, e_wTup, e_wCall, e_zSet, e_zOwn, e_zPut, e_zRet, e_zRt, e_zExpr, e_zIf, e_zFor, e_sRetL, sb_ok, sb_none, up_ok, up_none, up_po, soS_ok, soS_none, Bool.not_true, Bool.not_false, Bool.false_eq_true, Bool.true_and, Bool.false_and, Bool.and_true, Bool.and_false, Bool.true_or, Bool.false_or, Bool.or_true, Bool.or_false, if_true, if_false, Option.map_some, tr_bool, int_int, add_int, sub_int, eq_int, e_sErrF, cls, ha], fun _ => rfl, fun h => absurd h (by decide)⟩
    | 7, _ => rintro _ rfl; exact ⟨none, by simp [f_law_raised, b_law_raised, e_vVar, e_vRd, e_vC, e_v1, e_v2, e_c1, e_c2, e_l1, e_l2, e_vL, e_vB, e_vArgs0, e_vArgs, e_vTup, e_vCall, e_vIf, e_bTr, e_bNot, e_bAnd, e_bOr, e_bChain, e_iSeq, e_iRange1, e_iRange2, e_vCut, e_vOpt0, e_vOpt, e_sNx, e_sBk, e_sCt, e_sSeq, e_sSet, e_sOwn, e_sPut, e_sFreeze, e_sRet, e_sExpr, e_sIf, e_sApp, e_sPar, e_sFor, runD, slots, so_ok, rb_ok, rb_none, so_none, po_some, List.getElem?_cons_zero, List.getElem?_cons_succ, List.set_cons_zero, List.set_cons_succ, List.map_cons, List.map_nil, List.length_cons, List.length_nil, List.replicate, List.append_nil, List.cons_append, List.nil_append, rb_er, so_er, e_sErr, e_sTry, e_iEnumE, e_sSetIx, e_uX, e_w1, e_w2, e_wc2, e_wl1, e_wl2, e_wL, e_wB, e_wTr, e_wNot, e_wAnd, e_wOr, e_wIf, e_wArgs0, e_wArgs, e_wTup, e_wCall, e_zSet, e_zOwn, e_zPut, e_zRet, e_zRt, e_zExpr, e_zIf, e_zFor, e_sRetL, sb_ok, sb_none, up_ok, up_none, up_po, soS_ok, soS_none, Bool.not_true, Bool.not_false, Bool.false_eq_true, Bool.true_and, Bool.false_and, Bool.and_true, Bool.and_false, Bool.true_or, Bool.false_or, Bool.or_true, Bool.or_false, if_true, if_false, Option.map_some, tr_bool, int_int, add_int, sub_int, eq_int, e_sErrF, cls], fun h => absurd h (by decide), fun h => absurd h (by decide)⟩
    | 8, _ => rintro _ rfl; exact ⟨none, by simp [f_law_raised, b_law_raised, e_vVar, e_vRd, e_vC, e_v1, e_v2, e_c1, e_c2, e_l1, e_l2, e_vL, e_vB, e_vArgs0, e_vArgs, e_vTup, e_vCall, e_vIf, e_bTr, e_bNot, e_bAnd, e_bOr, e_bChain, e_iSeq, e_iRange1, e_iRange2, e_vCut, e_vOpt0, e_vOpt, e_sNx, e_sBk, e_sCt, e_sSeq, e_sSet, e_sOwn, e_sPut, e_sFreeze, e_sRet, e_sExpr, e_sIf, e_sApp, e_sPar, e_sFor, runD, slots, so_ok, rb_ok, rb_none, so_none, po_some, List.getElem?_cons_zero, List.getElem?_cons_succ, List.set_cons_zero, List.set_cons_succ, List.map_cons, List.map_nil, List.length_cons, List.length_nil, List.replicate, List.append_nil, List.cons_append, List.nil_append, rb_er, so_er, e_sErr, e_sTry, e_iEnumE, e_sSetIx, e_uX, e_w1, e_w2, e_wc2, e_wl1, e_wl2, e_wL, e_wB, e_wTr, e_wNot, e_wAnd, e_wOr, e_wIf, e_wArgs0, e_wArgs, e_wTup, e_wCall, e_zSet, e_zOwn, e_zPut, e_zRet, e_zRt, e_zExpr, e_zIf, e_zFor, e_sRetL, sb_ok, sb_none, up_ok, up_none, up_po, soS_ok, soS_none, Bool.not_true, Bool.not_false, Bool.false_eq_true, Bool.true_and, Bool.false_and, Bool.and_true, Bool.and_false, Bool.true_or, Bool.false_or, Bool.or_true, Bool.or_false, if_true, if_false, Option.map_some, tr_bool, int_int, add_int, sub_int, eq_int, e_sErrF, cls], fun h => absurd h (by decide), fun h => absurd h (by decide)⟩
    | 9, _ => rintro _ rfl; exact ⟨none, by simp [f_law_raised, b_law_raised, e_vVar, e_vRd, e_vC, e_v1, e_v2, e_c1, e_c2, e_l1, e_l2, e_vL, e_vB, e_vArgs0, e_vArgs, e_vTup, e_vCall, e_vIf, e_bTr, e_bNot, e_bAnd, e_bOr, e_bChain, e_iSeq, e_iRange1, e_iRange2, e_vCut, e_vOpt0, e_vOpt, e_sNx, e_sBk, e_sCt, e_sSeq, e_sSet, e_sOwn, e_sPut, e_sFreeze, e_sRet, e_sExpr, e_sIf, e_sApp, e_sPar, e_sFor, runD, slots, so_ok, rb_ok, rb_none, so_none, po_some, List.getElem?_cons_zero, List.getElem?_cons_succ, List.set_cons_zero, List.set_cons_succ, List.map_cons, List.map_nil, List.length_cons, List.length_nil, List.replicate, List.append_nil, List.cons_append, List.nil_append, rb_er, so_er, e_sErr, e_sTry, e_iEnumE, e_sSetIx, e_uX, e_w1, e_w2, e_wc2, e_wl1, e_wl2, e_wL, e_wB, e_wTr, e_wNot, e_wAnd, e_wOr, e_wIf, e_wArgs0, e_wArgs, e_wTup, e_wCall, e_zSet, e_zOwn, e_zPut, e_zRet, e_zRt, e_zExpr, e_zIf, e_zFor, e_sRetL, sb_ok, sb_none, up_ok, up_none, up_po, soS_ok, soS_none, Bool.not_true, Bool.not_false, Bool.false_eq_true, Bool.true_and, Bool.false_and, Bool.and_true, Bool.and_false, Bool.true_or, Bool.false_or, Bool.or_true, Bool.or_false, if_true, if_false, Option.map_some, tr_bool, int_int, add_int, sub_int, eq_int, e_sErrF, cls], fun h => absurd h (by decide), fun h => absurd h (by decide)⟩
    | 10, _ => rintro _ rfl; exact ⟨none, by simp [f_law_raised, b_law_raised, e_vVar, e_vRd, e_vC, e_v1, e_v2, e_c1, e_c2, e_l1, e_l2, e_vL, e_vB, e_vArgs0, e_vArgs, e_vTup, e_vCall, e_vIf, e_bTr, e_bNot, e_bAnd, e_bOr, e_bChain, e_iSeq, e_iRange1, e_iRange2, e_vCut, e_vOpt0, e_vOpt, e_sNx, e_sBk, e_sCt, e_sSeq, e_sSet, e_sOwn, e_sPut, e_sFreeze, e_sRet, e_sExpr, e_sIf, e_sApp, e_sPar, e_sFor, runD, slots, so_ok, rb_ok, rb_none, so_none, po_some, List.getElem?_cons_zero, List.getElem?_cons_succ, List.set_cons_zero, List.set_cons_succ, List.map_cons, List.map_nil, List.length_cons, List.length_nil, List.replicate, List.append_nil, List.cons_append, List.nil_append, rb_er, so_er, e_sErr, e_sTry, e_iEnumE, e_sSetIx, e_uX, e_w1, e_w2, e_wc2, e_wl1, e_wl2, e_wL, e_wB, e_wTr, e_wNot, e_wAnd, e_wOr, e_wIf, e_wArgs0, e_wArgs, e_wTup, e_wCall, e_zSet, e_zOwn, e_zPut, e_zRet, e_zRt, e_zExpr, e_zIf, e_zFor, e_sRetL, sb_ok, sb_none, up_ok, up_none, up_po, soS_ok, soS_none, Bool.not_true, Bool.not_false, Bool.false_eq_true, Bool.true_and, Bool.false_and, Bool.and_true, Bool.and_false, Bool.true_or, Bool.false_or, Bool.or_true, Bool.or_false, if_true, if_false, Option.map_some, tr_bool, int_int, add_int, sub_int, eq_int, e_sErrF, cls], fun h => absurd h (by decide), fun h => absurd h (by decide)⟩
    | 11, _ => rintro _ rfl; exact ⟨none, by simp [f_law_raised, b_law_raised, e_vVar, e_vRd, e_vC, e_v1, e_v2, e_c1, e_c2, e_l1, e_l2, e_vL, e_vB, e_vArgs0, e_vArgs, e_vTup, e_vCall, e_vIf, e_bTr, e_bNot, e_bAnd, e_bOr, e_bChain, e_iSeq, e_iRange1, e_iRange2, e_vCut, e_vOpt0, e_vOpt, e_sNx, e_sBk, e_sCt, e_sSeq, e_sSet, e_sOwn, e_sPut, e_sFreeze, e_sRet, e_sExpr, e_sIf, e_sApp, e_sPar, e_sFor, runD, slots, so_ok, rb_ok, rb_none, so_none, po_some, List.getElem?_cons_zero, List.getElem?_cons_succ, List.set_cons_zero, List.set_cons_succ, List.map_cons, List.map_nil, List.length_cons, List.length_nil, List.replicate, List.append_nil, List.cons_append, List.nil_append, rb_er, so_er, e_sErr, e_sTry, e_iEnumE, e_sSetIx, e_uX, e_w1, e_w2, e_wc2, e_wl1, e_wl2, e_wL, e_wB, e_wTr, e_wNot, e_wAnd, e_wOr, e_wIf, e_wArgs0, e_wArgs, e_wTup, e_wCall, e_zSet, e_zOwn, e_zPut, e_zRet, e_zRt, e_zExpr, e_zIf, e_zFor, e_sRetL, sb_ok, sb_none, up_ok, up_none, up_po, soS_ok, soS_none, Bool.not_true, Bool.not_false, Bool.false_eq_true, Bool.true_and, Bool.false_and, Bool.and_true, Bool.and_false, Bool.true_or, Bool.false_or, Bool.or_true, Bool.or_false, if_true, if_false, Option.map_some, tr_bool, int_int, add_int, sub_int, eq_int, e_sErrF, cls], fun h => absurd h (by decide), fun h => absurd h (by decide)⟩
    | 12, _ => rintro _ rfl; exact ⟨none, by simp [f_law_raised, b_law_raised, e_vVar, e_vRd, e_vC, e_v1, e_v2, e_c1, e_c2, e_l1, e_l2, e_vL, e_vB, e_vArgs0, e_vArgs, e_vTup, e_vCall, e_vIf, e_bTr, e_bNot, e_bAnd, e_bOr, e_bChain, e_iSeq, e_iRange1, e_iRange2, e_vCut, e_vOpt0, e_vOpt, e_sNx, e_sBk, e_sCt, e_sSeq, e_sSet, e_sOwn, e_sPut, e_sFreeze, e_sRet, e_sExpr, e_sIf, e_sApp, e_sPar, e_sFor, runD, slots, so_ok, rb_ok, rb_none, so_none, po_some, List.getElem?_cons_zero, List.getElem?_cons_succ, List.set_cons_zero, List.set_cons_succ, List.map_cons, List.map_nil, List.length_cons, List.length_nil, List.replicate, List.append_nil, List.cons_append, List.nil_append, rb_er, so_er, e_sErr, e_sTry, e_iEnumE, e_sSetIx, e_uX, e_w1, e_w2, e_wc2, e_wl1, e_wl2, e_wL, e_wB, e_wTr, e_wNot, e_wAnd, e_wOr, e_wIf, e_wArgs0, e_wArgs, e_wTup, e_wCall, e_zSet, e_zOwn, e_zPut, e_zRet, e_zRt, e_zExpr, e_zIf, e_zFor, e_sRetL, sb_ok, sb_none, up_ok, up_none, up_po, soS_ok, soS_none, Bool.not_true, Bool.not_false, Bool.false_eq_true, Bool.true_and, Bool.false_and, Bool.and_true, Bool.and_false, Bool.true_or, Bool.false_or, Bool.or_true, Bool.or_false, if_true, if_false, Option.map_some, tr_bool, int_int, add_int, sub_int, eq_int, e_sErrF, cls], fun h => absurd h (by decide), fun h => absurd h (by decide)⟩
    | 13, _ => rintro _ rfl; exact ⟨none, by simp [f_law_raised, b_law_raised, e_vVar, e_vRd, e_vC, e_v1, e_v2, e_c1, e_c2, e_l1, e_l2, e_vL, e_vB, e_vArgs0, e_vArgs, e_vTup, e_vCall, e_vIf, e_bTr, e_bNot, e_bAnd, e_bOr, e_bChain, e_iSeq, e_iRange1, e_iRange2, e_vCut, e_vOpt0, e_vOpt, e_sNx, e_sBk, e_sCt, e_sSeq, e_sSet, e_sOwn, e_sPut, e_sFreeze, e_sRet, e_sExpr, e_sIf, e_sApp, e_sPar, e_sFor, runD, slots, so_ok, rb_ok, rb_none, so_none, po_some, List.getElem?_cons_zero, List.getElem?_cons_succ, List.set_cons_zero, List.set_cons_succ, List.map_cons, List.map_nil, List.length_cons, List.length_nil, List.replicate, List.append_nil, List.cons_append, List.nil_append, rb_er, so_er, e_sErr, e_sTry, e_iEnumE, e_sSetIx, e_uX, e_w1, e_w2, e_wc2, e_wl1, e_wl2, e_wL, e_wB, e_wTr, e_wNot, e_wAnd, e_wOr, e_wIf, e_wArgs0, e_wArgs, e_wTup, e_wCall, e_zSet, e_zOwn, e_zPut, e_zRet, e_zRt, e_zExpr, e_zIf, e_zFor, e_sRetL, sb_ok, sb_none, up_ok, up_none, up_po, soS_ok, soS_none, Bool.not_true, Bool.not_false, Bool.false_eq_true, Bool.true_and, Bool.false_and, Bool.and_true, Bool.and_false, Bool.true_or, Bool.false_or, Bool.or_true, Bool.or_false, if_true, if_false, Option.map_some, tr_bool, int_int, add_int, sub_int, eq_int, e_sErrF, cls], fun h => absurd h (by decide), fun h => absurd h (by decide)⟩
    | 14, _ => rintro _ rfl; exact ⟨none, by simp [f_law_raised, b_law_raised, e_vVar, e_vRd, e_vC, e_v1, e_v2, e_c1, e_c2, e_l1, e_l2, e_vL, e_vB, e_vArgs0, e_vArgs, e_vTup, e_vCall, e_vIf, e_bTr, e_bNot, e_bAnd, e_bOr, e_bChain, e_iSeq, e_iRange1, e_iRange2, e_vCut, e_vOpt0, e_vOpt, e_sNx, e_sBk, e_sCt, e_sSeq, e_sSet, e_sOwn, e_sPut, e_sFreeze, e_sRet, e_sExpr, e_sIf, e_sApp, e_sPar, e_sFor, runD, slots, so_ok, rb_ok, rb_none, so_none, po_some, List.getElem?_cons_zero, List.getElem?_cons_succ, List.set_cons_zero, List.set_cons_succ, List.map_cons, List.map_nil, List.length_cons, List.length_nil, List.replicate, List.append_nil, List.cons_append, List.nil_append, rb_er, so_er, e_sErr, e_sTry, e_iEnumE, e_sSetIx, e_uX, e_w1, e_w2, e_wc2, e_wl1, e_wl2, e_wL, e_wB, e_wTr, e_wNot, e_wAnd, e_wOr, e_wIf, e_wArgs0, e_wArgs, e_wTup, e_wCall, e_zSet, e_zOwn, e_zPut, e_zRet, e_zRt, e_zExpr, e_zIf, e_zFor, e_sRetL, sb_ok, sb_none, up_ok, up_none, up_po, soS_ok, soS_none, Bool.not_true, Bool.not_false, Bool.false_eq_true, Bool.true_and, Bool.false_and, Bool.and_true, Bool.and_false, Bool.true_or, Bool.false_or, Bool.or_true, Bool.or_false, if_true, if_false, Option.map_some, tr_bool, int_int, add_int, sub_int, eq_int, e_sErrF, cls], fun h => absurd h (by decide), fun h => absurd h (by decide)⟩
    | 15, _ => rintro _ rfl; exact ⟨some (PySem.Str.ofString "line", .int a), by simp [f_law_raised, b_law_raised, e_vVar, e_vRd, e_vC, e_v1, e_v2, e_c1, e_c2, e_l1, e_l2, e_vL, e_vB, e_vArgs0, e_vArgs, e_vTup, e_vCall, e_vIf, e_bTr, e_bNot, e_bAnd, e_bOr, e_bChain, e_iSeq, e_iRange1, e_iRange2, e_vCut, e_vOpt0, e_vOpt, e_sNx, e_sBk, e_sCt, e_sSeq, e_sSet, e_sOwn, e_sPut, e_sFreeze, e_sRet, e_sExpr, e_sIf, e_sApp, e_sPar, e_sFor, runD, slots, so_ok, rb_ok, rb_none, so_none, po_some, List.getElem?_cons_zero, List.getElem?_cons_succ, List.set_cons_zero, List.set_cons_succ, List.map_cons, List.map_nil, List.length_cons, List.length_nil, List.replicate, List.append_nil, List.cons_append, List.nil_append, rb_er, so_er, e_sErr, e_sTry, e_iEnumE, e_sSetIx, e_uX, e_w1, e_w2, e_wc2, e_wl1, e_wl2, e_wL, e_wB, e_wTr, e_wNot, e_wAnd, e_wOr, e_wIf, e_wArgs0, e_wArgs, e_wTup, e_wCall, e_zSet, e_zOwn, e_zPut, e_zRet, e_zRt, e_zExpr, e_zIf, e_zFor, e_sRetL, sb_ok, sb_none, up_ok, up_none, up_po, soS_ok, soS_none, Bool.not_true, Bool.not_false, Bool.false_eq_true, Bool.true_and, Bool.false_and, Bool.and_true, Bool.and_false, Bool.true_or, Bool.false_or, Bool.or_true, Bool.or_false, if_true, if_false, Option.map_some, tr_bool, int_int, add_int, sub_int, eq_int, e_sErrF, cls, ha], fun h => absurd h (by decide), fun _ => rfl⟩
    | 16, _ => rintro _ rfl; exact ⟨none, by simp [f_law_raised, b_law_raised, e_vVar, e_vRd, e_vC, e_v1, e_v2, e_c1, e_c2, e_l1, e_l2, e_vL, e_vB, e_vArgs0, e_vArgs, e_vTup, e_vCall, e_vIf, e_bTr, e_bNot, e_bAnd, e_bOr, e_bChain, e_iSeq, e_iRange1, e_iRange2, e_vCut, e_vOpt0, e_vOpt, e_sNx, e_sBk, e_sCt, e_sSeq, e_sSet, e_sOwn, e_sPut, e_sFreeze, e_sRet, e_sExpr, e_sIf, e_sApp, e_sPar, e_sFor, runD, slots, so_ok, rb_ok, rb_none, so_none, po_some, List.getElem?_cons_zero, List.getElem?_cons_succ, List.set_cons_zero, List.set_cons_succ, List.map_cons, List.map_nil, List.length_cons, List.length_nil, List.replicate, List.append_nil, List.cons_append, List.nil_append, rb_er, so_er, e_sErr, e_sTry, e_iEnumE, e_sSetIx, e_uX, e_w1, e_w2, e_wc2, e_wl1, e_wl2, e_wL, e_wB, e_wTr, e_wNot, e_wAnd, e_wOr, e_wIf, e_wArgs0, e_wArgs, e_wTup, e_wCall, e_zSet, e_zOwn, e_zPut, e_zRet, e_zRt, e_zExpr, e_zIf, e_zFor, e_sRetL, sb_ok, sb_none, up_ok, up_none, up_po, soS_ok, soS_none, Bool.not_true, Bool.not_false, Bool.false_eq_true, Bool.true_and, Bool.false_and, Bool.and_true, Bool.and_false, Bool.true_or, Bool.false_or, Bool.or_true, Bool.or_false, if_true, if_false, Option.map_some, tr_bool, int_int, add_int, sub_int, eq_int, e_sErrF, cls], fun h => absurd h (by decide), fun h => absurd h (by decide)⟩
    | n + 17, h => exact absurd h (by omega)
  exact key _ rfl
theorem kin_eq : ∀ k : Nat, k < 17 → ([k == 0, k == 1, k == 2, k == 3, k == 4, k == 5, k == 6, k == 7, k == 8, k == 9, k == 10, k == 11, k == 12, k == 13, k == 14, k == 15, k == 16, true] : List Bool).map PyData.bool = kin k
  | 0, _ => rfl
  | 1, _ => rfl
  | 2, _ => rfl
  | 3, _ => rfl
  | 4, _ => rfl
  | 5, _ => rfl
  | 6, _ => rfl
  | 7, _ => rfl
  | 8, _ => rfl
  | 9, _ => rfl
  | 10, _ => rfl
  | 11, _ => rfl
  | 12, _ => rfl
  | 13, _ => rfl
  | 14, _ => rfl
  | 15, _ => rfl
  | 16, _ => rfl
  | n + 17, h => absurd h (by omega)
theorem q0 : ∀ k : Fin 17, tabi.lookup (cls k.val, "BadBook") = some (k.val == 0) := by decide +kernel
theorem q1 : ∀ k : Fin 17, tabi.lookup (cls k.val, "BadState") = some (k.val == 1) := by decide +kernel
theorem q2 : ∀ k : Fin 17, tabi.lookup (cls k.val, "BadTree") = some (k.val == 2) := by decide +kernel
theorem q3 : ∀ k : Fin 17, tabi.lookup (cls k.val, "NoNode") = some (k.val == 3) := by decide +kernel
theorem q4 : ∀ k : Fin 17, tabi.lookup (cls k.val, "BadStep") = some (k.val == 4) := by decide +kernel
theorem q5 : ∀ k : Fin 17, tabi.lookup (cls k.val, "NoEnd") = some (k.val == 5) := by decide +kernel
theorem q6 : ∀ k : Fin 17, tabi.lookup (cls k.val, "BadWay") = some (k.val == 6) := by decide +kernel
theorem q7 : ∀ k : Fin 17, tabi.lookup (cls k.val, "NoOneRest") = some (k.val == 7) := by decide +kernel
theorem q8 : ∀ k : Fin 17, tabi.lookup (cls k.val, "BadReader") = some (k.val == 8) := by decide +kernel
theorem q9 : ∀ k : Fin 17, tabi.lookup (cls k.val, "UnlikeBooks") = some (k.val == 9) := by decide +kernel
theorem q10 : ∀ k : Fin 17, tabi.lookup (cls k.val, "TooMany") = some (k.val == 10) := by decide +kernel
theorem q11 : ∀ k : Fin 17, tabi.lookup (cls k.val, "BadLine") = some (k.val == 11) := by decide +kernel
theorem q12 : ∀ k : Fin 17, tabi.lookup (cls k.val, "BadOrder") = some (k.val == 12) := by decide +kernel
theorem q13 : ∀ k : Fin 17, tabi.lookup (cls k.val, "BadRule") = some (k.val == 13) := by decide +kernel
theorem q14 : ∀ k : Fin 17, tabi.lookup (cls k.val, "NothingToUndo") = some (k.val == 14) := by decide +kernel
theorem q15 : ∀ k : Fin 17, tabi.lookup (cls k.val, "BadText") = some (k.val == 15) := by decide +kernel
theorem q16 : ∀ k : Fin 17, tabi.lookup (cls k.val, "BadCommand") = some (k.val == 16) := by decide +kernel
theorem q17 : ∀ k : Fin 17, tabi.lookup (cls k.val, "ValueError") = some true := by decide +kernel
theorem ql : ∀ k : Fin 17, tabl.lookup (cls k.val, "RestError") = some true := by decide +kernel
theorem kne : ∀ k : Fin 17, cNe (.list (kin k.val)) (.list (kin k.val)) = some false := by decide +kernel
theorem kinds_t (a : Int) (ha : a.natAbs.log2 < 1920) (k : Nat) (hk : k < 17) : f_law_kinds [.int (k : Nat), .int a] = ok (.list (kin k)) := by
  obtain ⟨f, h, _⟩ := raised_t a ha k hk
  have w : Fin 17 := ⟨k, hk⟩
  rw [kinds_of (e := ⟨cls k, f⟩) h (ql ⟨k, hk⟩) (q0 ⟨k, hk⟩) (q1 ⟨k, hk⟩) (q2 ⟨k, hk⟩) (q3 ⟨k, hk⟩) (q4 ⟨k, hk⟩) (q5 ⟨k, hk⟩) (q6 ⟨k, hk⟩) (q7 ⟨k, hk⟩) (q8 ⟨k, hk⟩) (q9 ⟨k, hk⟩) (q10 ⟨k, hk⟩) (q11 ⟨k, hk⟩) (q12 ⟨k, hk⟩) (q13 ⟨k, hk⟩) (q14 ⟨k, hk⟩) (q15 ⟨k, hk⟩) (q16 ⟨k, hk⟩) (q17 ⟨k, hk⟩)]
  rw [kin_eq k hk]
theorem by_name_t (a : Int) (ha : a.natAbs.log2 < 1920) : f_law_by_name [.int 4, .int a] = er ⟨"BadStep", some (PySem.Str.ofString "place", .int a)⟩ ∧ f_law_by_name [.int 6, .int a] = er ⟨"BadWay", some (PySem.Str.ofString "place", .int a)⟩ ∧ f_law_by_name [.int 15, .int a] = er ⟨"BadText", some (PySem.Str.ofString "line", .int a)⟩ := by
  refine ⟨?_, ?_, ?_⟩ <;> simp [f_law_by_name, b_law_by_name, e_vVar, e_vRd, e_vC, e_v1, e_v2, e_c1, e_c2, e_l1, e_l2, e_vL, e_vB, e_vArgs0, e_vArgs, e_vTup, e_vCall, e_vIf, e_bTr, e_bNot, e_bAnd, e_bOr, e_bChain, e_iSeq, e_iRange1, e_iRange2, e_vCut, e_vOpt0, e_vOpt, e_sNx, e_sBk, e_sCt, e_sSeq, e_sSet, e_sOwn, e_sPut, e_sFreeze, e_sRet, e_sExpr, e_sIf, e_sApp, e_sPar, e_sFor, runD, slots, so_ok, rb_ok, rb_none, so_none, po_some, List.getElem?_cons_zero, List.getElem?_cons_succ, List.set_cons_zero, List.set_cons_succ, List.map_cons, List.map_nil, List.length_cons, List.length_nil, List.replicate, List.append_nil, List.cons_append, List.nil_append, rb_er, so_er, e_sErr, e_sTry, e_iEnumE, e_sSetIx, e_uX, e_w1, e_w2, e_wc2, e_wl1, e_wl2, e_wL, e_wB, e_wTr, e_wNot, e_wAnd, e_wOr, e_wIf, e_wArgs0, e_wArgs, e_wTup, e_wCall, e_zSet, e_zOwn, e_zPut, e_zRet, e_zRt, e_zExpr, e_zIf, e_zFor, e_sRetL, sb_ok, sb_none, up_ok, up_none, up_po, soS_ok, soS_none, Bool.not_true, Bool.not_false, Bool.false_eq_true, Bool.true_and, Bool.false_and, Bool.and_true, Bool.and_false, Bool.true_or, Bool.false_or, Bool.or_true, Bool.or_false, if_true, if_false, Option.map_some, tr_bool, int_int, add_int, sub_int, eq_int, e_sErrF, ha]
theorem fld_at {cl : List String} {i : Nat} {f : Str} {r : DL.Env} {c : String} {d : D} (h : r[i]? = some (.ex c (some (f, d)))) (hc : cl.contains c = true) : vFldE cl i f r = ok d := by
  unfold vFldE
  rw [h]
  dsimp only
  rw [if_pos ⟨rfl, hc⟩]
theorem field_end (k a : D) (b : Bool) {e : Err} {i : Int} (he : (sTryE tabl (sIf (bTr (vVar 2)) (sExpr (vCall f_law_by_name [(vVar 0), (vVar 1)])) (sExpr (vCall f_law_raised [(vVar 0), (vVar 1)]))) [("BadStep", 4, (sSet 3 (vFldE cl_place 4 (PySem.Str.ofString "place")))), ("BadWay", 4, (sSet 3 (vFldE cl_place 4 (PySem.Str.ofString "place")))), ("BadText", 4, (sSet 3 (vFldE cl_line 4 (PySem.Str.ofString "line"))))]) [.d k, .d a, .d (.bool b), .d .none, .un] = some (.nx [.d k, .d a, .d (.bool b), .d (.int i), .un])) (ea : a = .int i) : f_law_field [k, a, .bool b] = ok (.bool true) := by
  suffices h : b_law_field (slots 5 [k, a, .bool b]) = some (.rt (.bool true)) by
    simp only [f_law_field, runD, h, List.length_cons, List.length_nil, if_true]
  have z : slots 5 [k, a, .bool b] = [.d k, .d a, .d (.bool b), .un, .un] := rfl
  rw [b_law_field, z]
  refine seq_nx (r1 := [.d k, .d a, .d (.bool b), .d .none, .un]) (by simp only [e_vVar, e_vRd, e_vC, e_v1, e_v2, e_c1, e_c2, e_l1, e_l2, e_vL, e_vB, e_vArgs0, e_vArgs, e_vTup, e_vCall, e_vIf, e_bTr, e_bNot, e_bAnd, e_bOr, e_bChain, e_iSeq, e_iRange1, e_iRange2, e_vCut, e_vOpt0, e_vOpt, e_sNx, e_sBk, e_sCt, e_sSeq, e_sSet, e_sOwn, e_sPut, e_sFreeze, e_sRet, e_sExpr, e_sIf, e_sApp, e_sPar, e_sFor, runD, slots, so_ok, rb_ok, rb_none, so_none, po_some, List.getElem?_cons_zero, List.getElem?_cons_succ, List.set_cons_zero, List.set_cons_succ, List.map_cons, List.map_nil, List.length_cons, List.length_nil, List.replicate, List.append_nil, List.cons_append, List.nil_append, rb_er, so_er, e_sErr, e_sTry, e_iEnumE, e_sSetIx, e_uX, e_w1, e_w2, e_wc2, e_wl1, e_wl2, e_wL, e_wB, e_wTr, e_wNot, e_wAnd, e_wOr, e_wIf, e_wArgs0, e_wArgs, e_wTup, e_wCall, e_zSet, e_zOwn, e_zPut, e_zRet, e_zRt, e_zExpr, e_zIf, e_zFor, e_sRetL, sb_ok, sb_none, up_ok, up_none, up_po, soS_ok, soS_none, Bool.not_true, Bool.not_false, Bool.false_eq_true, Bool.true_and, Bool.false_and, Bool.and_true, Bool.and_false, Bool.true_or, Bool.false_or, Bool.or_true, Bool.or_false, if_true, if_false, Option.map_some, tr_bool, int_int, add_int, sub_int]) ?_
  refine seq_nx he ?_
  subst ea
  have ci : cIsi "int" (.int i) = some true := rfl
  simp only [e_vVar, e_vRd, e_vC, e_v1, e_v2, e_c1, e_c2, e_l1, e_l2, e_vL, e_vB, e_vArgs0, e_vArgs, e_vTup, e_vCall, e_vIf, e_bTr, e_bNot, e_bAnd, e_bOr, e_bChain, e_iSeq, e_iRange1, e_iRange2, e_vCut, e_vOpt0, e_vOpt, e_sNx, e_sBk, e_sCt, e_sSeq, e_sSet, e_sOwn, e_sPut, e_sFreeze, e_sRet, e_sExpr, e_sIf, e_sApp, e_sPar, e_sFor, runD, slots, so_ok, rb_ok, rb_none, so_none, po_some, List.getElem?_cons_zero, List.getElem?_cons_succ, List.set_cons_zero, List.set_cons_succ, List.map_cons, List.map_nil, List.length_cons, List.length_nil, List.replicate, List.append_nil, List.cons_append, List.nil_append, rb_er, so_er, e_sErr, e_sTry, e_iEnumE, e_sSetIx, e_uX, e_w1, e_w2, e_wc2, e_wl1, e_wl2, e_wL, e_wB, e_wTr, e_wNot, e_wAnd, e_wOr, e_wIf, e_wArgs0, e_wArgs, e_wTup, e_wCall, e_zSet, e_zOwn, e_zPut, e_zRet, e_zRt, e_zExpr, e_zIf, e_zFor, e_sRetL, sb_ok, sb_none, up_ok, up_none, up_po, soS_ok, soS_none, Bool.not_true, Bool.not_false, Bool.false_eq_true, Bool.true_and, Bool.false_and, Bool.and_true, Bool.and_false, Bool.true_or, Bool.false_or, Bool.or_true, Bool.or_false, if_true, if_false, Option.map_some, tr_bool, int_int, add_int, sub_int, ci, eq_int, beq_self_eq_true]
theorem field_t (a : Int) (ha : a.natAbs.log2 < 1920) (b : Bool) : f_law_field [.int 4, .int a, .bool b] = ok (.bool true) ∧ f_law_field [.int 6, .int a, .bool b] = ok (.bool true) ∧ f_law_field [.int 15, .int a, .bool b] = ok (.bool true) := by
  obtain ⟨n4, n6, n15⟩ := by_name_t a ha
  obtain ⟨f4, r4, g4, _⟩ := raised_t a ha 4 (by decide)
  obtain ⟨f6, r6, g6, _⟩ := raised_t a ha 6 (by decide)
  obtain ⟨f15, r15, _, g15⟩ := raised_t a ha 15 (by decide)
  rw [g4 (.inl rfl)] at r4
  rw [g6 (.inr rfl)] at r6
  rw [g15 rfl] at r15
  have r4' : f_law_raised [.int 4, .int a] = er ⟨"BadStep", some (PySem.Str.ofString "place", .int a)⟩ := r4
  have r6' : f_law_raised [.int 6, .int a] = er ⟨"BadWay", some (PySem.Str.ofString "place", .int a)⟩ := r6
  have r15' : f_law_raised [.int 15, .int a] = er ⟨"BadText", some (PySem.Str.ofString "line", .int a)⟩ := r15
  have t1 : tabl.lookup ("BadStep", "BadStep") = some true := by decide +kernel
  have t2 : tabl.lookup ("BadWay", "BadStep") = some false := by decide +kernel
  have t3 : tabl.lookup ("BadWay", "BadWay") = some true := by decide +kernel
  have t4 : tabl.lookup ("BadText", "BadStep") = some false := by decide +kernel
  have t5 : tabl.lookup ("BadText", "BadWay") = some false := by decide +kernel
  have t6 : tabl.lookup ("BadText", "BadText") = some true := by decide +kernel
  have c1 : cl_place.contains "BadStep" = true := by decide +kernel
  have c2 : cl_place.contains "BadWay" = true := by decide +kernel
  have c3 : cl_line.contains "BadText" = true := by decide +kernel
  refine ⟨?_, ?_, ?_⟩
  · refine field_end _ _ b (e := ⟨"BadStep", none⟩) (i := a) ?_ rfl
    refine (try_e (r1 := [.d (.int 4), .d (.int a), .d (.bool b), .d .none, .un]) (e := ⟨"BadStep", some (PySem.Str.ofString "place", .int a)⟩) (by cases b <;> simp only [e_vVar, e_vRd, e_vC, e_v1, e_v2, e_c1, e_c2, e_l1, e_l2, e_vL, e_vB, e_vArgs0, e_vArgs, e_vTup, e_vCall, e_vIf, e_bTr, e_bNot, e_bAnd, e_bOr, e_bChain, e_iSeq, e_iRange1, e_iRange2, e_vCut, e_vOpt0, e_vOpt, e_sNx, e_sBk, e_sCt, e_sSeq, e_sSet, e_sOwn, e_sPut, e_sFreeze, e_sRet, e_sExpr, e_sIf, e_sApp, e_sPar, e_sFor, runD, slots, so_ok, rb_ok, rb_none, so_none, po_some, List.getElem?_cons_zero, List.getElem?_cons_succ, List.set_cons_zero, List.set_cons_succ, List.map_cons, List.map_nil, List.length_cons, List.length_nil, List.replicate, List.append_nil, List.cons_append, List.nil_append, rb_er, so_er, e_sErr, e_sTry, e_iEnumE, e_sSetIx, e_uX, e_w1, e_w2, e_wc2, e_wl1, e_wl2, e_wL, e_wB, e_wTr, e_wNot, e_wAnd, e_wOr, e_wIf, e_wArgs0, e_wArgs, e_wTup, e_wCall, e_zSet, e_zOwn, e_zPut, e_zRet, e_zRt, e_zExpr, e_zIf, e_zFor, e_sRetL, sb_ok, sb_none, up_ok, up_none, up_po, soS_ok, soS_none, Bool.not_true, Bool.not_false, Bool.false_eq_true, Bool.true_and, Bool.false_and, Bool.and_true, Bool.and_false, Bool.true_or, Bool.false_or, Bool.or_true, Bool.or_false, if_true, if_false, Option.map_some, tr_bool, int_int, add_int, sub_int, n4, r4'])).trans ?_
    refine pick_yes t1 (show 4 < 5 by decide) (r2 := [.d (.int 4), .d (.int a), .d (.bool b), .d (.int a), .ex "BadStep" (some (PySem.Str.ofString "place", .int a))]) ?_
    have v := fld_at (cl := cl_place) (i := 4) (r := [.d (.int 4), .d (.int a), .d (.bool b), .d .none, .ex "BadStep" (some (PySem.Str.ofString "place", .int a))]) rfl c1
    simp only [e_vVar, e_vRd, e_vC, e_v1, e_v2, e_c1, e_c2, e_l1, e_l2, e_vL, e_vB, e_vArgs0, e_vArgs, e_vTup, e_vCall, e_vIf, e_bTr, e_bNot, e_bAnd, e_bOr, e_bChain, e_iSeq, e_iRange1, e_iRange2, e_vCut, e_vOpt0, e_vOpt, e_sNx, e_sBk, e_sCt, e_sSeq, e_sSet, e_sOwn, e_sPut, e_sFreeze, e_sRet, e_sExpr, e_sIf, e_sApp, e_sPar, e_sFor, runD, slots, so_ok, rb_ok, rb_none, so_none, po_some, List.getElem?_cons_zero, List.getElem?_cons_succ, List.set_cons_zero, List.set_cons_succ, List.map_cons, List.map_nil, List.length_cons, List.length_nil, List.replicate, List.append_nil, List.cons_append, List.nil_append, rb_er, so_er, e_sErr, e_sTry, e_iEnumE, e_sSetIx, e_uX, e_w1, e_w2, e_wc2, e_wl1, e_wl2, e_wL, e_wB, e_wTr, e_wNot, e_wAnd, e_wOr, e_wIf, e_wArgs0, e_wArgs, e_wTup, e_wCall, e_zSet, e_zOwn, e_zPut, e_zRet, e_zRt, e_zExpr, e_zIf, e_zFor, e_sRetL, sb_ok, sb_none, up_ok, up_none, up_po, soS_ok, soS_none, Bool.not_true, Bool.not_false, Bool.false_eq_true, Bool.true_and, Bool.false_and, Bool.and_true, Bool.and_false, Bool.true_or, Bool.false_or, Bool.or_true, Bool.or_false, if_true, if_false, Option.map_some, tr_bool, int_int, add_int, sub_int, v]
  · refine field_end _ _ b (e := ⟨"BadWay", none⟩) (i := a) ?_ rfl
    refine (try_e (r1 := [.d (.int 6), .d (.int a), .d (.bool b), .d .none, .un]) (e := ⟨"BadWay", some (PySem.Str.ofString "place", .int a)⟩) (by cases b <;> simp only [e_vVar, e_vRd, e_vC, e_v1, e_v2, e_c1, e_c2, e_l1, e_l2, e_vL, e_vB, e_vArgs0, e_vArgs, e_vTup, e_vCall, e_vIf, e_bTr, e_bNot, e_bAnd, e_bOr, e_bChain, e_iSeq, e_iRange1, e_iRange2, e_vCut, e_vOpt0, e_vOpt, e_sNx, e_sBk, e_sCt, e_sSeq, e_sSet, e_sOwn, e_sPut, e_sFreeze, e_sRet, e_sExpr, e_sIf, e_sApp, e_sPar, e_sFor, runD, slots, so_ok, rb_ok, rb_none, so_none, po_some, List.getElem?_cons_zero, List.getElem?_cons_succ, List.set_cons_zero, List.set_cons_succ, List.map_cons, List.map_nil, List.length_cons, List.length_nil, List.replicate, List.append_nil, List.cons_append, List.nil_append, rb_er, so_er, e_sErr, e_sTry, e_iEnumE, e_sSetIx, e_uX, e_w1, e_w2, e_wc2, e_wl1, e_wl2, e_wL, e_wB, e_wTr, e_wNot, e_wAnd, e_wOr, e_wIf, e_wArgs0, e_wArgs, e_wTup, e_wCall, e_zSet, e_zOwn, e_zPut, e_zRet, e_zRt, e_zExpr, e_zIf, e_zFor, e_sRetL, sb_ok, sb_none, up_ok, up_none, up_po, soS_ok, soS_none, Bool.not_true, Bool.not_false, Bool.false_eq_true, Bool.true_and, Bool.false_and, Bool.and_true, Bool.and_false, Bool.true_or, Bool.false_or, Bool.or_true, Bool.or_false, if_true, if_false, Option.map_some, tr_bool, int_int, add_int, sub_int, n6, r6'])).trans ?_
    refine (pick_no t2).trans ?_
    refine pick_yes t3 (show 4 < 5 by decide) (r2 := [.d (.int 6), .d (.int a), .d (.bool b), .d (.int a), .ex "BadWay" (some (PySem.Str.ofString "place", .int a))]) ?_
    have v := fld_at (cl := cl_place) (i := 4) (r := [.d (.int 6), .d (.int a), .d (.bool b), .d .none, .ex "BadWay" (some (PySem.Str.ofString "place", .int a))]) rfl c2
    simp only [e_vVar, e_vRd, e_vC, e_v1, e_v2, e_c1, e_c2, e_l1, e_l2, e_vL, e_vB, e_vArgs0, e_vArgs, e_vTup, e_vCall, e_vIf, e_bTr, e_bNot, e_bAnd, e_bOr, e_bChain, e_iSeq, e_iRange1, e_iRange2, e_vCut, e_vOpt0, e_vOpt, e_sNx, e_sBk, e_sCt, e_sSeq, e_sSet, e_sOwn, e_sPut, e_sFreeze, e_sRet, e_sExpr, e_sIf, e_sApp, e_sPar, e_sFor, runD, slots, so_ok, rb_ok, rb_none, so_none, po_some, List.getElem?_cons_zero, List.getElem?_cons_succ, List.set_cons_zero, List.set_cons_succ, List.map_cons, List.map_nil, List.length_cons, List.length_nil, List.replicate, List.append_nil, List.cons_append, List.nil_append, rb_er, so_er, e_sErr, e_sTry, e_iEnumE, e_sSetIx, e_uX, e_w1, e_w2, e_wc2, e_wl1, e_wl2, e_wL, e_wB, e_wTr, e_wNot, e_wAnd, e_wOr, e_wIf, e_wArgs0, e_wArgs, e_wTup, e_wCall, e_zSet, e_zOwn, e_zPut, e_zRet, e_zRt, e_zExpr, e_zIf, e_zFor, e_sRetL, sb_ok, sb_none, up_ok, up_none, up_po, soS_ok, soS_none, Bool.not_true, Bool.not_false, Bool.false_eq_true, Bool.true_and, Bool.false_and, Bool.and_true, Bool.and_false, Bool.true_or, Bool.false_or, Bool.or_true, Bool.or_false, if_true, if_false, Option.map_some, tr_bool, int_int, add_int, sub_int, v]
  · refine field_end _ _ b (e := ⟨"BadText", none⟩) (i := a) ?_ rfl
    refine (try_e (r1 := [.d (.int 15), .d (.int a), .d (.bool b), .d .none, .un]) (e := ⟨"BadText", some (PySem.Str.ofString "line", .int a)⟩) (by cases b <;> simp only [e_vVar, e_vRd, e_vC, e_v1, e_v2, e_c1, e_c2, e_l1, e_l2, e_vL, e_vB, e_vArgs0, e_vArgs, e_vTup, e_vCall, e_vIf, e_bTr, e_bNot, e_bAnd, e_bOr, e_bChain, e_iSeq, e_iRange1, e_iRange2, e_vCut, e_vOpt0, e_vOpt, e_sNx, e_sBk, e_sCt, e_sSeq, e_sSet, e_sOwn, e_sPut, e_sFreeze, e_sRet, e_sExpr, e_sIf, e_sApp, e_sPar, e_sFor, runD, slots, so_ok, rb_ok, rb_none, so_none, po_some, List.getElem?_cons_zero, List.getElem?_cons_succ, List.set_cons_zero, List.set_cons_succ, List.map_cons, List.map_nil, List.length_cons, List.length_nil, List.replicate, List.append_nil, List.cons_append, List.nil_append, rb_er, so_er, e_sErr, e_sTry, e_iEnumE, e_sSetIx, e_uX, e_w1, e_w2, e_wc2, e_wl1, e_wl2, e_wL, e_wB, e_wTr, e_wNot, e_wAnd, e_wOr, e_wIf, e_wArgs0, e_wArgs, e_wTup, e_wCall, e_zSet, e_zOwn, e_zPut, e_zRet, e_zRt, e_zExpr, e_zIf, e_zFor, e_sRetL, sb_ok, sb_none, up_ok, up_none, up_po, soS_ok, soS_none, Bool.not_true, Bool.not_false, Bool.false_eq_true, Bool.true_and, Bool.false_and, Bool.and_true, Bool.and_false, Bool.true_or, Bool.false_or, Bool.or_true, Bool.or_false, if_true, if_false, Option.map_some, tr_bool, int_int, add_int, sub_int, n15, r15'])).trans ?_
    refine (pick_no t4).trans ?_
    refine (pick_no t5).trans ?_
    refine pick_yes t6 (show 4 < 5 by decide) (r2 := [.d (.int 15), .d (.int a), .d (.bool b), .d (.int a), .ex "BadText" (some (PySem.Str.ofString "line", .int a))]) ?_
    have v := fld_at (cl := cl_line) (i := 4) (r := [.d (.int 15), .d (.int a), .d (.bool b), .d .none, .ex "BadText" (some (PySem.Str.ofString "line", .int a))]) rfl c3
    simp only [e_vVar, e_vRd, e_vC, e_v1, e_v2, e_c1, e_c2, e_l1, e_l2, e_vL, e_vB, e_vArgs0, e_vArgs, e_vTup, e_vCall, e_vIf, e_bTr, e_bNot, e_bAnd, e_bOr, e_bChain, e_iSeq, e_iRange1, e_iRange2, e_vCut, e_vOpt0, e_vOpt, e_sNx, e_sBk, e_sCt, e_sSeq, e_sSet, e_sOwn, e_sPut, e_sFreeze, e_sRet, e_sExpr, e_sIf, e_sApp, e_sPar, e_sFor, runD, slots, so_ok, rb_ok, rb_none, so_none, po_some, List.getElem?_cons_zero, List.getElem?_cons_succ, List.set_cons_zero, List.set_cons_succ, List.map_cons, List.map_nil, List.length_cons, List.length_nil, List.replicate, List.append_nil, List.cons_append, List.nil_append, rb_er, so_er, e_sErr, e_sTry, e_iEnumE, e_sSetIx, e_uX, e_w1, e_w2, e_wc2, e_wl1, e_wl2, e_wL, e_wB, e_wTr, e_wNot, e_wAnd, e_wOr, e_wIf, e_wArgs0, e_wArgs, e_wTup, e_wCall, e_zSet, e_zOwn, e_zPut, e_zRet, e_zRt, e_zExpr, e_zIf, e_zFor, e_sRetL, sb_ok, sb_none, up_ok, up_none, up_po, soS_ok, soS_none, Bool.not_true, Bool.not_false, Bool.false_eq_true, Bool.true_and, Bool.false_and, Bool.and_true, Bool.and_false, Bool.true_or, Bool.false_or, Bool.or_true, Bool.or_false, if_true, if_false, Option.map_some, tr_bool, int_int, add_int, sub_int, v]
theorem loopn {g : Tg} {b : SX} {x : D} {xs : List D} {r r1 r2 : DL.Env} (h1 : g.put x r = some r1) (h2 : b r1 = some (.nx r2)) : loopF g b (x :: xs) r = loopF g b xs r2 := by
  rw [loopF, h1]
  dsimp only
  rw [h2]
theorem cut_len0 (xs : List D) (lo hi : Option Int) : (cutD xs lo hi).length ≤ xs.length := by
  unfold cutD
  rw [List.length_take, List.length_drop]
  omega
theorem cut_in {xs : List D} {lo hi : Option Int} {x : D} (h : x ∈ cutD xs lo hi) : x ∈ xs := List.mem_of_mem_drop (List.mem_of_mem_take h)
theorem cell_t (ns : List Int) : ∃ c : Int, f_law_cell [.list (ns.map PyData.int), .int 0] = ok (.int c) := by
  cases ns with
  | nil => exact ⟨0, by simp [f_law_cell, b_law_cell, e_vVar, e_vRd, e_vC, e_v1, e_v2, e_c1, e_c2, e_l1, e_l2, e_vL, e_vB, e_vArgs0, e_vArgs, e_vTup, e_vCall, e_vIf, e_bTr, e_bNot, e_bAnd, e_bOr, e_bChain, e_iSeq, e_iRange1, e_iRange2, e_vCut, e_vOpt0, e_vOpt, e_sNx, e_sBk, e_sCt, e_sSeq, e_sSet, e_sOwn, e_sPut, e_sFreeze, e_sRet, e_sExpr, e_sIf, e_sApp, e_sPar, e_sFor, runD, slots, so_ok, rb_ok, rb_none, so_none, po_some, List.getElem?_cons_zero, List.getElem?_cons_succ, List.set_cons_zero, List.set_cons_succ, List.map_cons, List.map_nil, List.length_cons, List.length_nil, List.replicate, List.append_nil, List.cons_append, List.nil_append, rb_er, so_er, e_sErr, e_sTry, e_iEnumE, e_sSetIx, e_uX, e_w1, e_w2, e_wc2, e_wl1, e_wl2, e_wL, e_wB, e_wTr, e_wNot, e_wAnd, e_wOr, e_wIf, e_wArgs0, e_wArgs, e_wTup, e_wCall, e_zSet, e_zOwn, e_zPut, e_zRet, e_zRt, e_zExpr, e_zIf, e_zFor, e_sRetL, sb_ok, sb_none, up_ok, up_none, up_po, soS_ok, soS_none, Bool.not_true, Bool.not_false, Bool.false_eq_true, Bool.true_and, Bool.false_and, Bool.and_true, Bool.and_false, Bool.true_or, Bool.false_or, Bool.or_true, Bool.or_false, if_true, if_false, Option.map_some, tr_bool, int_int, add_int, sub_int, len_list, lt_int]⟩
  | cons n ns =>
    have e : dIx (.list ((n :: ns).map PyData.int)) (.int 0) = some (.int n) := ixl ((n :: ns).map PyData.int) 0
    have l : (0 : Int) < ((((n :: ns).map PyData.int).length : Nat) : Int) := by rw [List.length_map, List.length_cons]; omega
    generalize (n :: ns).map PyData.int = xs at e l
    exact ⟨n, by simp only [f_law_cell, b_law_cell, e_vVar, e_vRd, e_vC, e_v1, e_v2, e_c1, e_c2, e_l1, e_l2, e_vL, e_vB, e_vArgs0, e_vArgs, e_vTup, e_vCall, e_vIf, e_bTr, e_bNot, e_bAnd, e_bOr, e_bChain, e_iSeq, e_iRange1, e_iRange2, e_vCut, e_vOpt0, e_vOpt, e_sNx, e_sBk, e_sCt, e_sSeq, e_sSet, e_sOwn, e_sPut, e_sFreeze, e_sRet, e_sExpr, e_sIf, e_sApp, e_sPar, e_sFor, runD, slots, so_ok, rb_ok, rb_none, so_none, po_some, List.getElem?_cons_zero, List.getElem?_cons_succ, List.set_cons_zero, List.set_cons_succ, List.map_cons, List.map_nil, List.length_cons, List.length_nil, List.replicate, List.append_nil, List.cons_append, List.nil_append, rb_er, so_er, e_sErr, e_sTry, e_iEnumE, e_sSetIx, e_uX, e_w1, e_w2, e_wc2, e_wl1, e_wl2, e_wL, e_wB, e_wTr, e_wNot, e_wAnd, e_wOr, e_wIf, e_wArgs0, e_wArgs, e_wTup, e_wCall, e_zSet, e_zOwn, e_zPut, e_zRet, e_zRt, e_zExpr, e_zIf, e_zFor, e_sRetL, sb_ok, sb_none, up_ok, up_none, up_po, soS_ok, soS_none, Bool.not_true, Bool.not_false, Bool.false_eq_true, Bool.true_and, Bool.false_and, Bool.and_true, Bool.and_false, Bool.true_or, Bool.false_or, Bool.or_true, Bool.or_false, if_true, if_false, Option.map_some, tr_bool, int_int, add_int, sub_int, len_list, lt_int, l, decide_true, e]⟩
theorem comp_t (s0 s2 s3 s4 : DL.Slot) (k : Nat) : lComp (iRange1 (vC (.int 18))) (.one 4) bYes (vB (bOr (c2 cEq (vVar 4) (vVar 1)) (c2 cEq (vVar 4) (vC (.int 17))))) [s0, .d (.int (k : Nat)), s2, s3, s4] = ok (kin k) := by
  have hr : rng1 (.int 18) = some (rng 0 18) := rng1_nat (n := 18) (by decide)
  exact lcomp_map (gin k) (by simp only [e_vVar, e_vRd, e_vC, e_v1, e_v2, e_c1, e_c2, e_l1, e_l2, e_vL, e_vB, e_vArgs0, e_vArgs, e_vTup, e_vCall, e_vIf, e_bTr, e_bNot, e_bAnd, e_bOr, e_bChain, e_iSeq, e_iRange1, e_iRange2, e_vCut, e_vOpt0, e_vOpt, e_sNx, e_sBk, e_sCt, e_sSeq, e_sSet, e_sOwn, e_sPut, e_sFreeze, e_sRet, e_sExpr, e_sIf, e_sApp, e_sPar, e_sFor, runD, slots, so_ok, rb_ok, rb_none, so_none, po_some, List.getElem?_cons_zero, List.getElem?_cons_succ, List.set_cons_zero, List.set_cons_succ, List.map_cons, List.map_nil, List.length_cons, List.length_nil, List.replicate, List.append_nil, List.cons_append, List.nil_append, rb_er, so_er, e_sErr, e_sTry, e_iEnumE, e_sSetIx, e_uX, e_w1, e_w2, e_wc2, e_wl1, e_wl2, e_wL, e_wB, e_wTr, e_wNot, e_wAnd, e_wOr, e_wIf, e_wArgs0, e_wArgs, e_wTup, e_wCall, e_zSet, e_zOwn, e_zPut, e_zRet, e_zRt, e_zExpr, e_zIf, e_zFor, e_sRetL, sb_ok, sb_none, up_ok, up_none, up_po, soS_ok, soS_none, Bool.not_true, Bool.not_false, Bool.false_eq_true, Bool.true_and, Bool.false_and, Bool.and_true, Bool.and_false, Bool.true_or, Bool.false_or, Bool.or_true, Bool.or_false, if_true, if_false, Option.map_some, tr_bool, int_int, add_int, sub_int, hr]) (by rw [rng_size]; decide) (fun x hx => by
    obtain ⟨j, hj, rfl⟩ := rng_mem hx
    have fin : vB (bOr (c2 cEq (vVar 4) (vVar 1)) (c2 cEq (vVar 4) (vC (.int 17)))) [s0, .d (.int (k : Nat)), s2, s3, .d (.int (j : Nat))] = ok (.bool (((j : Nat) : Int) == ((k : Nat) : Int) || ((j : Nat) : Int) == 17)) := by
      cases h : (((j : Nat) : Int) == ((k : Nat) : Int)) <;> simp only [e_vVar, e_vRd, e_vC, e_v1, e_v2, e_c1, e_c2, e_l1, e_l2, e_vL, e_vB, e_vArgs0, e_vArgs, e_vTup, e_vCall, e_vIf, e_bTr, e_bNot, e_bAnd, e_bOr, e_bChain, e_iSeq, e_iRange1, e_iRange2, e_vCut, e_vOpt0, e_vOpt, e_sNx, e_sBk, e_sCt, e_sSeq, e_sSet, e_sOwn, e_sPut, e_sFreeze, e_sRet, e_sExpr, e_sIf, e_sApp, e_sPar, e_sFor, runD, slots, so_ok, rb_ok, rb_none, so_none, po_some, List.getElem?_cons_zero, List.getElem?_cons_succ, List.set_cons_zero, List.set_cons_succ, List.map_cons, List.map_nil, List.length_cons, List.length_nil, List.replicate, List.append_nil, List.cons_append, List.nil_append, rb_er, so_er, e_sErr, e_sTry, e_iEnumE, e_sSetIx, e_uX, e_w1, e_w2, e_wc2, e_wl1, e_wl2, e_wL, e_wB, e_wTr, e_wNot, e_wAnd, e_wOr, e_wIf, e_wArgs0, e_wArgs, e_wTup, e_wCall, e_zSet, e_zOwn, e_zPut, e_zRet, e_zRt, e_zExpr, e_zIf, e_zFor, e_sRetL, sb_ok, sb_none, up_ok, up_none, up_po, soS_ok, soS_none, Bool.not_true, Bool.not_false, Bool.false_eq_true, Bool.true_and, Bool.false_and, Bool.and_true, Bool.and_false, Bool.true_or, Bool.false_or, Bool.or_true, Bool.or_false, if_true, if_false, Option.map_some, tr_bool, int_int, add_int, sub_int, eq_int, h]
    exact fin)
theorem law_true (ns : List Int) (hns : ns.length ≤ 63) : f_law [.list (ns.map PyData.int)] = ok (.bool true) := by
  have LIM : lim = 16777216 := rfl
  obtain ⟨c, hc⟩ := cell_t ns
  have cl := cut_len0 (ns.map PyData.int) (some 1) (some 63)
  have ci : ∀ x ∈ PyData.int c :: cutD (ns.map PyData.int) (some 1) (some 63), ∃ i : Int, x = .int i := fun x hx => by
    rcases List.mem_cons.mp hx with h | h
    · exact ⟨c, h⟩
    · obtain ⟨i, _, e⟩ := List.mem_map.mp (cut_in h)
      exact ⟨i, e.symm⟩
  have ad : dAdd (.list [.int c]) (.list (cutD (ns.map PyData.int) (some 1) (some 63))) = some (.list (.int c :: cutD (ns.map PyData.int) (some 1) (some 63))) := add_list _ _ (by rw [List.length_append, List.length_singleton]; rw [List.length_map] at cl; omega)
  have cu : dCut (some 1) (some 63) (.list (ns.map PyData.int)) = some (.list (cutD (ns.map PyData.int) (some 1) (some 63))) := rfl
  generalize hX : PyData.int c :: cutD (ns.map PyData.int) (some 1) (some 63) = Xs at ci ad
  generalize cutD (ns.map PyData.int) (some 1) (some 63) = Cs at ad cu
  generalize ns.map PyData.int = N at hc cu
  have kin3 := fun k hk => kinds_t 3 (by decide) k hk
  have hr : rng1 (.int 17) = some (rng 0 17) := rng1_nat (n := 17) (by decide)
  obtain ⟨⟨s1, s2, s3, s4⟩, _, k1⟩ := loopS (g := .one 1) (b := (sIf (c2 cNe (vCall f_law_kinds [(vVar 1), (vC (.int 3))]) (vL (lComp (iRange1 (vC (.int 18))) (.one 4) bYes (vB (bOr (c2 cEq (vVar 4) (vVar 1)) (c2 cEq (vVar 4) (vC (.int 17)))))))) (sRet (vC (.bool false))) sNx)) (fun (_ : Unit) (s : DL.Slot × DL.Slot × DL.Slot × DL.Slot) => [.d (.list N), s.1, s.2.1, s.2.2.1, s.2.2.2]) (fun _ _ => True) (rng 0 17) 0 (.un, .un, .un, .un) trivial (by
    rintro k ⟨s1, s2, s3, s4⟩ x hx _
    have hk : k < 17 := by have := (List.getElem?_eq_some_iff.mp hx).1; rw [rng_size] at this; exact this
    rw [rng_at 0 17 k hk] at hx
    cases hx
    rw [show (0 : Int) + (k : Nat) = (k : Nat) by omega]
    have h1 := kin3 k hk
    have h2 := comp_t (.d (.list N)) s2 s3 s4 k
    have h3 := kne ⟨k, hk⟩
    dsimp only at h3
    generalize kin k = Z at h1 h2 h3
    exact ⟨(.d (.int (k : Nat)), s2, s3, s4), trivial, fun _ => ⟨_, rfl, .inl (by simp only [e_vVar, e_vRd, e_vC, e_v1, e_v2, e_c1, e_c2, e_l1, e_l2, e_vL, e_vB, e_vArgs0, e_vArgs, e_vTup, e_vCall, e_vIf, e_bTr, e_bNot, e_bAnd, e_bOr, e_bChain, e_iSeq, e_iRange1, e_iRange2, e_vCut, e_vOpt0, e_vOpt, e_sNx, e_sBk, e_sCt, e_sSeq, e_sSet, e_sOwn, e_sPut, e_sFreeze, e_sRet, e_sExpr, e_sIf, e_sApp, e_sPar, e_sFor, runD, slots, so_ok, rb_ok, rb_none, so_none, po_some, List.getElem?_cons_zero, List.getElem?_cons_succ, List.set_cons_zero, List.set_cons_succ, List.map_cons, List.map_nil, List.length_cons, List.length_nil, List.replicate, List.append_nil, List.cons_append, List.nil_append, rb_er, so_er, e_sErr, e_sTry, e_iEnumE, e_sSetIx, e_uX, e_w1, e_w2, e_wc2, e_wl1, e_wl2, e_wL, e_wB, e_wTr, e_wNot, e_wAnd, e_wOr, e_wIf, e_wArgs0, e_wArgs, e_wTup, e_wCall, e_zSet, e_zOwn, e_zPut, e_zRet, e_zRt, e_zExpr, e_zIf, e_zFor, e_sRetL, sb_ok, sb_none, up_ok, up_none, up_po, soS_ok, soS_none, Bool.not_true, Bool.not_false, Bool.false_eq_true, Bool.true_and, Bool.false_and, Bool.and_true, Bool.and_false, Bool.true_or, Bool.false_or, Bool.or_true, Bool.or_false, if_true, if_false, Option.map_some, tr_bool, int_int, add_int, sub_int, h1, h2, h3])⟩⟩)
  have p60 : dPow (.int 10) (.int 60) = some (.int 1000000000000000000000000000000000000000000000000000000000000) := rfl
  obtain ⟨⟨t1, t2, t3, t4⟩, _, k2⟩ := loopS (g := .one 2) (b := (sSeq (sSet 3 (v2 dSub (v2 dMod (v1 dInt (vVar 2)) (v2 dPow (vC (.int 10)) (vC (.int 60)))) (vC (.int 5)))) (sFor (iSeq (vL (vArgs [(vC (.int 4)), (vC (.int 6)), (vC (.int 15))]))) (.one 1) (sSeq (sIf (bOr (bNot (bTr (vCall f_law_field [(vVar 1), (vVar 3), (vC (.bool false))]))) (bNot (bTr (vCall f_law_field [(vVar 1), (vVar 3), (vC (.bool true))])))) (sRet (vC (.bool false))) sNx) (sIf (c2 cNe (vCall f_law_kinds [(vVar 1), (vVar 3)]) (vL (lComp (iRange1 (vC (.int 18))) (.one 4) bYes (vB (bOr (c2 cEq (vVar 4) (vVar 1)) (c2 cEq (vVar 4) (vC (.int 17)))))))) (sRet (vC (.bool false))) sNx))))) (fun (_ : Unit) (s : DL.Slot × DL.Slot × DL.Slot × DL.Slot) => [.d (.list N), s.1, s.2.1, s.2.2.1, s.2.2.2]) (fun _ _ => True) Xs 0 (s1, s2, s3, s4) trivial (by
    rintro k ⟨s1, s2, s3, s4⟩ x hx _
    obtain ⟨i, rfl⟩ := ci x (List.mem_of_getElem? hx)
    have mo := mod_int i 1000000000000000000000000000000000000000000000000000000000000 (by decide)
    have m1 := Int.emod_nonneg i (show (1000000000000000000000000000000000000000000000000000000000000 : Int) ≠ 0 by decide)
    have m2 := Int.emod_lt_of_pos i (show (0 : Int) < 1000000000000000000000000000000000000000000000000000000000000 by decide)
    generalize i % 1000000000000000000000000000000000000000000000000000000000000 = m at mo m1 m2
    have hl : (m - 5).natAbs.log2 < 1920 := by
      by_cases z : (m - 5).natAbs = 0
      · rw [z]; decide
      · have l1 : (m - 5).natAbs < 2 ^ 250 := by omega
        exact Nat.lt_trans ((Nat.log2_lt z).mpr l1) (by decide)
    generalize ha : m - 5 = a at hl
    have f1 := field_t a hl false
    have f2 := field_t a hl true
    have one : ∀ k : Nat, k < 17 → f_law_field [.int (k : Nat), .int a, .bool false] = ok (.bool true) → f_law_field [.int (k : Nat), .int a, .bool true] = ok (.bool true) → (sSeq (sIf (bOr (bNot (bTr (vCall f_law_field [(vVar 1), (vVar 3), (vC (.bool false))]))) (bNot (bTr (vCall f_law_field [(vVar 1), (vVar 3), (vC (.bool true))])))) (sRet (vC (.bool false))) sNx) (sIf (c2 cNe (vCall f_law_kinds [(vVar 1), (vVar 3)]) (vL (lComp (iRange1 (vC (.int 18))) (.one 4) bYes (vB (bOr (c2 cEq (vVar 4) (vVar 1)) (c2 cEq (vVar 4) (vC (.int 17)))))))) (sRet (vC (.bool false))) sNx)) [.d (.list N), .d (.int (k : Nat)), .d (.int i), .d (.int a), s4] = some (.nx [.d (.list N), .d (.int (k : Nat)), .d (.int i), .d (.int a), s4]) := by
      intro k hk g1 g2
      have h1 := kinds_t a hl k hk
      have h2 := comp_t (.d (.list N)) (.d (.int i)) (.d (.int a)) s4 k
      have h3 := kne ⟨k, hk⟩
      dsimp only at h3
      generalize kin k = Z at h1 h2 h3
      simp only [e_vVar, e_vRd, e_vC, e_v1, e_v2, e_c1, e_c2, e_l1, e_l2, e_vL, e_vB, e_vArgs0, e_vArgs, e_vTup, e_vCall, e_vIf, e_bTr, e_bNot, e_bAnd, e_bOr, e_bChain, e_iSeq, e_iRange1, e_iRange2, e_vCut, e_vOpt0, e_vOpt, e_sNx, e_sBk, e_sCt, e_sSeq, e_sSet, e_sOwn, e_sPut, e_sFreeze, e_sRet, e_sExpr, e_sIf, e_sApp, e_sPar, e_sFor, runD, slots, so_ok, rb_ok, rb_none, so_none, po_some, List.getElem?_cons_zero, List.getElem?_cons_succ, List.set_cons_zero, List.set_cons_succ, List.map_cons, List.map_nil, List.length_cons, List.length_nil, List.replicate, List.append_nil, List.cons_append, List.nil_append, rb_er, so_er, e_sErr, e_sTry, e_iEnumE, e_sSetIx, e_uX, e_w1, e_w2, e_wc2, e_wl1, e_wl2, e_wL, e_wB, e_wTr, e_wNot, e_wAnd, e_wOr, e_wIf, e_wArgs0, e_wArgs, e_wTup, e_wCall, e_zSet, e_zOwn, e_zPut, e_zRet, e_zRt, e_zExpr, e_zIf, e_zFor, e_sRetL, sb_ok, sb_none, up_ok, up_none, up_po, soS_ok, soS_none, Bool.not_true, Bool.not_false, Bool.false_eq_true, Bool.true_and, Bool.false_and, Bool.and_true, Bool.and_false, Bool.true_or, Bool.false_or, Bool.or_true, Bool.or_false, if_true, if_false, Option.map_some, tr_bool, int_int, add_int, sub_int, g1, g2, h1, h2, h3]
    have o4 := one 4 (by decide) f1.1 f2.1
    have o6 := one 6 (by decide) f1.2.1 f2.2.1
    have o15 := one 15 (by decide) f1.2.2 f2.2.2
    refine ⟨(.d (.int 15), .d (.int i), .d (.int a), s4), trivial, fun _ => ⟨_, rfl, .inl ?_⟩⟩
    refine seq_nx (r1 := [.d (.list N), s1, .d (.int i), .d (.int a), s4]) (by simp only [e_vVar, e_vRd, e_vC, e_v1, e_v2, e_c1, e_c2, e_l1, e_l2, e_vL, e_vB, e_vArgs0, e_vArgs, e_vTup, e_vCall, e_vIf, e_bTr, e_bNot, e_bAnd, e_bOr, e_bChain, e_iSeq, e_iRange1, e_iRange2, e_vCut, e_vOpt0, e_vOpt, e_sNx, e_sBk, e_sCt, e_sSeq, e_sSet, e_sOwn, e_sPut, e_sFreeze, e_sRet, e_sExpr, e_sIf, e_sApp, e_sPar, e_sFor, runD, slots, so_ok, rb_ok, rb_none, so_none, po_some, List.getElem?_cons_zero, List.getElem?_cons_succ, List.set_cons_zero, List.set_cons_succ, List.map_cons, List.map_nil, List.length_cons, List.length_nil, List.replicate, List.append_nil, List.cons_append, List.nil_append, rb_er, so_er, e_sErr, e_sTry, e_iEnumE, e_sSetIx, e_uX, e_w1, e_w2, e_wc2, e_wl1, e_wl2, e_wL, e_wB, e_wTr, e_wNot, e_wAnd, e_wOr, e_wIf, e_wArgs0, e_wArgs, e_wTup, e_wCall, e_zSet, e_zOwn, e_zPut, e_zRet, e_zRt, e_zExpr, e_zIf, e_zFor, e_sRetL, sb_ok, sb_none, up_ok, up_none, up_po, soS_ok, soS_none, Bool.not_true, Bool.not_false, Bool.false_eq_true, Bool.true_and, Bool.false_and, Bool.and_true, Bool.and_false, Bool.true_or, Bool.false_or, Bool.or_true, Bool.or_false, if_true, if_false, Option.map_some, tr_bool, int_int, add_int, sub_int, p60, mo, ha]) ?_
    rw [e_sFor]
    simp only [e_vVar, e_vRd, e_vC, e_v1, e_v2, e_c1, e_c2, e_l1, e_l2, e_vL, e_vB, e_vArgs0, e_vArgs, e_vTup, e_vCall, e_vIf, e_bTr, e_bNot, e_bAnd, e_bOr, e_bChain, e_iSeq, e_iRange1, e_iRange2, e_vCut, e_vOpt0, e_vOpt, e_sNx, e_sBk, e_sCt, e_sSeq, e_sSet, e_sOwn, e_sPut, e_sFreeze, e_sRet, e_sExpr, e_sIf, e_sApp, e_sPar, e_sFor, runD, slots, so_ok, rb_ok, rb_none, so_none, po_some, List.getElem?_cons_zero, List.getElem?_cons_succ, List.set_cons_zero, List.set_cons_succ, List.map_cons, List.map_nil, List.length_cons, List.length_nil, List.replicate, List.append_nil, List.cons_append, List.nil_append, rb_er, so_er, e_sErr, e_sTry, e_iEnumE, e_sSetIx, e_uX, e_w1, e_w2, e_wc2, e_wl1, e_wl2, e_wL, e_wB, e_wTr, e_wNot, e_wAnd, e_wOr, e_wIf, e_wArgs0, e_wArgs, e_wTup, e_wCall, e_zSet, e_zOwn, e_zPut, e_zRet, e_zRt, e_zExpr, e_zIf, e_zFor, e_sRetL, sb_ok, sb_none, up_ok, up_none, up_po, soS_ok, soS_none, Bool.not_true, Bool.not_false, Bool.false_eq_true, Bool.true_and, Bool.false_and, Bool.and_true, Bool.and_false, Bool.true_or, Bool.false_or, Bool.or_true, Bool.or_false, if_true, if_false, Option.map_some, tr_bool, int_int, add_int, sub_int, seq_list]
    exact (loopn (r1 := [.d (.list N), .d (.int (4 : Nat)), .d (.int i), .d (.int a), s4]) rfl o4).trans ((loopn (r1 := [.d (.list N), .d (.int (6 : Nat)), .d (.int i), .d (.int a), s4]) rfl o6).trans (loopn (r1 := [.d (.list N), .d (.int (15 : Nat)), .d (.int i), .d (.int a), s4]) rfl o15)))
  suffices h : b_law (slots 5 [.list N]) = some (.rt (.bool true)) by
    simp only [f_law, runD, h, List.length_cons, List.length_nil, if_true]
  have z : slots 5 [.list N] = [.d (.list N), .un, .un, .un, .un] := rfl
  rw [b_law, z]
  refine seq_nx (r1 := [.d (.list N), s1, s2, s3, s4]) (by rw [e_sFor]; simp only [e_vVar, e_vRd, e_vC, e_v1, e_v2, e_c1, e_c2, e_l1, e_l2, e_vL, e_vB, e_vArgs0, e_vArgs, e_vTup, e_vCall, e_vIf, e_bTr, e_bNot, e_bAnd, e_bOr, e_bChain, e_iSeq, e_iRange1, e_iRange2, e_vCut, e_vOpt0, e_vOpt, e_sNx, e_sBk, e_sCt, e_sSeq, e_sSet, e_sOwn, e_sPut, e_sFreeze, e_sRet, e_sExpr, e_sIf, e_sApp, e_sPar, e_sFor, runD, slots, so_ok, rb_ok, rb_none, so_none, po_some, List.getElem?_cons_zero, List.getElem?_cons_succ, List.set_cons_zero, List.set_cons_succ, List.map_cons, List.map_nil, List.length_cons, List.length_nil, List.replicate, List.append_nil, List.cons_append, List.nil_append, rb_er, so_er, e_sErr, e_sTry, e_iEnumE, e_sSetIx, e_uX, e_w1, e_w2, e_wc2, e_wl1, e_wl2, e_wL, e_wB, e_wTr, e_wNot, e_wAnd, e_wOr, e_wIf, e_wArgs0, e_wArgs, e_wTup, e_wCall, e_zSet, e_zOwn, e_zPut, e_zRet, e_zRt, e_zExpr, e_zIf, e_zFor, e_sRetL, sb_ok, sb_none, up_ok, up_none, up_po, soS_ok, soS_none, Bool.not_true, Bool.not_false, Bool.false_eq_true, Bool.true_and, Bool.false_and, Bool.and_true, Bool.and_false, Bool.true_or, Bool.false_or, Bool.or_true, Bool.or_false, if_true, if_false, Option.map_some, tr_bool, int_int, add_int, sub_int, hr]; exact k1 ()) ?_
  refine seq_nx (r1 := [.d (.list N), t1, t2, t3, t4]) (by rw [e_sFor]; simp only [e_vVar, e_vRd, e_vC, e_v1, e_v2, e_c1, e_c2, e_l1, e_l2, e_vL, e_vB, e_vArgs0, e_vArgs, e_vTup, e_vCall, e_vIf, e_bTr, e_bNot, e_bAnd, e_bOr, e_bChain, e_iSeq, e_iRange1, e_iRange2, e_vCut, e_vOpt0, e_vOpt, e_sNx, e_sBk, e_sCt, e_sSeq, e_sSet, e_sOwn, e_sPut, e_sFreeze, e_sRet, e_sExpr, e_sIf, e_sApp, e_sPar, e_sFor, runD, slots, so_ok, rb_ok, rb_none, so_none, po_some, List.getElem?_cons_zero, List.getElem?_cons_succ, List.set_cons_zero, List.set_cons_succ, List.map_cons, List.map_nil, List.length_cons, List.length_nil, List.replicate, List.append_nil, List.cons_append, List.nil_append, rb_er, so_er, e_sErr, e_sTry, e_iEnumE, e_sSetIx, e_uX, e_w1, e_w2, e_wc2, e_wl1, e_wl2, e_wL, e_wB, e_wTr, e_wNot, e_wAnd, e_wOr, e_wIf, e_wArgs0, e_wArgs, e_wTup, e_wCall, e_zSet, e_zOwn, e_zPut, e_zRet, e_zRt, e_zExpr, e_zIf, e_zFor, e_sRetL, sb_ok, sb_none, up_ok, up_none, up_po, soS_ok, soS_none, Bool.not_true, Bool.not_false, Bool.false_eq_true, Bool.true_and, Bool.false_and, Bool.and_true, Bool.and_false, Bool.true_or, Bool.false_or, Bool.or_true, Bool.or_false, if_true, if_false, Option.map_some, tr_bool, int_int, add_int, sub_int, hc, cu, ad, seq_list]; exact k2 ()) ?_
  simp only [e_vVar, e_vRd, e_vC, e_v1, e_v2, e_c1, e_c2, e_l1, e_l2, e_vL, e_vB, e_vArgs0, e_vArgs, e_vTup, e_vCall, e_vIf, e_bTr, e_bNot, e_bAnd, e_bOr, e_bChain, e_iSeq, e_iRange1, e_iRange2, e_vCut, e_vOpt0, e_vOpt, e_sNx, e_sBk, e_sCt, e_sSeq, e_sSet, e_sOwn, e_sPut, e_sFreeze, e_sRet, e_sExpr, e_sIf, e_sApp, e_sPar, e_sFor, runD, slots, so_ok, rb_ok, rb_none, so_none, po_some, List.getElem?_cons_zero, List.getElem?_cons_succ, List.set_cons_zero, List.set_cons_succ, List.map_cons, List.map_nil, List.length_cons, List.length_nil, List.replicate, List.append_nil, List.cons_append, List.nil_append, rb_er, so_er, e_sErr, e_sTry, e_iEnumE, e_sSetIx, e_uX, e_w1, e_w2, e_wc2, e_wl1, e_wl2, e_wL, e_wB, e_wTr, e_wNot, e_wAnd, e_wOr, e_wIf, e_wArgs0, e_wArgs, e_wTup, e_wCall, e_zSet, e_zOwn, e_zPut, e_zRet, e_zRt, e_zExpr, e_zIf, e_zFor, e_sRetL, sb_ok, sb_none, up_ok, up_none, up_po, soS_ok, soS_none, Bool.not_true, Bool.not_false, Bool.false_eq_true, Bool.true_and, Bool.false_and, Bool.and_true, Bool.and_false, Bool.true_or, Bool.false_or, Bool.or_true, Bool.or_false, if_true, if_false, Option.map_some, tr_bool, int_int, add_int, sub_int]
end K01
/-! Each def of the text is the function of Core. Made by wip/tools/gen.py. -/
namespace K01
open PySem PySem.Spec PyProof.Rows L2 DL
def top (i : Nat) : Stmt := PySem.Challenge.pw_onerest_k01_errors.main.body.getD i (.Pass ⟨0, 0, 0, 0⟩)
structure Cn (mg : Str → Option Value) : Prop where
  none : True
structure Er (P : Program) (w : World) (K : PySem.W.Frag) (mg : Str → Option Value) (base : Heap) (ec : EC) : Prop where
  g_BadBook : mg (PySem.Str.ofString "BadBook") = some (.ref (ec "BadBook"))
  g_BadState : mg (PySem.Str.ofString "BadState") = some (.ref (ec "BadState"))
  g_BadTree : mg (PySem.Str.ofString "BadTree") = some (.ref (ec "BadTree"))
  g_NoNode : mg (PySem.Str.ofString "NoNode") = some (.ref (ec "NoNode"))
  g_BadStep : mg (PySem.Str.ofString "BadStep") = some (.ref (ec "BadStep"))
  g_NoEnd : mg (PySem.Str.ofString "NoEnd") = some (.ref (ec "NoEnd"))
  g_BadWay : mg (PySem.Str.ofString "BadWay") = some (.ref (ec "BadWay"))
  g_NoOneRest : mg (PySem.Str.ofString "NoOneRest") = some (.ref (ec "NoOneRest"))
  g_BadReader : mg (PySem.Str.ofString "BadReader") = some (.ref (ec "BadReader"))
  g_UnlikeBooks : mg (PySem.Str.ofString "UnlikeBooks") = some (.ref (ec "UnlikeBooks"))
  g_TooMany : mg (PySem.Str.ofString "TooMany") = some (.ref (ec "TooMany"))
  g_BadLine : mg (PySem.Str.ofString "BadLine") = some (.ref (ec "BadLine"))
  g_BadOrder : mg (PySem.Str.ofString "BadOrder") = some (.ref (ec "BadOrder"))
  g_BadRule : mg (PySem.Str.ofString "BadRule") = some (.ref (ec "BadRule"))
  g_NothingToUndo : mg (PySem.Str.ofString "NothingToUndo") = some (.ref (ec "NothingToUndo"))
  g_BadText : mg (PySem.Str.ofString "BadText") = some (.ref (ec "BadText"))
  g_BadCommand : mg (PySem.Str.ofString "BadCommand") = some (.ref (ec "BadCommand"))
  g_RestError : mg (PySem.Str.ofString "RestError") = some (.ref (ec "RestError"))
  f_BadBook : errF K (ec "BadBook") = true
  f_BadState : errF K (ec "BadState") = true
  f_BadTree : errF K (ec "BadTree") = true
  f_NoNode : errF K (ec "NoNode") = true
  f_NoEnd : errF K (ec "NoEnd") = true
  f_NoOneRest : errF K (ec "NoOneRest") = true
  f_BadReader : errF K (ec "BadReader") = true
  f_UnlikeBooks : errF K (ec "UnlikeBooks") = true
  f_TooMany : errF K (ec "TooMany") = true
  f_BadLine : errF K (ec "BadLine") = true
  f_BadOrder : errF K (ec "BadOrder") = true
  f_BadRule : errF K (ec "BadRule") = true
  f_NothingToUndo : errF K (ec "NothingToUndo") = true
  f_BadCommand : errF K (ec "BadCommand") = true
  i_BadStep : ErrI P w K mg base ec "BadStep" "place"
  i_BadWay : ErrI P w K mg base ec "BadWay" "place"
  i_BadText : ErrI P w K mg base ec "BadText" "line"
  w_BadStep : ErrK P w K mg base ec "BadStep" "place"
  w_BadWay : ErrK P w K mg base ec "BadWay" "place"
  w_BadText : ErrK P w K mg base ec "BadText" "line"
  tab : TabT K ec tabl
  tabi : TabI K ec tabi
  ve : mg "ValueError" = none
  tabg : TabG K ec tabl
  k_place : Keeps K ec cl_place "place"
  k_line : Keeps K ec cl_line "line"
abbrev s_BadStep : Stmt := (clsBody (top 6)).getD 0 (.Pass ⟨0, 0, 0, 0⟩)
abbrev N_BadStep : List Str := ["self", "place"]
theorem sc_BadStep : FnScope N_BadStep N_BadStep (defScope s_BadStep) := ⟨rfl, rfl, rfl, by decide +kernel, rfl, by decide +kernel, by decide +kernel⟩
theorem in_BadStep {P : Program} {w : World} {K : PySem.W.Frag} {mg : Str → Option Value} {base : Heap} {f C Cr : Addr} {fd : FuncData} (F : Fun K "__init__" "BadStep.__init__" s_BadStep f fd) (gR : mg "RestError" = some (.ref Cr))
    (sg : PySem.W.specialIn K (.ref Cr) "__getattribute__" = some (some (.builtin "type.__getattribute__"))) (rd : PySem.W.readsIn K Cr (.type "type") = true) (fc : PySem.W.findCls K (.ref Cr) (.type "type") "__init__" = some (.val (.builtin "ValueError.__init__"))) :
    FnOk P w K mg base (L2.CX P w) 1 f fd N_BadStep (spI K C "place") := by
  refine F.okX sc_BadStep (fun vs H Q E h => by obtain ⟨a, i, rfl, _⟩ := h; rfl) (fun cdv A outer s H vs Q E hr h => ⟨_, pss_cons (ps_expr (pe_reinit (pl := _) rfl gR sg rd fc (pa_cons (pv 0) (pa_cons (pe_joined (.cons pe_str (.cons (pe_fmt (pv 1)) (.cons pe_str .nil)))) pa_nil)) (by decide +kernel))) (pss_cons (ps_ost (pv 0) (pv 1)) pss_nil), ?_⟩)
  obtain ⟨a, i, rfl, hl, T, hf, ha, q⟩ := h
  exact init_use (by decide +kernel) (by decide +kernel) hl T hf ha fun dx n ne => q dx n ne
abbrev s_BadWay : Stmt := (clsBody (top 8)).getD 0 (.Pass ⟨0, 0, 0, 0⟩)
abbrev N_BadWay : List Str := ["self", "place"]
theorem sc_BadWay : FnScope N_BadWay N_BadWay (defScope s_BadWay) := ⟨rfl, rfl, rfl, by decide +kernel, rfl, by decide +kernel, by decide +kernel⟩
theorem in_BadWay {P : Program} {w : World} {K : PySem.W.Frag} {mg : Str → Option Value} {base : Heap} {f C Cr : Addr} {fd : FuncData} (F : Fun K "__init__" "BadWay.__init__" s_BadWay f fd) (gR : mg "RestError" = some (.ref Cr))
    (sg : PySem.W.specialIn K (.ref Cr) "__getattribute__" = some (some (.builtin "type.__getattribute__"))) (rd : PySem.W.readsIn K Cr (.type "type") = true) (fc : PySem.W.findCls K (.ref Cr) (.type "type") "__init__" = some (.val (.builtin "ValueError.__init__"))) :
    FnOk P w K mg base (L2.CX P w) 1 f fd N_BadWay (spI K C "place") := by
  refine F.okX sc_BadWay (fun vs H Q E h => by obtain ⟨a, i, rfl, _⟩ := h; rfl) (fun cdv A outer s H vs Q E hr h => ⟨_, pss_cons (ps_expr (pe_reinit (pl := _) rfl gR sg rd fc (pa_cons (pv 0) (pa_cons (pe_joined (.cons pe_str (.cons (pe_fmt (pv 1)) (.cons pe_str .nil)))) pa_nil)) (by decide +kernel))) (pss_cons (ps_ost (pv 0) (pv 1)) pss_nil), ?_⟩)
  obtain ⟨a, i, rfl, hl, T, hf, ha, q⟩ := h
  exact init_use (by decide +kernel) (by decide +kernel) hl T hf ha fun dx n ne => q dx n ne
abbrev s_BadText : Stmt := (clsBody (top 17)).getD 0 (.Pass ⟨0, 0, 0, 0⟩)
abbrev N_BadText : List Str := ["self", "line"]
theorem sc_BadText : FnScope N_BadText N_BadText (defScope s_BadText) := ⟨rfl, rfl, rfl, by decide +kernel, rfl, by decide +kernel, by decide +kernel⟩
theorem in_BadText {P : Program} {w : World} {K : PySem.W.Frag} {mg : Str → Option Value} {base : Heap} {f C Cr : Addr} {fd : FuncData} (F : Fun K "__init__" "BadText.__init__" s_BadText f fd) (gR : mg "RestError" = some (.ref Cr))
    (sg : PySem.W.specialIn K (.ref Cr) "__getattribute__" = some (some (.builtin "type.__getattribute__"))) (rd : PySem.W.readsIn K Cr (.type "type") = true) (fc : PySem.W.findCls K (.ref Cr) (.type "type") "__init__" = some (.val (.builtin "ValueError.__init__"))) :
    FnOk P w K mg base (L2.CX P w) 1 f fd N_BadText (spI K C "line") := by
  refine F.okX sc_BadText (fun vs H Q E h => by obtain ⟨a, i, rfl, _⟩ := h; rfl) (fun cdv A outer s H vs Q E hr h => ⟨_, pss_cons (ps_expr (pe_reinit (pl := _) rfl gR sg rd fc (pa_cons (pv 0) (pa_cons (pe_joined (.cons pe_str (.cons (pe_fmt (pv 1)) (.cons pe_str .nil)))) pa_nil)) (by decide +kernel))) (pss_cons (ps_ost (pv 0) (pv 1)) pss_nil), ?_⟩)
  obtain ⟨a, i, rfl, hl, T, hf, ha, q⟩ := h
  exact init_use (by decide +kernel) (by decide +kernel) hl T hf ha fun dx n ne => q dx n ne
abbrev s_law_cell : Stmt := top 20
abbrev N_law_cell : List Str := ["script", "k"]
abbrev P_law_cell : List Str := ["script", "k"]
theorem sc_law_cell : FnScope N_law_cell P_law_cell (defScope s_law_cell) := ⟨rfl, rfl, rfl, by decide +kernel, rfl, by decide +kernel, by decide +kernel⟩
abbrev s_law_raised : Stmt := top 21
abbrev N_law_raised : List Str := ["k", "at"]
abbrev P_law_raised : List Str := ["k", "at"]
theorem sc_law_raised : FnScope N_law_raised P_law_raised (defScope s_law_raised) := ⟨rfl, rfl, rfl, by decide +kernel, rfl, by decide +kernel, by decide +kernel⟩
abbrev s_law_kinds : Stmt := top 22
abbrev N_law_kinds : List Str := ["k", "at", "kinds", "e"]
abbrev P_law_kinds : List Str := ["k", "at"]
theorem sc_law_kinds : FnScope N_law_kinds P_law_kinds (defScope s_law_kinds) := ⟨rfl, rfl, rfl, by decide +kernel, rfl, by decide +kernel, by decide +kernel⟩
abbrev s_law_by_name : Stmt := top 23
abbrev N_law_by_name : List Str := ["k", "at"]
abbrev P_law_by_name : List Str := ["k", "at"]
theorem sc_law_by_name : FnScope N_law_by_name P_law_by_name (defScope s_law_by_name) := ⟨rfl, rfl, rfl, by decide +kernel, rfl, by decide +kernel, by decide +kernel⟩
abbrev s_law_field : Stmt := top 24
abbrev N_law_field : List Str := ["k", "at", "by_name", "told", "e"]
abbrev P_law_field : List Str := ["k", "at", "by_name"]
theorem sc_law_field : FnScope N_law_field P_law_field (defScope s_law_field) := ⟨rfl, rfl, rfl, by decide +kernel, rfl, by decide +kernel, by decide +kernel⟩
abbrev s_law : Stmt := top 25
abbrev N_law : List Str := ["script", "k", "cell", "at", "one"]
abbrev P_law : List Str := ["script"]
theorem sc_law : FnScope N_law P_law (defScope s_law) := ⟨rfl, rfl, rfl, by decide +kernel, rfl, by decide +kernel, by decide +kernel⟩
section
variable {P : Program} {w : World} {K : PySem.W.Frag} {mg : Str → Option Value} {base : Heap} {ec : EC}
theorem ok_law_cell (T : Bl mg) (C : Cn mg) (Z : Er P w K mg base ec) (D : DAt K mg "_law_cell" s_law_cell P_law_cell) : DOk P w K mg base ec "_law_cell" P_law_cell 1 2 f_law_cell := by
  refine DAt.ok (n := 2) (p := 2) D sc_law_cell rfl rfl fun f cdv A outer s H E hr => ?_
  have S := sc_law_cell
  have hp := passes_of (X := cxOf (L2.CX P w) P w K mg base N_law_cell "_law_cell" (defScope s_law_cell) f cdv A outer s H E) rfl
  have tk := takes_of (X := cxOf (L2.CX P w) P w K mg base N_law_cell "_law_cell" (defScope s_law_cell) f cdv A outer s H E) (E := E) rfl rfl rfl rfl
  have hu := hu65 hr
  exact (dss_cons (ds_if (dt_cmp op_lt o_lt (DE.x (de_var 1)) (DE.x (de_b1 call_len_seq b_len rfl T.len (DE.x (de_var 0)) PySem.boot_len)) (nomark _)) (dss_one (ds_ret (de_ix (DE.x (de_var 0)) (DE.x (de_var 1))))) dss_nil) (dss_one (ds_ret de_int)))
theorem ok_law_raised (T : Bl mg) (C : Cn mg) (Z : Er P w K mg base ec) (D : DAt K mg "_law_raised" s_law_raised P_law_raised) : DOk P w K mg base ec "_law_raised" P_law_raised 3 2 f_law_raised := by
  refine DAt.ok (n := 2) (p := 2) D sc_law_raised rfl rfl fun f cdv A outer s H E hr => ?_
  have S := sc_law_raised
  have hp := passes_of (X := cxOf (L2.CX P w) P w K mg base N_law_raised "_law_raised" (defScope s_law_raised) f cdv A outer s H E) rfl
  have tk := takes_of (X := cxOf (L2.CX P w) P w K mg base N_law_raised "_law_raised" (defScope s_law_raised) f cdv A outer s H E) (E := E) rfl rfl rfl rfl
  have hu := hu65 hr
  exact (dss_cons (ds_if (dt_cmp (op_eqQ hu) o_eqQ (DE.x (de_var 0)) (DE.x de_int) (nomark _)) (dss_one (ds_raise (c := "BadBook") rfl tk ⟨Z.g_BadBook, Z.f_BadBook⟩ rfl)) dss_nil) (dss_cons (ds_if (dt_cmp (op_eqQ hu) o_eqQ (DE.x (de_var 0)) (DE.x de_int) (nomark _)) (dss_one (ds_raise (c := "BadState") rfl tk ⟨Z.g_BadState, Z.f_BadState⟩ rfl)) dss_nil) (dss_cons (ds_if (dt_cmp (op_eqQ hu) o_eqQ (DE.x (de_var 0)) (DE.x de_int) (nomark _)) (dss_one (ds_raise (c := "BadTree") rfl tk ⟨Z.g_BadTree, Z.f_BadTree⟩ rfl)) dss_nil) (dss_cons (ds_if (dt_cmp (op_eqQ hu) o_eqQ (DE.x (de_var 0)) (DE.x de_int) (nomark _)) (dss_one (ds_raise (c := "NoNode") rfl tk ⟨Z.g_NoNode, Z.f_NoNode⟩ rfl)) dss_nil) (dss_cons (ds_if (dt_cmp (op_eqQ hu) o_eqQ (DE.x (de_var 0)) (DE.x de_int) (nomark _)) (dss_one (ds_raiseF (c := "BadStep") (f := "place") rfl tk Z.i_BadStep (hr.mono (by decide)) rfl (de_var 1))) dss_nil) (dss_cons (ds_if (dt_cmp (op_eqQ hu) o_eqQ (DE.x (de_var 0)) (DE.x de_int) (nomark _)) (dss_one (ds_raise (c := "NoEnd") rfl tk ⟨Z.g_NoEnd, Z.f_NoEnd⟩ rfl)) dss_nil) (dss_cons (ds_if (dt_cmp (op_eqQ hu) o_eqQ (DE.x (de_var 0)) (DE.x de_int) (nomark _)) (dss_one (ds_raiseF (c := "BadWay") (f := "place") rfl tk Z.i_BadWay (hr.mono (by decide)) rfl (de_var 1))) dss_nil) (dss_cons (ds_if (dt_cmp (op_eqQ hu) o_eqQ (DE.x (de_var 0)) (DE.x de_int) (nomark _)) (dss_one (ds_raise (c := "NoOneRest") rfl tk ⟨Z.g_NoOneRest, Z.f_NoOneRest⟩ rfl)) dss_nil) (dss_cons (ds_if (dt_cmp (op_eqQ hu) o_eqQ (DE.x (de_var 0)) (DE.x de_int) (nomark _)) (dss_one (ds_raise (c := "BadReader") rfl tk ⟨Z.g_BadReader, Z.f_BadReader⟩ rfl)) dss_nil) (dss_cons (ds_if (dt_cmp (op_eqQ hu) o_eqQ (DE.x (de_var 0)) (DE.x de_int) (nomark _)) (dss_one (ds_raise (c := "UnlikeBooks") rfl tk ⟨Z.g_UnlikeBooks, Z.f_UnlikeBooks⟩ rfl)) dss_nil) (dss_cons (ds_if (dt_cmp (op_eqQ hu) o_eqQ (DE.x (de_var 0)) (DE.x de_int) (nomark _)) (dss_one (ds_raise (c := "TooMany") rfl tk ⟨Z.g_TooMany, Z.f_TooMany⟩ rfl)) dss_nil) (dss_cons (ds_if (dt_cmp (op_eqQ hu) o_eqQ (DE.x (de_var 0)) (DE.x de_int) (nomark _)) (dss_one (ds_raise (c := "BadLine") rfl tk ⟨Z.g_BadLine, Z.f_BadLine⟩ rfl)) dss_nil) (dss_cons (ds_if (dt_cmp (op_eqQ hu) o_eqQ (DE.x (de_var 0)) (DE.x de_int) (nomark _)) (dss_one (ds_raise (c := "BadOrder") rfl tk ⟨Z.g_BadOrder, Z.f_BadOrder⟩ rfl)) dss_nil) (dss_cons (ds_if (dt_cmp (op_eqQ hu) o_eqQ (DE.x (de_var 0)) (DE.x de_int) (nomark _)) (dss_one (ds_raise (c := "BadRule") rfl tk ⟨Z.g_BadRule, Z.f_BadRule⟩ rfl)) dss_nil) (dss_cons (ds_if (dt_cmp (op_eqQ hu) o_eqQ (DE.x (de_var 0)) (DE.x de_int) (nomark _)) (dss_one (ds_raise (c := "NothingToUndo") rfl tk ⟨Z.g_NothingToUndo, Z.f_NothingToUndo⟩ rfl)) dss_nil) (dss_cons (ds_if (dt_cmp (op_eqQ hu) o_eqQ (DE.x (de_var 0)) (DE.x de_int) (nomark _)) (dss_one (ds_raiseF (c := "BadText") (f := "line") rfl tk Z.i_BadText (hr.mono (by decide)) rfl (de_var 1))) dss_nil) (dss_one (ds_raise (c := "BadCommand") rfl tk ⟨Z.g_BadCommand, Z.f_BadCommand⟩ rfl))))))))))))))))))
theorem ok_law_kinds (T : Bl mg) (C : Cn mg) (Z : Er P w K mg base ec) (D : DAt K mg "_law_kinds" s_law_kinds P_law_kinds) (G_law_raised : DOk P w K mg base ec "_law_raised" P_law_raised 3 2 f_law_raised) : DOk P w K mg base ec "_law_kinds" P_law_kinds 4 2 f_law_kinds := by
  refine DAt.ok (n := 4) (p := 2) D sc_law_kinds rfl rfl fun f cdv A outer s H E hr => ?_
  have S := sc_law_kinds
  have hp := passes_of (X := cxOf (L2.CX P w) P w K mg base N_law_kinds "_law_kinds" (defScope s_law_kinds) f cdv A outer s H E) rfl
  have tk := takes_of (X := cxOf (L2.CX P w) P w K mg base N_law_kinds "_law_kinds" (defScope s_law_kinds) f cdv A outer s H E) (E := E) rfl rfl rfl rfl
  have hu := hu65 hr
  exact (dss_cons (ds_set (i := 2) S.nd rfl (by first | exact .inl rfl | exact .inr rfl) (DLi.d (dl_lst da_nil))) (dss_cons (ds_tryE rfl rfl S.nd tk Z.tab Z.tabg (fun W' pn xe tk hp => (dss_one (ds_expr (de_callD G_law_raised hr tk (by decide) rfl (da_cons (de_var 0) (da_cons (de_var 1) da_nil)))))) (.cons (c := "RestError") (i := 3) ⟨rfl, by decide +kernel, .inl Z.g_RestError⟩ rfl rfl (fun a pn => (dss_cons (ds_set (i := 2) S.nd rfl (by first | exact .inl rfl | exact .inr rfl) (DLi.d (dl_lst (da_cons (de_isE (i := 3) Z.tabi rfl (by first | exact .inl rfl | exact .inr (.inl rfl) | exact .inr (.inr rfl)) rfl T.isinstance (pe_glob (v := .ref (ec "BadBook")) rfl Z.g_BadBook rfl (by decide +kernel)) (cv_own (by decide))) (da_cons (de_isE (i := 3) Z.tabi rfl (by first | exact .inl rfl | exact .inr (.inl rfl) | exact .inr (.inr rfl)) rfl T.isinstance (pe_glob (v := .ref (ec "BadState")) rfl Z.g_BadState rfl (by decide +kernel)) (cv_own (by decide))) (da_cons (de_isE (i := 3) Z.tabi rfl (by first | exact .inl rfl | exact .inr (.inl rfl) | exact .inr (.inr rfl)) rfl T.isinstance (pe_glob (v := .ref (ec "BadTree")) rfl Z.g_BadTree rfl (by decide +kernel)) (cv_own (by decide))) (da_cons (de_isE (i := 3) Z.tabi rfl (by first | exact .inl rfl | exact .inr (.inl rfl) | exact .inr (.inr rfl)) rfl T.isinstance (pe_glob (v := .ref (ec "NoNode")) rfl Z.g_NoNode rfl (by decide +kernel)) (cv_own (by decide))) da_nil))))))) (dss_cons (ds_set (i := 2) S.nd rfl (by first | exact .inl rfl | exact .inr rfl) (de_op op_addA o_add (DE.x (de_var 2)) (DE.x (DLi.d (dl_lst (da_cons (de_isE (i := 3) Z.tabi rfl (by first | exact .inl rfl | exact .inr (.inl rfl) | exact .inr (.inr rfl)) rfl T.isinstance (pe_glob (v := .ref (ec "BadStep")) rfl Z.g_BadStep rfl (by decide +kernel)) (cv_own (by decide))) (da_cons (de_isE (i := 3) Z.tabi rfl (by first | exact .inl rfl | exact .inr (.inl rfl) | exact .inr (.inr rfl)) rfl T.isinstance (pe_glob (v := .ref (ec "NoEnd")) rfl Z.g_NoEnd rfl (by decide +kernel)) (cv_own (by decide))) (da_cons (de_isE (i := 3) Z.tabi rfl (by first | exact .inl rfl | exact .inr (.inl rfl) | exact .inr (.inr rfl)) rfl T.isinstance (pe_glob (v := .ref (ec "BadWay")) rfl Z.g_BadWay rfl (by decide +kernel)) (cv_own (by decide))) da_nil)))))))) (dss_cons (ds_set (i := 2) S.nd rfl (by first | exact .inl rfl | exact .inr rfl) (de_op op_addA o_add (DE.x (de_var 2)) (DE.x (DLi.d (dl_lst (da_cons (de_isE (i := 3) Z.tabi rfl (by first | exact .inl rfl | exact .inr (.inl rfl) | exact .inr (.inr rfl)) rfl T.isinstance (pe_glob (v := .ref (ec "NoOneRest")) rfl Z.g_NoOneRest rfl (by decide +kernel)) (cv_own (by decide))) (da_cons (de_isE (i := 3) Z.tabi rfl (by first | exact .inl rfl | exact .inr (.inl rfl) | exact .inr (.inr rfl)) rfl T.isinstance (pe_glob (v := .ref (ec "BadReader")) rfl Z.g_BadReader rfl (by decide +kernel)) (cv_own (by decide))) (da_cons (de_isE (i := 3) Z.tabi rfl (by first | exact .inl rfl | exact .inr (.inl rfl) | exact .inr (.inr rfl)) rfl T.isinstance (pe_glob (v := .ref (ec "UnlikeBooks")) rfl Z.g_UnlikeBooks rfl (by decide +kernel)) (cv_own (by decide))) da_nil)))))))) (dss_cons (ds_set (i := 2) S.nd rfl (by first | exact .inl rfl | exact .inr rfl) (de_op op_addA o_add (DE.x (de_var 2)) (DE.x (DLi.d (dl_lst (da_cons (de_isE (i := 3) Z.tabi rfl (by first | exact .inl rfl | exact .inr (.inl rfl) | exact .inr (.inr rfl)) rfl T.isinstance (pe_glob (v := .ref (ec "TooMany")) rfl Z.g_TooMany rfl (by decide +kernel)) (cv_own (by decide))) (da_cons (de_isE (i := 3) Z.tabi rfl (by first | exact .inl rfl | exact .inr (.inl rfl) | exact .inr (.inr rfl)) rfl T.isinstance (pe_glob (v := .ref (ec "BadLine")) rfl Z.g_BadLine rfl (by decide +kernel)) (cv_own (by decide))) (da_cons (de_isE (i := 3) Z.tabi rfl (by first | exact .inl rfl | exact .inr (.inl rfl) | exact .inr (.inr rfl)) rfl T.isinstance (pe_glob (v := .ref (ec "BadOrder")) rfl Z.g_BadOrder rfl (by decide +kernel)) (cv_own (by decide))) da_nil)))))))) (dss_cons (ds_set (i := 2) S.nd rfl (by first | exact .inl rfl | exact .inr rfl) (de_op op_addA o_add (DE.x (de_var 2)) (DE.x (DLi.d (dl_lst (da_cons (de_isE (i := 3) Z.tabi rfl (by first | exact .inl rfl | exact .inr (.inl rfl) | exact .inr (.inr rfl)) rfl T.isinstance (pe_glob (v := .ref (ec "BadRule")) rfl Z.g_BadRule rfl (by decide +kernel)) (cv_own (by decide))) (da_cons (de_isE (i := 3) Z.tabi rfl (by first | exact .inl rfl | exact .inr (.inl rfl) | exact .inr (.inr rfl)) rfl T.isinstance (pe_glob (v := .ref (ec "NothingToUndo")) rfl Z.g_NothingToUndo rfl (by decide +kernel)) (cv_own (by decide))) (da_cons (de_isE (i := 3) Z.tabi rfl (by first | exact .inl rfl | exact .inr (.inl rfl) | exact .inr (.inr rfl)) rfl T.isinstance (pe_glob (v := .ref (ec "BadText")) rfl Z.g_BadText rfl (by decide +kernel)) (cv_own (by decide))) da_nil)))))))) (dss_one (ds_set (i := 2) S.nd rfl (by first | exact .inl rfl | exact .inr rfl) (de_op op_addA o_add (DE.x (de_var 2)) (DE.x (DLi.d (dl_lst (da_cons (de_isE (i := 3) Z.tabi rfl (by first | exact .inl rfl | exact .inr (.inl rfl) | exact .inr (.inr rfl)) rfl T.isinstance (pe_glob (v := .ref (ec "BadCommand")) rfl Z.g_BadCommand rfl (by decide +kernel)) (cv_own (by decide))) (da_cons (de_isE (i := 3) Z.tabi rfl (by first | exact .inl rfl | exact .inr (.inl rfl) | exact .inr (.inr rfl)) rfl T.isinstance (pe_bltn (v := .ty "ValueError") rfl Z.ve PyProof.Rows.Boot.«ValueError» rfl (by decide) (by decide)) cv_ve) da_nil)))))))))))))) .nil)) (dss_one (ds_ret (de_var 2)))))
theorem ok_law_by_name (T : Bl mg) (C : Cn mg) (Z : Er P w K mg base ec) (D : DAt K mg "_law_by_name" s_law_by_name P_law_by_name) : DOk P w K mg base ec "_law_by_name" P_law_by_name 3 2 f_law_by_name := by
  refine DAt.ok (n := 2) (p := 2) D sc_law_by_name rfl rfl fun f cdv A outer s H E hr => ?_
  have S := sc_law_by_name
  have hp := passes_of (X := cxOf (L2.CX P w) P w K mg base N_law_by_name "_law_by_name" (defScope s_law_by_name) f cdv A outer s H E) rfl
  have tk := takes_of (X := cxOf (L2.CX P w) P w K mg base N_law_by_name "_law_by_name" (defScope s_law_by_name) f cdv A outer s H E) (E := E) rfl rfl rfl rfl
  have hu := hu65 hr
  exact (dss_cons (ds_if (dt_cmp (op_eqQ hu) o_eqQ (DE.x (de_var 0)) (DE.x de_int) (nomark _)) (dss_one (ds_raiseK (c := "BadStep") (f := "place") rfl tk Z.w_BadStep (hr.mono (by decide)) rfl (de_var 1))) dss_nil) (dss_cons (ds_if (dt_cmp (op_eqQ hu) o_eqQ (DE.x (de_var 0)) (DE.x de_int) (nomark _)) (dss_one (ds_raiseK (c := "BadWay") (f := "place") rfl tk Z.w_BadWay (hr.mono (by decide)) rfl (de_var 1))) dss_nil) (dss_one (ds_raiseK (c := "BadText") (f := "line") rfl tk Z.w_BadText (hr.mono (by decide)) rfl (de_var 1)))))
theorem ok_law_field (T : Bl mg) (C : Cn mg) (Z : Er P w K mg base ec) (D : DAt K mg "_law_field" s_law_field P_law_field) (G_law_by_name : DOk P w K mg base ec "_law_by_name" P_law_by_name 3 2 f_law_by_name) (G_law_raised : DOk P w K mg base ec "_law_raised" P_law_raised 3 2 f_law_raised) : DOk P w K mg base ec "_law_field" P_law_field 4 3 f_law_field := by
  refine DAt.ok (n := 5) (p := 3) D sc_law_field rfl rfl fun f cdv A outer s H E hr => ?_
  have S := sc_law_field
  have hp := passes_of (X := cxOf (L2.CX P w) P w K mg base N_law_field "_law_field" (defScope s_law_field) f cdv A outer s H E) rfl
  have tk := takes_of (X := cxOf (L2.CX P w) P w K mg base N_law_field "_law_field" (defScope s_law_field) f cdv A outer s H E) (E := E) rfl rfl rfl rfl
  have hu := hu65 hr
  exact (dss_cons (ds_set (i := 3) S.nd rfl (by first | exact .inl rfl | exact .inr rfl) de_non) (dss_cons (ds_tryE rfl rfl S.nd tk Z.tab Z.tabg (fun W' pn xe tk hp => (dss_one (ds_if (DE.test (de_var 2)) (dss_one (ds_expr (de_callD G_law_by_name hr tk (by decide) rfl (da_cons (de_var 0) (da_cons (de_var 1) da_nil))))) (dss_one (ds_expr (de_callD G_law_raised hr tk (by decide) rfl (da_cons (de_var 0) (da_cons (de_var 1) da_nil)))))))) (.cons (c := "BadStep") (i := 4) ⟨rfl, by decide +kernel, .inl Z.g_BadStep⟩ rfl rfl (fun a pn => (dss_one (ds_set (i := 3) S.nd rfl (by first | exact .inl rfl | exact .inr rfl) (de_fldE (i := 4) Z.k_place rfl (by first | exact .inl rfl | exact .inr (.inl rfl) | exact .inr (.inr rfl)))))) (.cons (c := "BadWay") (i := 4) ⟨rfl, by decide +kernel, .inl Z.g_BadWay⟩ rfl rfl (fun a pn => (dss_one (ds_set (i := 3) S.nd rfl (by first | exact .inl rfl | exact .inr rfl) (de_fldE (i := 4) Z.k_place rfl (by first | exact .inl rfl | exact .inr (.inl rfl) | exact .inr (.inr rfl)))))) (.cons (c := "BadText") (i := 4) ⟨rfl, by decide +kernel, .inl Z.g_BadText⟩ rfl rfl (fun a pn => (dss_one (ds_set (i := 3) S.nd rfl (by first | exact .inl rfl | exact .inr rfl) (de_fldE (i := 4) Z.k_line rfl (by first | exact .inl rfl | exact .inr (.inl rfl) | exact .inr (.inr rfl)))))) .nil)))) (dss_one (ds_ret (db_and (db_isi kind_int rfl T.isinstance rfl T.int (by decide +kernel) (DE.x (de_var 3))) (db_one (db_cmp (op_eqQ hu) o_eqQ (DE.x (de_var 3)) (DE.x (de_var 1)) (nomark _))))))))
theorem ok_law (T : Bl mg) (C : Cn mg) (Z : Er P w K mg base ec) (D : DAt K mg "law" s_law P_law) (G_law_kinds : DOk P w K mg base ec "_law_kinds" P_law_kinds 4 2 f_law_kinds) (G_law_cell : DOk P w K mg base ec "_law_cell" P_law_cell 1 2 f_law_cell) (G_law_field : DOk P w K mg base ec "_law_field" P_law_field 4 3 f_law_field) : DOk P w K mg base ec "law" P_law 5 1 f_law := by
  refine DAt.ok (n := 5) (p := 1) D sc_law rfl rfl fun f cdv A outer s H E hr => ?_
  have S := sc_law
  have hp := passes_of (X := cxOf (L2.CX P w) P w K mg base N_law "law" (defScope s_law) f cdv A outer s H E) rfl
  have tk := takes_of (X := cxOf (L2.CX P w) P w K mg base N_law "law" (defScope s_law) f cdv A outer s H E) (E := E) rfl rfl rfl rfl
  have hu := hu65 hr
  exact (dss_cons (ds_for hp rfl (di_range1 rfl T.range (DE.x de_int)) (pg_name (i := 1) S.nd rfl (by first | exact .inl rfl | exact .inr rfl)) (dss_one (ds_if (dt_cmp (op_neQ hu) o_neQ (DE.x (de_callD G_law_kinds hr tk (by decide) rfl (da_cons (de_var 1) (da_cons de_int da_nil)))) (DE.x (DLi.d (dl_comp rfl S.nd (DI.x (di_range1 rfl T.range (DE.x de_int))) (blkOk_by (own := [("one", 4)]) (N := N_law) (sc := defScope s_law) (by decide +kernel)) rfl (fun _ _ _ _ _ => (pg_name (i := 4) S.nd rfl (by first | exact .inl rfl | exact .inr rfl))) (fun _ _ _ _ _ => dts_nil) (fun _ _ _ _ _ => (db_or (db_cmp (op_eqQ hu) o_eqQ (DE.x (de_var 4)) (DE.x (de_var 1)) (nomark _)) (db_one (db_cmp (op_eqQ hu) o_eqQ (DE.x (de_var 4)) (DE.x de_int) (nomark _)))))))) (nomark _)) (dss_one (ds_ret de_bl)) dss_nil))) (dss_cons (ds_for hp rfl (di_seq (de_op op_addA o_add (DE.x (DLi.d (dl_lst (da_cons (de_callD G_law_cell hr tk (by decide) rfl (da_cons (de_var 0) (da_cons de_int da_nil))) da_nil)))) (DE.x (de_cut (DE.x (de_var 0)) (DO.som (DE.x de_int)) (DO.som (DE.x de_int)))))) (pg_name (i := 2) S.nd rfl (by first | exact .inl rfl | exact .inr rfl)) (dss_cons (ds_set (i := 3) S.nd rfl (by first | exact .inl rfl | exact .inr rfl) (de_op op_subA o_sub (DE.x (de_op op_mod o_mod (DE.x (de_t1 call_int1 b_int rfl T.int (DE.x (de_var 2)) PyProof.Rows.boot_int)) (DE.x (de_op op_pow o_pow (DE.x de_int) (DE.x de_int))))) (DE.x de_int))) (dss_one (ds_for hp rfl (di_seq (DLi.d (dl_lst (da_cons de_int (da_cons de_int (da_cons de_int da_nil)))))) (pg_name (i := 1) S.nd rfl (by first | exact .inl rfl | exact .inr rfl)) (dss_cons (ds_if (DW.t (dw_or (dt_not (DE.test (de_callD G_law_field hr tk (by decide) rfl (da_cons (de_var 1) (da_cons (de_var 3) (da_cons de_bl da_nil)))))) (dw_or1 (dt_not (DE.test (de_callD G_law_field hr tk (by decide) rfl (da_cons (de_var 1) (da_cons (de_var 3) (da_cons de_bl da_nil))))))))) (dss_one (ds_ret de_bl)) dss_nil) (dss_one (ds_if (dt_cmp (op_neQ hu) o_neQ (DE.x (de_callD G_law_kinds hr tk (by decide) rfl (da_cons (de_var 1) (da_cons (de_var 3) da_nil)))) (DE.x (DLi.d (dl_comp rfl S.nd (DI.x (di_range1 rfl T.range (DE.x de_int))) (blkOk_by (own := [("one", 4)]) (N := N_law) (sc := defScope s_law) (by decide +kernel)) rfl (fun _ _ _ _ _ => (pg_name (i := 4) S.nd rfl (by first | exact .inl rfl | exact .inr rfl))) (fun _ _ _ _ _ => dts_nil) (fun _ _ _ _ _ => (db_or (db_cmp (op_eqQ hu) o_eqQ (DE.x (de_var 4)) (DE.x (de_var 1)) (nomark _)) (db_one (db_cmp (op_eqQ hu) o_eqQ (DE.x (de_var 4)) (DE.x de_int) (nomark _)))))))) (nomark _)) (dss_one (ds_ret de_bl)) dss_nil))))))) (dss_one (ds_ret de_bl))))
end
set_option maxHeartbeats 0 in
theorem all_mk {l : PySem.W.OpenLaw} {w : World} {K : PySem.W.Frag} {h : Heap} {mg : Str → Option Value} {fa : Addr} (X : K.In h) (G : h.Ns mainGlobals mg) (hfa : mg "law" = some (.ref fa))
    {od_law_cell an_law_cell : Option Addr} {sl_law_cell : Array (Option Value)} {oc_law_cell kV_law_cell dc_law_cell pm_law_cell cd_law_cell ct_law_cell : Value} {a_law_cell : Addr}
    (na_law_cell : PySem.W.nsIn K mainGlobals "_law_cell" = some (some (.ref a_law_cell)))
    (lo_law_cell : K.lookup a_law_cell = some ⟨oc_law_cell, od_law_cell, .func (PySem.W.fnOf "_law_cell" "_law_cell" (defArgs s_law_cell) (defBody s_law_cell) (defScope s_law_cell) .none kV_law_cell dc_law_cell pm_law_cell an_law_cell cd_law_cell ct_law_cell), sl_law_cell⟩)
    (co_law_cell : PySem.W.codeIn K cd_law_cell "_law_cell" = true) (ke_law_cell : PySem.W.keepIn K (.ref a_law_cell) = true)
    {od_law_raised an_law_raised : Option Addr} {sl_law_raised : Array (Option Value)} {oc_law_raised kV_law_raised dc_law_raised pm_law_raised cd_law_raised ct_law_raised : Value} {a_law_raised : Addr}
    (na_law_raised : PySem.W.nsIn K mainGlobals "_law_raised" = some (some (.ref a_law_raised)))
    (lo_law_raised : K.lookup a_law_raised = some ⟨oc_law_raised, od_law_raised, .func (PySem.W.fnOf "_law_raised" "_law_raised" (defArgs s_law_raised) (defBody s_law_raised) (defScope s_law_raised) .none kV_law_raised dc_law_raised pm_law_raised an_law_raised cd_law_raised ct_law_raised), sl_law_raised⟩)
    (co_law_raised : PySem.W.codeIn K cd_law_raised "_law_raised" = true) (ke_law_raised : PySem.W.keepIn K (.ref a_law_raised) = true)
    {od_law_kinds an_law_kinds : Option Addr} {sl_law_kinds : Array (Option Value)} {oc_law_kinds kV_law_kinds dc_law_kinds pm_law_kinds cd_law_kinds ct_law_kinds : Value} {a_law_kinds : Addr}
    (na_law_kinds : PySem.W.nsIn K mainGlobals "_law_kinds" = some (some (.ref a_law_kinds)))
    (lo_law_kinds : K.lookup a_law_kinds = some ⟨oc_law_kinds, od_law_kinds, .func (PySem.W.fnOf "_law_kinds" "_law_kinds" (defArgs s_law_kinds) (defBody s_law_kinds) (defScope s_law_kinds) .none kV_law_kinds dc_law_kinds pm_law_kinds an_law_kinds cd_law_kinds ct_law_kinds), sl_law_kinds⟩)
    (co_law_kinds : PySem.W.codeIn K cd_law_kinds "_law_kinds" = true) (ke_law_kinds : PySem.W.keepIn K (.ref a_law_kinds) = true)
    {od_law_by_name an_law_by_name : Option Addr} {sl_law_by_name : Array (Option Value)} {oc_law_by_name kV_law_by_name dc_law_by_name pm_law_by_name cd_law_by_name ct_law_by_name : Value} {a_law_by_name : Addr}
    (na_law_by_name : PySem.W.nsIn K mainGlobals "_law_by_name" = some (some (.ref a_law_by_name)))
    (lo_law_by_name : K.lookup a_law_by_name = some ⟨oc_law_by_name, od_law_by_name, .func (PySem.W.fnOf "_law_by_name" "_law_by_name" (defArgs s_law_by_name) (defBody s_law_by_name) (defScope s_law_by_name) .none kV_law_by_name dc_law_by_name pm_law_by_name an_law_by_name cd_law_by_name ct_law_by_name), sl_law_by_name⟩)
    (co_law_by_name : PySem.W.codeIn K cd_law_by_name "_law_by_name" = true) (ke_law_by_name : PySem.W.keepIn K (.ref a_law_by_name) = true)
    {od_law_field an_law_field : Option Addr} {sl_law_field : Array (Option Value)} {oc_law_field kV_law_field dc_law_field pm_law_field cd_law_field ct_law_field : Value} {a_law_field : Addr}
    (na_law_field : PySem.W.nsIn K mainGlobals "_law_field" = some (some (.ref a_law_field)))
    (lo_law_field : K.lookup a_law_field = some ⟨oc_law_field, od_law_field, .func (PySem.W.fnOf "_law_field" "_law_field" (defArgs s_law_field) (defBody s_law_field) (defScope s_law_field) .none kV_law_field dc_law_field pm_law_field an_law_field cd_law_field ct_law_field), sl_law_field⟩)
    (co_law_field : PySem.W.codeIn K cd_law_field "_law_field" = true) (ke_law_field : PySem.W.keepIn K (.ref a_law_field) = true)
    {od_law an_law : Option Addr} {sl_law : Array (Option Value)} {oc_law kV_law dc_law pm_law cd_law ct_law : Value} {a_law : Addr}
    (na_law : PySem.W.nsIn K mainGlobals "law" = some (some (.ref a_law)))
    (lo_law : K.lookup a_law = some ⟨oc_law, od_law, .func (PySem.W.fnOf "law" "law" (defArgs s_law) (defBody s_law) (defScope s_law) .none kV_law dc_law pm_law an_law cd_law ct_law), sl_law⟩)
    (co_law : PySem.W.codeIn K cd_law "law" = true) (ke_law : PySem.W.keepIn K (.ref a_law) = true)
    {ca_BadBook : Addr} (ga_BadBook : PySem.W.nsIn K mainGlobals "BadBook" = some (some (.ref ca_BadBook)))
    {ca_BadState : Addr} (ga_BadState : PySem.W.nsIn K mainGlobals "BadState" = some (some (.ref ca_BadState)))
    {ca_BadTree : Addr} (ga_BadTree : PySem.W.nsIn K mainGlobals "BadTree" = some (some (.ref ca_BadTree)))
    {ca_NoNode : Addr} (ga_NoNode : PySem.W.nsIn K mainGlobals "NoNode" = some (some (.ref ca_NoNode)))
    {ca_BadStep : Addr} (ga_BadStep : PySem.W.nsIn K mainGlobals "BadStep" = some (some (.ref ca_BadStep)))
    {ca_NoEnd : Addr} (ga_NoEnd : PySem.W.nsIn K mainGlobals "NoEnd" = some (some (.ref ca_NoEnd)))
    {ca_BadWay : Addr} (ga_BadWay : PySem.W.nsIn K mainGlobals "BadWay" = some (some (.ref ca_BadWay)))
    {ca_NoOneRest : Addr} (ga_NoOneRest : PySem.W.nsIn K mainGlobals "NoOneRest" = some (some (.ref ca_NoOneRest)))
    {ca_BadReader : Addr} (ga_BadReader : PySem.W.nsIn K mainGlobals "BadReader" = some (some (.ref ca_BadReader)))
    {ca_UnlikeBooks : Addr} (ga_UnlikeBooks : PySem.W.nsIn K mainGlobals "UnlikeBooks" = some (some (.ref ca_UnlikeBooks)))
    {ca_TooMany : Addr} (ga_TooMany : PySem.W.nsIn K mainGlobals "TooMany" = some (some (.ref ca_TooMany)))
    {ca_BadLine : Addr} (ga_BadLine : PySem.W.nsIn K mainGlobals "BadLine" = some (some (.ref ca_BadLine)))
    {ca_BadOrder : Addr} (ga_BadOrder : PySem.W.nsIn K mainGlobals "BadOrder" = some (some (.ref ca_BadOrder)))
    {ca_BadRule : Addr} (ga_BadRule : PySem.W.nsIn K mainGlobals "BadRule" = some (some (.ref ca_BadRule)))
    {ca_NothingToUndo : Addr} (ga_NothingToUndo : PySem.W.nsIn K mainGlobals "NothingToUndo" = some (some (.ref ca_NothingToUndo)))
    {ca_BadText : Addr} (ga_BadText : PySem.W.nsIn K mainGlobals "BadText" = some (some (.ref ca_BadText)))
    {ca_BadCommand : Addr} (ga_BadCommand : PySem.W.nsIn K mainGlobals "BadCommand" = some (some (.ref ca_BadCommand)))
    {ca_RestError : Addr} (ga_RestError : PySem.W.nsIn K mainGlobals "RestError" = some (some (.ref ca_RestError)))
    (er_BadBook : errF K ca_BadBook = true)
    (er_BadState : errF K ca_BadState = true)
    (er_BadTree : errF K ca_BadTree = true)
    (er_NoNode : errF K ca_NoNode = true)
    (er_NoEnd : errF K ca_NoEnd = true)
    (er_NoOneRest : errF K ca_NoOneRest = true)
    (er_BadReader : errF K ca_BadReader = true)
    (er_UnlikeBooks : errF K ca_UnlikeBooks = true)
    (er_TooMany : errF K ca_TooMany = true)
    (er_BadLine : errF K ca_BadLine = true)
    (er_BadOrder : errF K ca_BadOrder = true)
    (er_BadRule : errF K ca_BadRule = true)
    (er_NothingToUndo : errF K ca_NothingToUndo = true)
    (er_BadCommand : errF K ca_BadCommand = true)
    (sg_RestError : PySem.W.specialIn K (.ref ca_RestError) "__getattribute__" = some (some (.builtin "type.__getattribute__"))) (rd_RestError : PySem.W.readsIn K ca_RestError (.type "type") = true) (fc_RestError : PySem.W.findCls K (.ref ca_RestError) (.type "type") "__init__" = some (.val (.builtin "ValueError.__init__")))
    {oi_BadStep : Value} {odi_BadStep ani_BadStep : Option Addr} {sli_BadStep : Array (Option Value)} {kVi_BadStep dci_BadStep pmi_BadStep cdi_BadStep cti_BadStep : Value} {fi_BadStep : Addr}
    (oe_BadStep : oexF K ca_BadStep = true) (ii_BadStep : PySem.W.findIn K (.ref ca_BadStep) "__init__" = some (some (.ref fi_BadStep))) (ti_BadStep : PySem.W.typeIn K (.ref fi_BadStep) = some (.type "function"))
    (li_BadStep : K.lookup fi_BadStep = some ⟨oi_BadStep, odi_BadStep, .func (PySem.W.fnOf "__init__" "BadStep.__init__" (defArgs s_BadStep) (defBody s_BadStep) (defScope s_BadStep) .none kVi_BadStep dci_BadStep pmi_BadStep ani_BadStep cdi_BadStep cti_BadStep), sli_BadStep⟩)
    (di_BadStep : PySem.W.codeIn K cdi_BadStep "BadStep.__init__" = true) (ki_BadStep : PySem.W.keepIn K (.ref fi_BadStep) = true)
    {oi_BadWay : Value} {odi_BadWay ani_BadWay : Option Addr} {sli_BadWay : Array (Option Value)} {kVi_BadWay dci_BadWay pmi_BadWay cdi_BadWay cti_BadWay : Value} {fi_BadWay : Addr}
    (oe_BadWay : oexF K ca_BadWay = true) (ii_BadWay : PySem.W.findIn K (.ref ca_BadWay) "__init__" = some (some (.ref fi_BadWay))) (ti_BadWay : PySem.W.typeIn K (.ref fi_BadWay) = some (.type "function"))
    (li_BadWay : K.lookup fi_BadWay = some ⟨oi_BadWay, odi_BadWay, .func (PySem.W.fnOf "__init__" "BadWay.__init__" (defArgs s_BadWay) (defBody s_BadWay) (defScope s_BadWay) .none kVi_BadWay dci_BadWay pmi_BadWay ani_BadWay cdi_BadWay cti_BadWay), sli_BadWay⟩)
    (di_BadWay : PySem.W.codeIn K cdi_BadWay "BadWay.__init__" = true) (ki_BadWay : PySem.W.keepIn K (.ref fi_BadWay) = true)
    {oi_BadText : Value} {odi_BadText ani_BadText : Option Addr} {sli_BadText : Array (Option Value)} {kVi_BadText dci_BadText pmi_BadText cdi_BadText cti_BadText : Value} {fi_BadText : Addr}
    (oe_BadText : oexF K ca_BadText = true) (ii_BadText : PySem.W.findIn K (.ref ca_BadText) "__init__" = some (some (.ref fi_BadText))) (ti_BadText : PySem.W.typeIn K (.ref fi_BadText) = some (.type "function"))
    (li_BadText : K.lookup fi_BadText = some ⟨oi_BadText, odi_BadText, .func (PySem.W.fnOf "__init__" "BadText.__init__" (defArgs s_BadText) (defBody s_BadText) (defScope s_BadText) .none kVi_BadText dci_BadText pmi_BadText ani_BadText cdi_BadText cti_BadText), sli_BadText⟩)
    (di_BadText : PySem.W.codeIn K cdi_BadText "BadText.__init__" = true) (ki_BadText : PySem.W.keepIn K (.ref fi_BadText) = true)
    (no_BadStep : PySem.W.findIn K (.ref ca_BadStep) "place" = some none)
    (no_BadText : PySem.W.findIn K (.ref ca_BadText) "line" = some none)
    (no_BadWay : PySem.W.findIn K (.ref ca_BadWay) "place" = some none)
    (xm_BadBook_BadStep : PySem.W.exmOne K (.ref ca_BadBook) (.ref ca_BadStep) = some false)
    (xm_BadBook_BadWay : PySem.W.exmOne K (.ref ca_BadBook) (.ref ca_BadWay) = some false)
    (xm_BadBook_BadText : PySem.W.exmOne K (.ref ca_BadBook) (.ref ca_BadText) = some false)
    (xm_BadBook_RestError : PySem.W.exmOne K (.ref ca_BadBook) (.ref ca_RestError) = some true)
    (xm_BadState_BadStep : PySem.W.exmOne K (.ref ca_BadState) (.ref ca_BadStep) = some false)
    (xm_BadState_BadWay : PySem.W.exmOne K (.ref ca_BadState) (.ref ca_BadWay) = some false)
    (xm_BadState_BadText : PySem.W.exmOne K (.ref ca_BadState) (.ref ca_BadText) = some false)
    (xm_BadState_RestError : PySem.W.exmOne K (.ref ca_BadState) (.ref ca_RestError) = some true)
    (xm_BadTree_BadStep : PySem.W.exmOne K (.ref ca_BadTree) (.ref ca_BadStep) = some false)
    (xm_BadTree_BadWay : PySem.W.exmOne K (.ref ca_BadTree) (.ref ca_BadWay) = some false)
    (xm_BadTree_BadText : PySem.W.exmOne K (.ref ca_BadTree) (.ref ca_BadText) = some false)
    (xm_BadTree_RestError : PySem.W.exmOne K (.ref ca_BadTree) (.ref ca_RestError) = some true)
    (xm_NoNode_BadStep : PySem.W.exmOne K (.ref ca_NoNode) (.ref ca_BadStep) = some false)
    (xm_NoNode_BadWay : PySem.W.exmOne K (.ref ca_NoNode) (.ref ca_BadWay) = some false)
    (xm_NoNode_BadText : PySem.W.exmOne K (.ref ca_NoNode) (.ref ca_BadText) = some false)
    (xm_NoNode_RestError : PySem.W.exmOne K (.ref ca_NoNode) (.ref ca_RestError) = some true)
    (xm_BadStep_BadStep : PySem.W.exmOne K (.ref ca_BadStep) (.ref ca_BadStep) = some true)
    (xm_BadStep_BadWay : PySem.W.exmOne K (.ref ca_BadStep) (.ref ca_BadWay) = some false)
    (xm_BadStep_BadText : PySem.W.exmOne K (.ref ca_BadStep) (.ref ca_BadText) = some false)
    (xm_BadStep_RestError : PySem.W.exmOne K (.ref ca_BadStep) (.ref ca_RestError) = some true)
    (xm_NoEnd_BadStep : PySem.W.exmOne K (.ref ca_NoEnd) (.ref ca_BadStep) = some false)
    (xm_NoEnd_BadWay : PySem.W.exmOne K (.ref ca_NoEnd) (.ref ca_BadWay) = some false)
    (xm_NoEnd_BadText : PySem.W.exmOne K (.ref ca_NoEnd) (.ref ca_BadText) = some false)
    (xm_NoEnd_RestError : PySem.W.exmOne K (.ref ca_NoEnd) (.ref ca_RestError) = some true)
    (xm_BadWay_BadStep : PySem.W.exmOne K (.ref ca_BadWay) (.ref ca_BadStep) = some false)
    (xm_BadWay_BadWay : PySem.W.exmOne K (.ref ca_BadWay) (.ref ca_BadWay) = some true)
    (xm_BadWay_BadText : PySem.W.exmOne K (.ref ca_BadWay) (.ref ca_BadText) = some false)
    (xm_BadWay_RestError : PySem.W.exmOne K (.ref ca_BadWay) (.ref ca_RestError) = some true)
    (xm_NoOneRest_BadStep : PySem.W.exmOne K (.ref ca_NoOneRest) (.ref ca_BadStep) = some false)
    (xm_NoOneRest_BadWay : PySem.W.exmOne K (.ref ca_NoOneRest) (.ref ca_BadWay) = some false)
    (xm_NoOneRest_BadText : PySem.W.exmOne K (.ref ca_NoOneRest) (.ref ca_BadText) = some false)
    (xm_NoOneRest_RestError : PySem.W.exmOne K (.ref ca_NoOneRest) (.ref ca_RestError) = some true)
    (xm_BadReader_BadStep : PySem.W.exmOne K (.ref ca_BadReader) (.ref ca_BadStep) = some false)
    (xm_BadReader_BadWay : PySem.W.exmOne K (.ref ca_BadReader) (.ref ca_BadWay) = some false)
    (xm_BadReader_BadText : PySem.W.exmOne K (.ref ca_BadReader) (.ref ca_BadText) = some false)
    (xm_BadReader_RestError : PySem.W.exmOne K (.ref ca_BadReader) (.ref ca_RestError) = some true)
    (xm_UnlikeBooks_BadStep : PySem.W.exmOne K (.ref ca_UnlikeBooks) (.ref ca_BadStep) = some false)
    (xm_UnlikeBooks_BadWay : PySem.W.exmOne K (.ref ca_UnlikeBooks) (.ref ca_BadWay) = some false)
    (xm_UnlikeBooks_BadText : PySem.W.exmOne K (.ref ca_UnlikeBooks) (.ref ca_BadText) = some false)
    (xm_UnlikeBooks_RestError : PySem.W.exmOne K (.ref ca_UnlikeBooks) (.ref ca_RestError) = some true)
    (xm_TooMany_BadStep : PySem.W.exmOne K (.ref ca_TooMany) (.ref ca_BadStep) = some false)
    (xm_TooMany_BadWay : PySem.W.exmOne K (.ref ca_TooMany) (.ref ca_BadWay) = some false)
    (xm_TooMany_BadText : PySem.W.exmOne K (.ref ca_TooMany) (.ref ca_BadText) = some false)
    (xm_TooMany_RestError : PySem.W.exmOne K (.ref ca_TooMany) (.ref ca_RestError) = some true)
    (xm_BadLine_BadStep : PySem.W.exmOne K (.ref ca_BadLine) (.ref ca_BadStep) = some false)
    (xm_BadLine_BadWay : PySem.W.exmOne K (.ref ca_BadLine) (.ref ca_BadWay) = some false)
    (xm_BadLine_BadText : PySem.W.exmOne K (.ref ca_BadLine) (.ref ca_BadText) = some false)
    (xm_BadLine_RestError : PySem.W.exmOne K (.ref ca_BadLine) (.ref ca_RestError) = some true)
    (xm_BadOrder_BadStep : PySem.W.exmOne K (.ref ca_BadOrder) (.ref ca_BadStep) = some false)
    (xm_BadOrder_BadWay : PySem.W.exmOne K (.ref ca_BadOrder) (.ref ca_BadWay) = some false)
    (xm_BadOrder_BadText : PySem.W.exmOne K (.ref ca_BadOrder) (.ref ca_BadText) = some false)
    (xm_BadOrder_RestError : PySem.W.exmOne K (.ref ca_BadOrder) (.ref ca_RestError) = some true)
    (xm_BadRule_BadStep : PySem.W.exmOne K (.ref ca_BadRule) (.ref ca_BadStep) = some false)
    (xm_BadRule_BadWay : PySem.W.exmOne K (.ref ca_BadRule) (.ref ca_BadWay) = some false)
    (xm_BadRule_BadText : PySem.W.exmOne K (.ref ca_BadRule) (.ref ca_BadText) = some false)
    (xm_BadRule_RestError : PySem.W.exmOne K (.ref ca_BadRule) (.ref ca_RestError) = some true)
    (xm_NothingToUndo_BadStep : PySem.W.exmOne K (.ref ca_NothingToUndo) (.ref ca_BadStep) = some false)
    (xm_NothingToUndo_BadWay : PySem.W.exmOne K (.ref ca_NothingToUndo) (.ref ca_BadWay) = some false)
    (xm_NothingToUndo_BadText : PySem.W.exmOne K (.ref ca_NothingToUndo) (.ref ca_BadText) = some false)
    (xm_NothingToUndo_RestError : PySem.W.exmOne K (.ref ca_NothingToUndo) (.ref ca_RestError) = some true)
    (xm_BadText_BadStep : PySem.W.exmOne K (.ref ca_BadText) (.ref ca_BadStep) = some false)
    (xm_BadText_BadWay : PySem.W.exmOne K (.ref ca_BadText) (.ref ca_BadWay) = some false)
    (xm_BadText_BadText : PySem.W.exmOne K (.ref ca_BadText) (.ref ca_BadText) = some true)
    (xm_BadText_RestError : PySem.W.exmOne K (.ref ca_BadText) (.ref ca_RestError) = some true)
    (xm_BadCommand_BadStep : PySem.W.exmOne K (.ref ca_BadCommand) (.ref ca_BadStep) = some false)
    (xm_BadCommand_BadWay : PySem.W.exmOne K (.ref ca_BadCommand) (.ref ca_BadWay) = some false)
    (xm_BadCommand_BadText : PySem.W.exmOne K (.ref ca_BadCommand) (.ref ca_BadText) = some false)
    (xm_BadCommand_RestError : PySem.W.exmOne K (.ref ca_BadCommand) (.ref ca_RestError) = some true)
    (xm_RestError_BadStep : PySem.W.exmOne K (.ref ca_RestError) (.ref ca_BadStep) = some false)
    (xm_RestError_BadWay : PySem.W.exmOne K (.ref ca_RestError) (.ref ca_BadWay) = some false)
    (xm_RestError_BadText : PySem.W.exmOne K (.ref ca_RestError) (.ref ca_BadText) = some false)
    (xm_RestError_RestError : PySem.W.exmOne K (.ref ca_RestError) (.ref ca_RestError) = some true)
    (eb_tabi : tabIB K (ecL [("BadBook", ca_BadBook), ("BadState", ca_BadState), ("BadTree", ca_BadTree), ("NoNode", ca_NoNode), ("BadStep", ca_BadStep), ("NoEnd", ca_NoEnd), ("BadWay", ca_BadWay), ("NoOneRest", ca_NoOneRest), ("BadReader", ca_BadReader), ("UnlikeBooks", ca_UnlikeBooks), ("TooMany", ca_TooMany), ("BadLine", ca_BadLine), ("BadOrder", ca_BadOrder), ("BadRule", ca_BadRule), ("NothingToUndo", ca_NothingToUndo), ("BadText", ca_BadText), ("BadCommand", ca_BadCommand), ("RestError", ca_RestError)]) tabi = true) (z_VE : PySem.W.nsIn K mainGlobals "ValueError" = some none)
    (eb_tabg : tabGB K (ecL [("BadBook", ca_BadBook), ("BadState", ca_BadState), ("BadTree", ca_BadTree), ("NoNode", ca_NoNode), ("BadStep", ca_BadStep), ("NoEnd", ca_NoEnd), ("BadWay", ca_BadWay), ("NoOneRest", ca_NoOneRest), ("BadReader", ca_BadReader), ("UnlikeBooks", ca_UnlikeBooks), ("TooMany", ca_TooMany), ("BadLine", ca_BadLine), ("BadOrder", ca_BadOrder), ("BadRule", ca_BadRule), ("NothingToUndo", ca_NothingToUndo), ("BadText", ca_BadText), ("BadCommand", ca_BadCommand), ("RestError", ca_RestError)]) tabl = true)
    (eb_k_place : keepsB K (ecL [("BadBook", ca_BadBook), ("BadState", ca_BadState), ("BadTree", ca_BadTree), ("NoNode", ca_NoNode), ("BadStep", ca_BadStep), ("NoEnd", ca_NoEnd), ("BadWay", ca_BadWay), ("NoOneRest", ca_NoOneRest), ("BadReader", ca_BadReader), ("UnlikeBooks", ca_UnlikeBooks), ("TooMany", ca_TooMany), ("BadLine", ca_BadLine), ("BadOrder", ca_BadOrder), ("BadRule", ca_BadRule), ("NothingToUndo", ca_NothingToUndo), ("BadText", ca_BadText), ("BadCommand", ca_BadCommand), ("RestError", ca_RestError)]) cl_place "place" = true)
    (eb_k_line : keepsB K (ecL [("BadBook", ca_BadBook), ("BadState", ca_BadState), ("BadTree", ca_BadTree), ("NoNode", ca_NoNode), ("BadStep", ca_BadStep), ("NoEnd", ca_NoEnd), ("BadWay", ca_BadWay), ("NoOneRest", ca_NoOneRest), ("BadReader", ca_BadReader), ("UnlikeBooks", ca_UnlikeBooks), ("TooMany", ca_TooMany), ("BadLine", ca_BadLine), ("BadOrder", ca_BadOrder), ("BadRule", ca_BadRule), ("NothingToUndo", ca_NothingToUndo), ("BadText", ca_BadText), ("BadCommand", ca_BadCommand), ("RestError", ca_RestError)]) cl_line "line" = true)
    (z_len : PySem.W.nsIn K mainGlobals "len" = some none)
    (z_range : PySem.W.nsIn K mainGlobals "range" = some none)
    (z_isinstance : PySem.W.nsIn K mainGlobals "isinstance" = some none)
    (z_int : PySem.W.nsIn K mainGlobals "int" = some none)
    (z_bool : PySem.W.nsIn K mainGlobals "bool" = some none)
    (z_str : PySem.W.nsIn K mainGlobals "str" = some none)
    (z_list : PySem.W.nsIn K mainGlobals "list" = some none)
    (z_tuple : PySem.W.nsIn K mainGlobals "tuple" = some none)
    (z_dict : PySem.W.nsIn K mainGlobals "dict" = some none)
    (z_set : PySem.W.nsIn K mainGlobals "set" = some none)
    (z_min : PySem.W.nsIn K mainGlobals "min" = some none)
    (z_max : PySem.W.nsIn K mainGlobals "max" = some none)
    (z_sum : PySem.W.nsIn K mainGlobals "sum" = some none)
    (z_all : PySem.W.nsIn K mainGlobals "all" = some none)
    (z_any : PySem.W.nsIn K mainGlobals "any" = some none)
    (z_sorted : PySem.W.nsIn K mainGlobals "sorted" = some none)
    (z_enumerate : PySem.W.nsIn K mainGlobals "enumerate" = some none)
    (z_zip : PySem.W.nsIn K mainGlobals "zip" = some none) :
    ∃ fd : FuncData, (∀ (s : Shared) (v : Value), BindsTo s fd ⟨[v], []⟩ [("script", v)]) ∧ ∀ base : Heap, K.In base → base.Ns mainGlobals mg → ∃ ec : EC, FnOk l.prog w K mg base (L2.CX l.prog w) 5 fa fd ["script"] (spD K ec 1 f_law) := by
  have e := hfa.symm.trans (PySem.W.mg_of X G na_law)
  cases e
  have T : Bl mg := ⟨PySem.W.mg_none_of X G z_len, PySem.W.mg_none_of X G z_range, PySem.W.mg_none_of X G z_isinstance, PySem.W.mg_none_of X G z_int, PySem.W.mg_none_of X G z_bool, PySem.W.mg_none_of X G z_str, PySem.W.mg_none_of X G z_list, PySem.W.mg_none_of X G z_tuple, PySem.W.mg_none_of X G z_dict, PySem.W.mg_none_of X G z_set, PySem.W.mg_none_of X G z_min, PySem.W.mg_none_of X G z_max, PySem.W.mg_none_of X G z_sum, PySem.W.mg_none_of X G z_all, PySem.W.mg_none_of X G z_any, PySem.W.mg_none_of X G z_sorted, PySem.W.mg_none_of X G z_enumerate, PySem.W.mg_none_of X G z_zip⟩
  have C : Cn mg := ⟨trivial⟩
  have F_law_cell := fun_mk (st := s_law_cell) lo_law_cell co_law_cell ke_law_cell
  have D_law_cell : DAt K mg "_law_cell" s_law_cell P_law_cell := ⟨_, _, PySem.W.mg_of X G na_law_cell, F_law_cell, F_law_cell.binds (ps := P_law_cell) fun _ _ _ _ _ _ us hl => match us, hl with | [_, _], _ => rfl⟩
  have F_law_raised := fun_mk (st := s_law_raised) lo_law_raised co_law_raised ke_law_raised
  have D_law_raised : DAt K mg "_law_raised" s_law_raised P_law_raised := ⟨_, _, PySem.W.mg_of X G na_law_raised, F_law_raised, F_law_raised.binds (ps := P_law_raised) fun _ _ _ _ _ _ us hl => match us, hl with | [_, _], _ => rfl⟩
  have F_law_kinds := fun_mk (st := s_law_kinds) lo_law_kinds co_law_kinds ke_law_kinds
  have D_law_kinds : DAt K mg "_law_kinds" s_law_kinds P_law_kinds := ⟨_, _, PySem.W.mg_of X G na_law_kinds, F_law_kinds, F_law_kinds.binds (ps := P_law_kinds) fun _ _ _ _ _ _ us hl => match us, hl with | [_, _], _ => rfl⟩
  have F_law_by_name := fun_mk (st := s_law_by_name) lo_law_by_name co_law_by_name ke_law_by_name
  have D_law_by_name : DAt K mg "_law_by_name" s_law_by_name P_law_by_name := ⟨_, _, PySem.W.mg_of X G na_law_by_name, F_law_by_name, F_law_by_name.binds (ps := P_law_by_name) fun _ _ _ _ _ _ us hl => match us, hl with | [_, _], _ => rfl⟩
  have F_law_field := fun_mk (st := s_law_field) lo_law_field co_law_field ke_law_field
  have D_law_field : DAt K mg "_law_field" s_law_field P_law_field := ⟨_, _, PySem.W.mg_of X G na_law_field, F_law_field, F_law_field.binds (ps := P_law_field) fun _ _ _ _ _ _ us hl => match us, hl with | [_, _, _], _ => rfl⟩
  have F_law := fun_mk (st := s_law) lo_law co_law ke_law
  have D_law : DAt K mg "law" s_law P_law := ⟨_, _, PySem.W.mg_of X G na_law, F_law, F_law.binds (ps := P_law) fun _ _ _ _ _ _ us hl => match us, hl with | [_], _ => rfl⟩
  refine ⟨PySem.W.fnOf "law" "law" (defArgs s_law) (defBody s_law) (defScope s_law) .none kV_law dc_law pm_law an_law cd_law ct_law, fun s v => .of_eq rfl, fun base _ _ => ⟨ecL [("BadBook", ca_BadBook), ("BadState", ca_BadState), ("BadTree", ca_BadTree), ("NoNode", ca_NoNode), ("BadStep", ca_BadStep), ("NoEnd", ca_NoEnd), ("BadWay", ca_BadWay), ("NoOneRest", ca_NoOneRest), ("BadReader", ca_BadReader), ("UnlikeBooks", ca_UnlikeBooks), ("TooMany", ca_TooMany), ("BadLine", ca_BadLine), ("BadOrder", ca_BadOrder), ("BadRule", ca_BadRule), ("NothingToUndo", ca_NothingToUndo), ("BadText", ca_BadText), ("BadCommand", ca_BadCommand), ("RestError", ca_RestError)], ?_⟩⟩
  have Z : Er l.prog w K mg base (ecL [("BadBook", ca_BadBook), ("BadState", ca_BadState), ("BadTree", ca_BadTree), ("NoNode", ca_NoNode), ("BadStep", ca_BadStep), ("NoEnd", ca_NoEnd), ("BadWay", ca_BadWay), ("NoOneRest", ca_NoOneRest), ("BadReader", ca_BadReader), ("UnlikeBooks", ca_UnlikeBooks), ("TooMany", ca_TooMany), ("BadLine", ca_BadLine), ("BadOrder", ca_BadOrder), ("BadRule", ca_BadRule), ("NothingToUndo", ca_NothingToUndo), ("BadText", ca_BadText), ("BadCommand", ca_BadCommand), ("RestError", ca_RestError)]) := ⟨PySem.W.mg_of X G ga_BadBook, PySem.W.mg_of X G ga_BadState, PySem.W.mg_of X G ga_BadTree, PySem.W.mg_of X G ga_NoNode, PySem.W.mg_of X G ga_BadStep, PySem.W.mg_of X G ga_NoEnd, PySem.W.mg_of X G ga_BadWay, PySem.W.mg_of X G ga_NoOneRest, PySem.W.mg_of X G ga_BadReader, PySem.W.mg_of X G ga_UnlikeBooks, PySem.W.mg_of X G ga_TooMany, PySem.W.mg_of X G ga_BadLine, PySem.W.mg_of X G ga_BadOrder, PySem.W.mg_of X G ga_BadRule, PySem.W.mg_of X G ga_NothingToUndo, PySem.W.mg_of X G ga_BadText, PySem.W.mg_of X G ga_BadCommand, PySem.W.mg_of X G ga_RestError, er_BadBook, er_BadState, er_BadTree, er_NoNode, er_NoEnd, er_NoOneRest, er_BadReader, er_UnlikeBooks, er_TooMany, er_BadLine, er_BadOrder, er_BadRule, er_NothingToUndo, er_BadCommand, ⟨PySem.W.mg_of X G ga_BadStep, oexF_ok oe_BadStep, no_BadStep, _, _, ii_BadStep, ti_BadStep, in_BadStep (fun_mk (st := s_BadStep) li_BadStep di_BadStep ki_BadStep) (PySem.W.mg_of X G ga_RestError) sg_RestError rd_RestError fc_RestError, (fun_mk (st := s_BadStep) li_BadStep di_BadStep ki_BadStep).binds (ps := N_BadStep) fun _ _ _ _ _ _ us hl => match us, hl with | [_, _], _ => rfl⟩, ⟨PySem.W.mg_of X G ga_BadWay, oexF_ok oe_BadWay, no_BadWay, _, _, ii_BadWay, ti_BadWay, in_BadWay (fun_mk (st := s_BadWay) li_BadWay di_BadWay ki_BadWay) (PySem.W.mg_of X G ga_RestError) sg_RestError rd_RestError fc_RestError, (fun_mk (st := s_BadWay) li_BadWay di_BadWay ki_BadWay).binds (ps := N_BadWay) fun _ _ _ _ _ _ us hl => match us, hl with | [_, _], _ => rfl⟩, ⟨PySem.W.mg_of X G ga_BadText, oexF_ok oe_BadText, no_BadText, _, _, ii_BadText, ti_BadText, in_BadText (fun_mk (st := s_BadText) li_BadText di_BadText ki_BadText) (PySem.W.mg_of X G ga_RestError) sg_RestError rd_RestError fc_RestError, (fun_mk (st := s_BadText) li_BadText di_BadText ki_BadText).binds (ps := N_BadText) fun _ _ _ _ _ _ us hl => match us, hl with | [_, _], _ => rfl⟩, ⟨PySem.W.mg_of X G ga_BadStep, oexF_ok oe_BadStep, no_BadStep, _, _, ii_BadStep, ti_BadStep, in_BadStep (fun_mk (st := s_BadStep) li_BadStep di_BadStep ki_BadStep) (PySem.W.mg_of X G ga_RestError) sg_RestError rd_RestError fc_RestError, fun _ _ _ => .of_eq rfl⟩, ⟨PySem.W.mg_of X G ga_BadWay, oexF_ok oe_BadWay, no_BadWay, _, _, ii_BadWay, ti_BadWay, in_BadWay (fun_mk (st := s_BadWay) li_BadWay di_BadWay ki_BadWay) (PySem.W.mg_of X G ga_RestError) sg_RestError rd_RestError fc_RestError, fun _ _ _ => .of_eq rfl⟩, ⟨PySem.W.mg_of X G ga_BadText, oexF_ok oe_BadText, no_BadText, _, _, ii_BadText, ti_BadText, in_BadText (fun_mk (st := s_BadText) li_BadText di_BadText ki_BadText) (PySem.W.mg_of X G ga_RestError) sg_RestError rd_RestError fc_RestError, fun _ _ _ => .of_eq rfl⟩, (tabT_cons xm_BadBook_BadStep (tabT_cons xm_BadBook_BadWay (tabT_cons xm_BadBook_BadText (tabT_cons xm_BadBook_RestError (tabT_cons xm_BadState_BadStep (tabT_cons xm_BadState_BadWay (tabT_cons xm_BadState_BadText (tabT_cons xm_BadState_RestError (tabT_cons xm_BadTree_BadStep (tabT_cons xm_BadTree_BadWay (tabT_cons xm_BadTree_BadText (tabT_cons xm_BadTree_RestError (tabT_cons xm_NoNode_BadStep (tabT_cons xm_NoNode_BadWay (tabT_cons xm_NoNode_BadText (tabT_cons xm_NoNode_RestError (tabT_cons xm_BadStep_BadStep (tabT_cons xm_BadStep_BadWay (tabT_cons xm_BadStep_BadText (tabT_cons xm_BadStep_RestError (tabT_cons xm_NoEnd_BadStep (tabT_cons xm_NoEnd_BadWay (tabT_cons xm_NoEnd_BadText (tabT_cons xm_NoEnd_RestError (tabT_cons xm_BadWay_BadStep (tabT_cons xm_BadWay_BadWay (tabT_cons xm_BadWay_BadText (tabT_cons xm_BadWay_RestError (tabT_cons xm_NoOneRest_BadStep (tabT_cons xm_NoOneRest_BadWay (tabT_cons xm_NoOneRest_BadText (tabT_cons xm_NoOneRest_RestError (tabT_cons xm_BadReader_BadStep (tabT_cons xm_BadReader_BadWay (tabT_cons xm_BadReader_BadText (tabT_cons xm_BadReader_RestError (tabT_cons xm_UnlikeBooks_BadStep (tabT_cons xm_UnlikeBooks_BadWay (tabT_cons xm_UnlikeBooks_BadText (tabT_cons xm_UnlikeBooks_RestError (tabT_cons xm_TooMany_BadStep (tabT_cons xm_TooMany_BadWay (tabT_cons xm_TooMany_BadText (tabT_cons xm_TooMany_RestError (tabT_cons xm_BadLine_BadStep (tabT_cons xm_BadLine_BadWay (tabT_cons xm_BadLine_BadText (tabT_cons xm_BadLine_RestError (tabT_cons xm_BadOrder_BadStep (tabT_cons xm_BadOrder_BadWay (tabT_cons xm_BadOrder_BadText (tabT_cons xm_BadOrder_RestError (tabT_cons xm_BadRule_BadStep (tabT_cons xm_BadRule_BadWay (tabT_cons xm_BadRule_BadText (tabT_cons xm_BadRule_RestError (tabT_cons xm_NothingToUndo_BadStep (tabT_cons xm_NothingToUndo_BadWay (tabT_cons xm_NothingToUndo_BadText (tabT_cons xm_NothingToUndo_RestError (tabT_cons xm_BadText_BadStep (tabT_cons xm_BadText_BadWay (tabT_cons xm_BadText_BadText (tabT_cons xm_BadText_RestError (tabT_cons xm_BadCommand_BadStep (tabT_cons xm_BadCommand_BadWay (tabT_cons xm_BadCommand_BadText (tabT_cons xm_BadCommand_RestError (tabT_cons xm_RestError_BadStep (tabT_cons xm_RestError_BadWay (tabT_cons xm_RestError_BadText (tabT_cons xm_RestError_RestError tabT_nil)))))))))))))))))))))))))))))))))))))))))))))))))))))))))))))))))))))))), tabIB_ok eb_tabi, PySem.W.mg_none_of X G z_VE, tabGB_ok eb_tabg, keepsB_ok eb_k_place, keepsB_ok eb_k_line⟩
  have G_law_cell : DOk l.prog w K mg base (ecL [("BadBook", ca_BadBook), ("BadState", ca_BadState), ("BadTree", ca_BadTree), ("NoNode", ca_NoNode), ("BadStep", ca_BadStep), ("NoEnd", ca_NoEnd), ("BadWay", ca_BadWay), ("NoOneRest", ca_NoOneRest), ("BadReader", ca_BadReader), ("UnlikeBooks", ca_UnlikeBooks), ("TooMany", ca_TooMany), ("BadLine", ca_BadLine), ("BadOrder", ca_BadOrder), ("BadRule", ca_BadRule), ("NothingToUndo", ca_NothingToUndo), ("BadText", ca_BadText), ("BadCommand", ca_BadCommand), ("RestError", ca_RestError)]) "_law_cell" P_law_cell 1 2 f_law_cell := ok_law_cell T C Z D_law_cell
  have G_law_raised : DOk l.prog w K mg base (ecL [("BadBook", ca_BadBook), ("BadState", ca_BadState), ("BadTree", ca_BadTree), ("NoNode", ca_NoNode), ("BadStep", ca_BadStep), ("NoEnd", ca_NoEnd), ("BadWay", ca_BadWay), ("NoOneRest", ca_NoOneRest), ("BadReader", ca_BadReader), ("UnlikeBooks", ca_UnlikeBooks), ("TooMany", ca_TooMany), ("BadLine", ca_BadLine), ("BadOrder", ca_BadOrder), ("BadRule", ca_BadRule), ("NothingToUndo", ca_NothingToUndo), ("BadText", ca_BadText), ("BadCommand", ca_BadCommand), ("RestError", ca_RestError)]) "_law_raised" P_law_raised 3 2 f_law_raised := ok_law_raised T C Z D_law_raised
  have G_law_kinds : DOk l.prog w K mg base (ecL [("BadBook", ca_BadBook), ("BadState", ca_BadState), ("BadTree", ca_BadTree), ("NoNode", ca_NoNode), ("BadStep", ca_BadStep), ("NoEnd", ca_NoEnd), ("BadWay", ca_BadWay), ("NoOneRest", ca_NoOneRest), ("BadReader", ca_BadReader), ("UnlikeBooks", ca_UnlikeBooks), ("TooMany", ca_TooMany), ("BadLine", ca_BadLine), ("BadOrder", ca_BadOrder), ("BadRule", ca_BadRule), ("NothingToUndo", ca_NothingToUndo), ("BadText", ca_BadText), ("BadCommand", ca_BadCommand), ("RestError", ca_RestError)]) "_law_kinds" P_law_kinds 4 2 f_law_kinds := ok_law_kinds T C Z D_law_kinds G_law_raised
  have G_law_by_name : DOk l.prog w K mg base (ecL [("BadBook", ca_BadBook), ("BadState", ca_BadState), ("BadTree", ca_BadTree), ("NoNode", ca_NoNode), ("BadStep", ca_BadStep), ("NoEnd", ca_NoEnd), ("BadWay", ca_BadWay), ("NoOneRest", ca_NoOneRest), ("BadReader", ca_BadReader), ("UnlikeBooks", ca_UnlikeBooks), ("TooMany", ca_TooMany), ("BadLine", ca_BadLine), ("BadOrder", ca_BadOrder), ("BadRule", ca_BadRule), ("NothingToUndo", ca_NothingToUndo), ("BadText", ca_BadText), ("BadCommand", ca_BadCommand), ("RestError", ca_RestError)]) "_law_by_name" P_law_by_name 3 2 f_law_by_name := ok_law_by_name T C Z D_law_by_name
  have G_law_field : DOk l.prog w K mg base (ecL [("BadBook", ca_BadBook), ("BadState", ca_BadState), ("BadTree", ca_BadTree), ("NoNode", ca_NoNode), ("BadStep", ca_BadStep), ("NoEnd", ca_NoEnd), ("BadWay", ca_BadWay), ("NoOneRest", ca_NoOneRest), ("BadReader", ca_BadReader), ("UnlikeBooks", ca_UnlikeBooks), ("TooMany", ca_TooMany), ("BadLine", ca_BadLine), ("BadOrder", ca_BadOrder), ("BadRule", ca_BadRule), ("NothingToUndo", ca_NothingToUndo), ("BadText", ca_BadText), ("BadCommand", ca_BadCommand), ("RestError", ca_RestError)]) "_law_field" P_law_field 4 3 f_law_field := ok_law_field T C Z D_law_field G_law_by_name G_law_raised
  have G_law : DOk l.prog w K mg base (ecL [("BadBook", ca_BadBook), ("BadState", ca_BadState), ("BadTree", ca_BadTree), ("NoNode", ca_NoNode), ("BadStep", ca_BadStep), ("NoEnd", ca_NoEnd), ("BadWay", ca_BadWay), ("NoOneRest", ca_NoOneRest), ("BadReader", ca_BadReader), ("UnlikeBooks", ca_UnlikeBooks), ("TooMany", ca_TooMany), ("BadLine", ca_BadLine), ("BadOrder", ca_BadOrder), ("BadRule", ca_BadRule), ("NothingToUndo", ca_NothingToUndo), ("BadText", ca_BadText), ("BadCommand", ca_BadCommand), ("RestError", ca_RestError)]) "law" P_law 5 1 f_law := ok_law T C Z D_law G_law_kinds G_law_cell G_law_field
  exact law_same G_law lo_law (PySem.W.mg_of X G na_law)
end K01
open PySem PySem.W PyProof.Rows
set_option maxHeartbeats 0 in
theorem PySem.Challenge.cw_onerest_k01_errors_holds : PySem.Challenge.rw_onerest_k01_errors.Holds := by
  w_on; o_law; k_head; (case hw => w_witness2)
  k_fill
  refine DL.law_walk (l := PySem.Challenge.rw_onerest_k01_errors) (n := 63) (k := 5) (x := "script") (g := K01.f_law) rfl (by decide) rfl ⟨rfl, by decide, by decide⟩ K01.law_true (fun w h Y => PySem.W.kIn_of Y) ?F
  case F =>
    intro w mg fa h KX G hmg
    refine' K01.all_mk KX G hmg ?na_law_cell ?lo_law_cell ?co_law_cell ?ke_law_cell ?na_law_raised ?lo_law_raised ?co_law_raised ?ke_law_raised ?na_law_kinds ?lo_law_kinds ?co_law_kinds ?ke_law_kinds ?na_law_by_name ?lo_law_by_name ?co_law_by_name ?ke_law_by_name ?na_law_field ?lo_law_field ?co_law_field ?ke_law_field ?na_law ?lo_law ?co_law ?ke_law ?ga_BadBook ?ga_BadState ?ga_BadTree ?ga_NoNode ?ga_BadStep ?ga_NoEnd ?ga_BadWay ?ga_NoOneRest ?ga_BadReader ?ga_UnlikeBooks ?ga_TooMany ?ga_BadLine ?ga_BadOrder ?ga_BadRule ?ga_NothingToUndo ?ga_BadText ?ga_BadCommand ?ga_RestError ?er_BadBook ?er_BadState ?er_BadTree ?er_NoNode ?er_NoEnd ?er_NoOneRest ?er_BadReader ?er_UnlikeBooks ?er_TooMany ?er_BadLine ?er_BadOrder ?er_BadRule ?er_NothingToUndo ?er_BadCommand ?sg_RestError ?rd_RestError ?fc_RestError ?oe_BadStep ?ii_BadStep ?ti_BadStep ?li_BadStep ?di_BadStep ?ki_BadStep ?oe_BadWay ?ii_BadWay ?ti_BadWay ?li_BadWay ?di_BadWay ?ki_BadWay ?oe_BadText ?ii_BadText ?ti_BadText ?li_BadText ?di_BadText ?ki_BadText ?no_BadStep ?no_BadText ?no_BadWay ?xm_BadBook_BadStep ?xm_BadBook_BadWay ?xm_BadBook_BadText ?xm_BadBook_RestError ?xm_BadState_BadStep ?xm_BadState_BadWay ?xm_BadState_BadText ?xm_BadState_RestError ?xm_BadTree_BadStep ?xm_BadTree_BadWay ?xm_BadTree_BadText ?xm_BadTree_RestError ?xm_NoNode_BadStep ?xm_NoNode_BadWay ?xm_NoNode_BadText ?xm_NoNode_RestError ?xm_BadStep_BadStep ?xm_BadStep_BadWay ?xm_BadStep_BadText ?xm_BadStep_RestError ?xm_NoEnd_BadStep ?xm_NoEnd_BadWay ?xm_NoEnd_BadText ?xm_NoEnd_RestError ?xm_BadWay_BadStep ?xm_BadWay_BadWay ?xm_BadWay_BadText ?xm_BadWay_RestError ?xm_NoOneRest_BadStep ?xm_NoOneRest_BadWay ?xm_NoOneRest_BadText ?xm_NoOneRest_RestError ?xm_BadReader_BadStep ?xm_BadReader_BadWay ?xm_BadReader_BadText ?xm_BadReader_RestError ?xm_UnlikeBooks_BadStep ?xm_UnlikeBooks_BadWay ?xm_UnlikeBooks_BadText ?xm_UnlikeBooks_RestError ?xm_TooMany_BadStep ?xm_TooMany_BadWay ?xm_TooMany_BadText ?xm_TooMany_RestError ?xm_BadLine_BadStep ?xm_BadLine_BadWay ?xm_BadLine_BadText ?xm_BadLine_RestError ?xm_BadOrder_BadStep ?xm_BadOrder_BadWay ?xm_BadOrder_BadText ?xm_BadOrder_RestError ?xm_BadRule_BadStep ?xm_BadRule_BadWay ?xm_BadRule_BadText ?xm_BadRule_RestError ?xm_NothingToUndo_BadStep ?xm_NothingToUndo_BadWay ?xm_NothingToUndo_BadText ?xm_NothingToUndo_RestError ?xm_BadText_BadStep ?xm_BadText_BadWay ?xm_BadText_BadText ?xm_BadText_RestError ?xm_BadCommand_BadStep ?xm_BadCommand_BadWay ?xm_BadCommand_BadText ?xm_BadCommand_RestError ?xm_RestError_BadStep ?xm_RestError_BadWay ?xm_RestError_BadText ?xm_RestError_RestError ?eb_tabi ?z_VE ?eb_tabg ?eb_k_place ?eb_k_line ?z_len ?z_range ?z_isinstance ?z_int ?z_bool ?z_str ?z_list ?z_tuple ?z_dict ?z_set ?z_min ?z_max ?z_sum ?z_all ?z_any ?z_sorted ?z_enumerate ?z_zip
    (case na_law_cell => k_is)
    (case lo_law_cell => k_is)
    (case co_law_cell => k_is)
    (case ke_law_cell => k_is)
    (case na_law_raised => k_is)
    (case lo_law_raised => k_is)
    (case co_law_raised => k_is)
    (case ke_law_raised => k_is)
    (case na_law_kinds => k_is)
    (case lo_law_kinds => k_is)
    (case co_law_kinds => k_is)
    (case ke_law_kinds => k_is)
    (case na_law_by_name => k_is)
    (case lo_law_by_name => k_is)
    (case co_law_by_name => k_is)
    (case ke_law_by_name => k_is)
    (case na_law_field => k_is)
    (case lo_law_field => k_is)
    (case co_law_field => k_is)
    (case ke_law_field => k_is)
    (case na_law => k_is)
    (case lo_law => k_is)
    (case co_law => k_is)
    (case ke_law => k_is)
    (case ga_BadBook => k_is)
    (case ga_BadState => k_is)
    (case ga_BadTree => k_is)
    (case ga_NoNode => k_is)
    (case ga_BadStep => k_is)
    (case ga_NoEnd => k_is)
    (case ga_BadWay => k_is)
    (case ga_NoOneRest => k_is)
    (case ga_BadReader => k_is)
    (case ga_UnlikeBooks => k_is)
    (case ga_TooMany => k_is)
    (case ga_BadLine => k_is)
    (case ga_BadOrder => k_is)
    (case ga_BadRule => k_is)
    (case ga_NothingToUndo => k_is)
    (case ga_BadText => k_is)
    (case ga_BadCommand => k_is)
    (case ga_RestError => k_is)
    (case er_BadBook => kernel_rfl)
    (case er_BadState => kernel_rfl)
    (case er_BadTree => kernel_rfl)
    (case er_NoNode => kernel_rfl)
    (case er_NoEnd => kernel_rfl)
    (case er_NoOneRest => kernel_rfl)
    (case er_BadReader => kernel_rfl)
    (case er_UnlikeBooks => kernel_rfl)
    (case er_TooMany => kernel_rfl)
    (case er_BadLine => kernel_rfl)
    (case er_BadOrder => kernel_rfl)
    (case er_BadRule => kernel_rfl)
    (case er_NothingToUndo => kernel_rfl)
    (case er_BadCommand => kernel_rfl)
    (case sg_RestError => k_is)
    (case rd_RestError => k_is)
    (case fc_RestError => k_is)
    (case oe_BadStep => kernel_rfl)
    (case ii_BadStep => k_is)
    (case ti_BadStep => k_is)
    (case li_BadStep => k_is)
    (case di_BadStep => k_is)
    (case ki_BadStep => k_is)
    (case oe_BadWay => kernel_rfl)
    (case ii_BadWay => k_is)
    (case ti_BadWay => k_is)
    (case li_BadWay => k_is)
    (case di_BadWay => k_is)
    (case ki_BadWay => k_is)
    (case oe_BadText => kernel_rfl)
    (case ii_BadText => k_is)
    (case ti_BadText => k_is)
    (case li_BadText => k_is)
    (case di_BadText => k_is)
    (case ki_BadText => k_is)
    (case no_BadStep => k_is)
    (case no_BadText => k_is)
    (case no_BadWay => k_is)
    (case xm_BadBook_BadStep => kernel_rfl)
    (case xm_BadBook_BadWay => kernel_rfl)
    (case xm_BadBook_BadText => kernel_rfl)
    (case xm_BadBook_RestError => kernel_rfl)
    (case xm_BadState_BadStep => kernel_rfl)
    (case xm_BadState_BadWay => kernel_rfl)
    (case xm_BadState_BadText => kernel_rfl)
    (case xm_BadState_RestError => kernel_rfl)
    (case xm_BadTree_BadStep => kernel_rfl)
    (case xm_BadTree_BadWay => kernel_rfl)
    (case xm_BadTree_BadText => kernel_rfl)
    (case xm_BadTree_RestError => kernel_rfl)
    (case xm_NoNode_BadStep => kernel_rfl)
    (case xm_NoNode_BadWay => kernel_rfl)
    (case xm_NoNode_BadText => kernel_rfl)
    (case xm_NoNode_RestError => kernel_rfl)
    (case xm_BadStep_BadStep => kernel_rfl)
    (case xm_BadStep_BadWay => kernel_rfl)
    (case xm_BadStep_BadText => kernel_rfl)
    (case xm_BadStep_RestError => kernel_rfl)
    (case xm_NoEnd_BadStep => kernel_rfl)
    (case xm_NoEnd_BadWay => kernel_rfl)
    (case xm_NoEnd_BadText => kernel_rfl)
    (case xm_NoEnd_RestError => kernel_rfl)
    (case xm_BadWay_BadStep => kernel_rfl)
    (case xm_BadWay_BadWay => kernel_rfl)
    (case xm_BadWay_BadText => kernel_rfl)
    (case xm_BadWay_RestError => kernel_rfl)
    (case xm_NoOneRest_BadStep => kernel_rfl)
    (case xm_NoOneRest_BadWay => kernel_rfl)
    (case xm_NoOneRest_BadText => kernel_rfl)
    (case xm_NoOneRest_RestError => kernel_rfl)
    (case xm_BadReader_BadStep => kernel_rfl)
    (case xm_BadReader_BadWay => kernel_rfl)
    (case xm_BadReader_BadText => kernel_rfl)
    (case xm_BadReader_RestError => kernel_rfl)
    (case xm_UnlikeBooks_BadStep => kernel_rfl)
    (case xm_UnlikeBooks_BadWay => kernel_rfl)
    (case xm_UnlikeBooks_BadText => kernel_rfl)
    (case xm_UnlikeBooks_RestError => kernel_rfl)
    (case xm_TooMany_BadStep => kernel_rfl)
    (case xm_TooMany_BadWay => kernel_rfl)
    (case xm_TooMany_BadText => kernel_rfl)
    (case xm_TooMany_RestError => kernel_rfl)
    (case xm_BadLine_BadStep => kernel_rfl)
    (case xm_BadLine_BadWay => kernel_rfl)
    (case xm_BadLine_BadText => kernel_rfl)
    (case xm_BadLine_RestError => kernel_rfl)
    (case xm_BadOrder_BadStep => kernel_rfl)
    (case xm_BadOrder_BadWay => kernel_rfl)
    (case xm_BadOrder_BadText => kernel_rfl)
    (case xm_BadOrder_RestError => kernel_rfl)
    (case xm_BadRule_BadStep => kernel_rfl)
    (case xm_BadRule_BadWay => kernel_rfl)
    (case xm_BadRule_BadText => kernel_rfl)
    (case xm_BadRule_RestError => kernel_rfl)
    (case xm_NothingToUndo_BadStep => kernel_rfl)
    (case xm_NothingToUndo_BadWay => kernel_rfl)
    (case xm_NothingToUndo_BadText => kernel_rfl)
    (case xm_NothingToUndo_RestError => kernel_rfl)
    (case xm_BadText_BadStep => kernel_rfl)
    (case xm_BadText_BadWay => kernel_rfl)
    (case xm_BadText_BadText => kernel_rfl)
    (case xm_BadText_RestError => kernel_rfl)
    (case xm_BadCommand_BadStep => kernel_rfl)
    (case xm_BadCommand_BadWay => kernel_rfl)
    (case xm_BadCommand_BadText => kernel_rfl)
    (case xm_BadCommand_RestError => kernel_rfl)
    (case xm_RestError_BadStep => kernel_rfl)
    (case xm_RestError_BadWay => kernel_rfl)
    (case xm_RestError_BadText => kernel_rfl)
    (case xm_RestError_RestError => kernel_rfl)
    (case eb_tabi => kernel_rfl)
    (case z_VE => k_is)
    (case eb_tabg => kernel_rfl)
    (case eb_k_place => kernel_rfl)
    (case eb_k_line => kernel_rfl)
    (case z_len => k_is)
    (case z_range => k_is)
    (case z_isinstance => k_is)
    (case z_int => k_is)
    (case z_bool => k_is)
    (case z_str => k_is)
    (case z_list => k_is)
    (case z_tuple => k_is)
    (case z_dict => k_is)
    (case z_set => k_is)
    (case z_min => k_is)
    (case z_max => k_is)
    (case z_sum => k_is)
    (case z_all => k_is)
    (case z_any => k_is)
    (case z_sorted => k_is)
    (case z_enumerate => k_is)
    (case z_zip => k_is)
