import PyProof.Rows.All
import PyProof.EqLayable
import Wide.All
import OpenK.AllK
import Wide.FinOn
import HandS.ForMost
import HandS.ForExc
import HandS.Walk
import HandS.IsInst
import HandS.Deep
import HandS.TupAny
import HandS.Style
import HandS.Zip
import HandS.TryMany
import HandS.CallSlots
import HandS.Wide
import HandS.Small
import HandS.TupSets
import HandS.Conv
import HandS.ExcOwn
import KE.GoesMore
import KE.DataMinMax
import HandS.SortKw
import HandS.SortInts
import HandS.ExcInit
import HandS.FStr
import HandS.ExcField
import HandS.DictComp
import PyProof.Rows.TupDisplay
import HandS.SetFor
import HandS.Strs
import PyProof.Rows.SetFrom
import PySem.Challenge.RW_onerest_k24_whole_results_by_every_way
set_option Elab.async false
set_option linter.all false
set_option maxRecDepth 100000
/-! Data over Python's values, without a heap: what an expression gives, what a block does. -/
namespace DL
open PySem

abbrev D := PyData
structure Err where
  cls : String
  fld : Option (Str × D)
abbrev R (α : Type) := Option (Except Err α)
def ok {α : Type} (a : α) : R α := some (.ok a)
def er {α : Type} (e : Err) : R α := some (.error e)
def rb {α β : Type} (x : R α) (f : α → R β) : R β := match x with
  | none => none
  | some (.error e) => some (.error e)
  | some (.ok a) => f a
theorem rb_ok {α β : Type} (a : α) (f : α → R β) : rb (ok a) f = f a := (rfl)
theorem rb_none {α β : Type} (f : α → R β) : rb none f = none := (rfl)
theorem rb_er {α β : Type} (e : Err) (f : α → R β) : rb (er e) f = er e := (rfl)
theorem rb_eq_ok {α β : Type} {x : R α} {f : α → R β} {b : β} (h : rb x f = ok b) : ∃ a, x = ok a ∧ f a = ok b := by
  unfold rb at h
  split at h
  · cases h
  · cases h
  · exact ⟨_, rfl, h⟩

inductive Slot where
  | un | d (x : D) | own (xs : List D) | tg (xs : List D) | nest (xss : List (List D)) | dct (kvs : List (List Int × D))
abbrev Env := List Slot
abbrev EX := Env → R D
abbrev EL := Env → R (List D)
abbrev EB := Env → R Bool
inductive Out where
  | nx (r : Env) | rt (x : D) | bk (r : Env) | ct (r : Env) | er (e : Err) (r : Env) | ro (i : Nat) (r : Env)
abbrev SX := Env → Option Out

/-! ### expressions -/
def vVar (i : Nat) : EX := fun r => match r[i]? with
  | some (.d x) => ok x
  | some (.tg xs) => ok (.list xs)
  | _ => none
/-- a name that is only read: an own list too -/
def vRd (i : Nat) : EX := fun r => match r[i]? with
  | some (.d x) => ok x
  | some (.own xs) => ok (.list xs)
  | some (.tg xs) => ok (.list xs)
  | _ => none
def vC (x : D) : EX := fun _ => ok x
def po {α : Type} : Option α → R α
  | none => none
  | some a => ok a
def v1 (f : D → Option D) (a : EX) : EX := fun r => rb (a r) fun x => po (f x)
def v2 (f : D → D → Option D) (a b : EX) : EX := fun r => rb (a r) fun x => rb (b r) fun y => po (f x y)
def c1 (f : D → Option Bool) (a : EX) : EB := fun r => rb (a r) fun x => po (f x)
def c2 (f : D → D → Option Bool) (a b : EX) : EB := fun r => rb (a r) fun x => rb (b r) fun y => po (f x y)
def l1 (f : D → Option (List D)) (a : EX) : EL := fun r => rb (a r) fun x => po (f x)
def l2 (f : D → D → Option (List D)) (a b : EX) : EL := fun r => rb (a r) fun x => rb (b r) fun y => po (f x y)
/-- a new list that is kept as it is -/
def vL (a : EL) : EX := fun r => rb (a r) fun xs => ok (.list xs)
def vB (a : EB) : EX := fun r => rb (a r) fun b => ok (.bool b)
def vArgs : List EX → Env → R (List D)
  | [], _ => ok []
  | a :: as, r => rb (a r) fun x => rb (vArgs as r) fun xs => ok (x :: xs)
def vTup (as : List EX) : EX := fun r => rb (vArgs as r) fun xs => ok (.tuple xs)
def vCall (f : List D → R D) (as : List EX) : EX := fun r => rb (vArgs as r) f
def vIf (c : EB) (a b : EX) : EX := fun r => rb (c r) fun k => if k = true then a r else b r
/-! tests -/
def dTr : D → Option Bool
  | .bool b => some b
  | _ => none
def bTr (a : EX) : EB := c1 dTr a
def bNot (a : EB) : EB := fun r => rb (a r) fun b => ok (!b)
def bAnd (a b : EB) : EB := fun r => rb (a r) fun k => if k = true then b r else ok false
def bOr (a b : EB) : EB := fun r => rb (a r) fun k => if k = true then ok true else b r

/-! ### operations on data -/
def lim : Nat := 16777216
def asList (n : Nat) (x : D) : Option D := if n ≤ lim then some x else none
def dAdd : D → D → Option D
  | .int i, .int j => some (.int (i + j))
  | .bool b, .int j => some (.int ((if b then 1 else 0) + j))
  | .tuple xs, .tuple ys => asList (xs ++ ys).length (.tuple (xs ++ ys))
  | .list xs, .list ys => asList (xs ++ ys).length (.list (xs ++ ys))
  | _, _ => none
def lCat : D → D → Option (List D)
  | .list xs, .list ys => if (xs ++ ys).length ≤ lim then some (xs ++ ys) else none
  | _, _ => none
/-- a list so many times -/
def lRep : D → D → Option (List D)
  | .list xs, .int k => if -(2 ^ 63) ≤ k ∧ k < 2 ^ 63 ∧ xs.length * k.toNat ≤ lim then some (List.replicate k.toNat xs).flatten else none
  | _, _ => none
def dSub : D → D → Option D
  | .int i, .int j => some (.int (i - j))
  | .bool b, .int j => some (.int ((if b then 1 else 0) - j))
  | _, _ => none
def small64 (i : Int) : Bool := decide (-(2 ^ 64) < i) && decide (i < 2 ^ 64)
def dMul : D → D → Option D
  | .int i, .int j => if (small64 i || small64 j) = true then some (.int (i * j)) else none
  | _, _ => none
def dMod : D → D → Option D
  | .int i, .int j => if 0 < j then some (.int (i % j)) else none
  | _, _ => none
def dDiv : D → D → Option D
  | .int i, .int j => if 0 < j ∧ j < 1073741824 then some (.int (i / j)) else none
  | _, _ => none
def dPow : D → D → Option D
  | .int i, .int j => if 0 ≤ j ∧ j ≤ 100000 ∧ i.natAbs < 2 ^ 64 then some (.int (i ^ j.toNat)) else none
  | _, _ => none
def dNeg : D → Option D
  | .int i => some (.int (-i))
  | _ => none
def dInt : D → Option D
  | .int i => some (.int i)
  | .bool b => some (.int (if b then 1 else 0))
  | _ => none
def dMin : D → D → Option D
  | .int i, .int j => some (.int (if j < i then j else i))
  | _, _ => none
def dMax : D → D → Option D
  | .int i, .int j => some (.int (if j > i then j else i))
  | _, _ => none
def seqOf : D → Option (List D)
  | .list xs => some xs
  | .tuple xs => some xs
  | _ => none
def dLen : D → Option D
  | .list xs => some (.int xs.length)
  | .tuple xs => some (.int xs.length)
  | _ => none
/-- the place that an index means -/
def ixAt (n : Nat) (i : Int) : Option Nat :=
  if 0 ≤ i then (if i < n then some i.toNat else none) else if -(n : Int) ≤ i then some (i + n).toNat else none
def atD (xs : List D) (i : Int) : Option D := match ixAt xs.length i with
  | some k => match xs[k]? with
    | some x => some x
    | none => none
  | none => none
def dIx : D → D → Option D
  | .list xs, .int i => atD xs i
  | .tuple xs, .int i => atD xs i
  | .list xs, .bool b => none
  | _, _ => none
/-- x[k], a list of a list of own lists -/
def vNestIx (i : Nat) (k : EX) : EX := fun r => match r[i]? with
  | some (.nest xss) => rb (k r) fun j => match j with
    | .int j => (match ixAt xss.length j with
      | some n => po ((xss[n]?).map fun xs => .list xs)
      | none => none)
    | _ => none
  | _ => none
/-- where a slice begins and ends -/
def cutAt (n dflt : Nat) : Option Int → Nat
  | none => dflt
  | some i => if i < 0 then (i + n).toNat else min i.toNat n
def cutD {α : Type} (xs : List α) (lo hi : Option Int) : List α := (xs.drop (cutAt xs.length 0 lo)).take (cutAt xs.length xs.length hi - cutAt xs.length 0 lo)
def vOpt : Option EX → Env → R (Option Int)
  | none, _ => ok none
  | some a, r => rb (a r) fun x => match x with
    | .int i => ok (some i)
    | _ => none
def dCut (lo hi : Option Int) : D → Option D
  | .list xs => some (.list (cutD xs lo hi))
  | .tuple xs => some (.tuple (cutD xs lo hi))
  | _ => none
def lCut (lo hi : Option Int) : D → Option (List D)
  | .list xs => some (cutD xs lo hi)
  | _ => none
def vCut (a : EX) (lo hi : Option EX) : EX := fun r => rb (a r) fun x => rb (vOpt lo r) fun i => rb (vOpt hi r) fun j => po (dCut i j x)
def lCutE (a : EX) (lo hi : Option EX) : EL := fun r => rb (a r) fun x => rb (vOpt lo r) fun i => rb (vOpt hi r) fun j => po (lCut i j x)
/-- xs[::-1] -/
def dRev : D → Option D
  | .list xs => some (.list xs.reverse)
  | .tuple xs => some (.tuple xs.reverse)
  | _ => none
def lOf : D → Option (List D)
  | .list xs => some xs
  | .tuple xs => some xs
  | _ => none
def dTup : D → Option D
  | .list xs => some (.tuple xs)
  | .tuple xs => some (.tuple xs)
  | _ => none
def cLt : D → D → Option Bool
  | .int i, .int j => some (decide (i < j))
  | _, _ => none
def cLe : D → D → Option Bool
  | .int i, .int j => some (decide (i ≤ j))
  | _, _ => none
def cGt : D → D → Option Bool
  | .int i, .int j => some (decide (j < i))
  | _, _ => none
def cGe : D → D → Option Bool
  | .int i, .int j => some (decide (j ≤ i))
  | _, _ => none
def eqS (x y : D) : Option Bool := if (SeqAt.shaped x && SeqAt.shaped y) = true then some (PyData.eqv x y) else none
/-- ==: two lists of unlike lengths are told apart whatever is in them -/
def cEq : D → D → Option Bool
  | .list xs, .list ys => if xs.length = ys.length then (if xs.length = 0 then some true else eqS (.list xs) (.list ys)) else some false
  | x, y => eqS x y
def cNe (x y : D) : Option Bool := (cEq x y).map (!·)
def cIn (x y : D) : Option Bool := match seqOf y with
  | some ds => if (SeqAt.shaped x && SeqAt.shaped y) = true then some (ds.any fun z => PyData.eqv z x) else none
  | none => none
def cNotIn (x y : D) : Option Bool := match seqOf y with
  | some ds => if (SeqAt.shaped x && SeqAt.shaped y) = true then some (!ds.any fun z => PyData.eqv z x) else none
  | none => none
def cIsB (b : Bool) : D → Option Bool
  | .bool k => some (decide (k = b))
  | _ => none
def cIsNone : D → Option Bool
  | .none => some true
  | _ => some false
/-- a built-in class by its name -/
def tyName : D → String
  | .none => "NoneType"
  | .bool _ => "bool"
  | .int _ => "int"
  | .str _ => "str"
  | .list _ => "list"
  | .tuple _ => "tuple"
  | .dict _ => "dict"
def isInst (t : String) (x : D) : Bool := tyName x == t || (t == "int" && tyName x == "bool")
def bools : List D → Option (List Bool)
  | [] => some []
  | .bool b :: xs => (bools xs).map (b :: ·)
  | _ :: _ => none
def cAll : D → Option Bool
  | .list xs => match bools xs with
    | some bs => some (bs.all id)
    | none => none
  | _ => none
def cAny : D → Option Bool
  | .list xs => match bools xs with
    | some bs => some (bs.any id)
    | none => none
  | _ => none

/-- an int, or a tuple of such, so deep at most -/
def deepI : Nat → D → Bool
  | _, .int _ => true
  | n + 1, .tuple xs => xs.all (deepI n)
  | _, _ => false
/-- how many unlike ones: at most 40 -/
def unlike : List D → List D → List D
  | seen, [] => seen
  | seen, x :: xs => if (seen.any fun z => PyData.eqv z x) = true then unlike seen xs else unlike (seen ++ [x]) xs
def dLenSet (x : D) : Option D := match seqOf x with
  | some ds => if (ds.all (fun d => (match d with | .tuple _ => true | _ => false) && deepI 3 d) && decide (ds.length ≤ 40)) = true then some (.int ((unlike [] ds).length : Nat)) else none
  | none => none

/-- a op1 b op2 c -/
def bChain (f g : D → D → Option Bool) (a b c : EX) : EB := fun r => rb (a r) fun x => rb (b r) fun y => rb (po (f x y)) fun k => if k = true then rb (c r) fun z => po (g y z) else ok false
def cIs (x y : D) : Option Bool := match y with
  | .bool b => cIsB b x
  | .none => cIsNone x
  | _ => none
def cIsNot (x y : D) : Option Bool := (cIs x y).map (!·)
def cIsi (T : String) (x : D) : Option Bool := some (isInst T x)

/-- the whole numbers of a list -/
def numsOf : List D → Option (List Int)
  | [] => some []
  | .int i :: xs => (numsOf xs).map (i :: ·)
  | _ :: _ => none
/-- the unlike ones -/
def addU (acc : List Int) (x : Int) : List Int := if acc.any (· == x) then acc else acc ++ [x]
def uniq (ns : List Int) : List Int := ns.foldl addU []
/-- len(set(..)) of a list of whole numbers -/
def dLenSetI : D → Option D
  | .list xs => match numsOf xs with
    | some ns => if ns.length ≤ 2000 then some (.int ((uniq ns).length : Nat)) else none
    | none => none
  | _ => none
def dMaxL : D → Option D
  | .list xs => match numsOf xs with
    | some (n :: ns) => some (.int (ns.foldl max n))
    | _ => none
  | _ => none
/-- max(.., default=d) -/
def dMaxD (d : Int) : D → Option D
  | .list xs => match numsOf xs with
    | some [] => some (.int d)
    | some (n :: ns) => some (.int (ns.foldl max n))
    | none => none
  | _ => none
/-- a call by names: as in the row's order, is the places in the def's order -/
def vCallK (f : List D → R D) (is : List Nat) (as : List EX) : EX := fun r => rb (vArgs as r) fun ds => f (is.map fun i => ds.getD i .none)
/-! ### what is walked -/
def iSeq (a : EX) : EL := fun r => rb (a r) fun x => po (seqOf x)
def rng (lo : Int) (n : Nat) : List D := (List.range n).map fun (k : Nat) => .int (lo + k)
def small62 (i : Int) : Bool := decide (-(2 ^ 62) ≤ i) && decide (i < 2 ^ 62)
def rng1 : D → Option (List D)
  | .int j => if small62 j = true then some (rng 0 j.toNat) else none
  | _ => none
def rng2 : D → D → Option (List D)
  | .int i, .int j => if (small62 i && small62 j) = true then some (rng i (j - i).toNat) else none
  | _, _ => none
/-- the list of a range, kept -/
def lRange1 : D → Option (List D)
  | .int j => if small62 j = true ∧ j.toNat ≤ lim then some (rng 0 j.toNat) else none
  | _ => none
def lRange2 : D → D → Option (List D)
  | .int i, .int j => if small62 i = true ∧ small62 j = true ∧ (j - i).toNat ≤ lim then some (rng i (j - i).toNat) else none
  | _, _ => none
/-- tuple(range(..)) -/
def dTupRg1 (x : D) : Option D := (lRange1 x).map .tuple
def dTupRg2 (x y : D) : Option D := (lRange2 x y).map .tuple
/-- the first place of a thing in a list that has it -/
def dIndexOf : D → D → Option D
  | .list ds, d => if (SeqAt.shaped (.list ds) && SeqAt.shaped d) = true then (ds.findIdx? fun z => PyData.eqv z d).map fun j => .int (j : Nat) else none
  | _, _ => none
def vIndex (a b : EX) : EX := fun r => rb (a r) fun x => match x with
  | .list ds => rb (b r) fun y => po (dIndexOf (.list ds) y)
  | _ => none
/-- range(0, j, c), c > 0 -/
def rng3 : D → D → D → Option (List D)
  | .int i, .int j, .int c => if i = 0 ∧ 0 ≤ j ∧ j ≤ 16777216 ∧ 1 ≤ c ∧ c ≤ 16777216 then some ((List.range ((j + c - 1) / c).toNat).map fun (k : Nat) => .int (i + (k : Nat) * c)) else none
  | _, _, _ => none
def iRange3 (a b c : EX) : EL := fun r => rb (vArgs [a, b, c] r) fun ds => match ds with
  | [x, y, z] => po (rng3 x y z)
  | _ => none
def iRange1 (a : EX) : EL := l1 rng1 a
def iRange2 (a b : EX) : EL := l2 rng2 a b
def enumL : Nat → List D → List D
  | _, [] => []
  | k, x :: xs => .tuple [.int k, x] :: enumL (k + 1) xs
def enum1 (x : D) : Option (List D) := (seqOf x).map (enumL 0)
def iEnumE (a : EX) : EL := l1 enum1 a
def zipL : List D → List D → List D
  | x :: xs, y :: ys => .tuple [x, y] :: zipL xs ys
  | _, _ => []
def zip2 (x y : D) : Option (List D) := match seqOf x, seqOf y with
  | some xs, some ys => some (zipL xs ys)
  | _, _ => none
def iZipE (a b : EX) : EL := l2 zip2 a b
def zipT2 : D → D → Option (List D)
  | .tuple xs, .tuple ys => some (zipL xs ys)
  | _, _ => none
def iZipTE (a b : EX) : EL := fun r => rb (vArgs [a, b] r) fun ds => match ds with
  | [x, y] => po (zipT2 x y)
  | _ => none
/-- the targets of a store: one name, or names in a row that a tuple goes to -/
inductive Tg where
  | one (i : Nat) | many (is : List Nat)
def putMany : List Nat → List D → Env → Option Env
  | [], [], r => some r
  | i :: is, x :: xs, r => putMany is xs (r.set i (.d x))
  | _, _, _ => none
def Tg.put : Tg → D → Env → Option Env
  | .one i, x, r => some (r.set i (.d x))
  | .many is, .tuple xs, r => putMany is xs r
  | .many _, _, _ => none
def Tg.slots : Tg → List Nat
  | .one i => [i]
  | .many is => is
def unSlots : List Nat → Env → Env
  | [], r => r
  | i :: is, r => (unSlots is r).set i .un

/-! ### comprehensions: the list of what is kept -/
def compL (g : Tg) (t : EB) (e : EX) (r : Env) : List D → R (List D)
  | [] => ok []
  | x :: xs => match g.put x r with
    | none => none
    | some r1 => rb (t r1) fun k => if k = true then rb (e r1) fun y => rb (compL g t e r xs) fun ys => ok (y :: ys) else compL g t e r xs
/-- [e for g in it if t]: no error within; at most lim items -/
def noEr {α : Type} (x : R α) : R α := match x with
  | some (.ok a) => ok a
  | _ => none
def lComp (it : EL) (g : Tg) (t : EB) (e : EX) : EL := fun r => rb (it r) fun xs => if xs.length ≤ lim then noEr (compL g t e (unSlots g.slots r) xs) else none
def bYes : EB := fun _ => ok true

/-- [e for g in it if t], e a new list each time -/
def compLN (g : Tg) (t : EB) (e : EL) (r : Env) : List D → R (List (List D))
  | [] => ok []
  | x :: xs => match g.put x r with
    | none => none
    | some r1 => rb (t r1) fun k => if k = true then rb (e r1) fun y => rb (compLN g t e r xs) fun ys => ok (y :: ys) else compLN g t e r xs
def lCompN (it : EL) (g : Tg) (t : EB) (e : EL) : Env → R (List (List D)) := fun r => rb (it r) fun xs => if xs.length ≤ lim then noEr (compLN g t e (unSlots g.slots r) xs) else none
/-! [e for .. in .. for .. in ..] -/
def compL2 (g : Tg) (it1 : EL) (g1 : Tg) (t1 : EB) (e : EX) (r : Env) : List D → R (List D)
  | [] => ok []
  | x :: xs => match g.put x r with
    | none => none
    | some r1 => rb (it1 r1) fun ys => rb (compL g1 t1 e (unSlots g1.slots r1) ys) fun zs => rb (compL2 g it1 g1 t1 e r xs) fun ws => ok (zs ++ ws)
def lComp2 (it : EL) (g : Tg) (it1 : EL) (g1 : Tg) (t1 : EB) (e : EX) : EL := fun r => rb (it r) fun xs => rb (noEr (compL2 g it1 g1 t1 e (unSlots (g.slots ++ g1.slots) r) xs)) fun ys => if ys.length ≤ lim then ok ys else none

/-! ### statements -/
def sNx : SX := fun r => some (.nx r)
def sBk : SX := fun r => some (.bk r)
def sCt : SX := fun r => some (.ct r)
/-- what follows a value -/
def so {α : Type} (x : R α) (r : Env) (f : α → Option Out) : Option Out := match x with
  | none => none
  | some (.error e) => some (.er e r)
  | some (.ok a) => f a
theorem so_ok {α : Type} (a : α) (r : Env) (f : α → Option Out) : so (ok a) r f = f a := (rfl)
theorem so_er {α : Type} (e : Err) (r : Env) (f : α → Option Out) : so (er e) r f = some (.er e r) := (rfl)
theorem so_none {α : Type} (r : Env) (f : α → Option Out) : so none r f = none := (rfl)
def sSeq (a b : SX) : SX := fun r => match a r with
  | some (.nx r1) => b r1
  | o => o
def sSet (i : Nat) (a : EX) : SX := fun r => so (a r) r fun x => some (.nx (r.set i (.d x)))
def sOwn (i : Nat) (a : EL) : SX := fun r => so (a r) r fun xs => some (.nx (r.set i (.own xs)))
def sPut (g : Tg) (a : EX) : SX := fun r => so (a r) r fun x => (g.put x r).map .nx
def frz (i : Nat) (r : Env) : Env := match r[i]? with
  | some (.own xs) => r.set i (.d (.list xs))
  | some (.nest xss) => r.set i (.d (.list (xss.map .list)))
  | _ => r
/-- two names of lists with the same entries, one by one the same objects; before it, no others are known to be so -/
def untag (r : Env) : Env := r.map fun s => match s with
  | .tg xs => .d (.list xs)
  | s => s
/-- i = list(j) -/
def sCopy (i j : Nat) : SX := fun r => match (untag r)[j]? with
  | some (.d (.list xs)) => if i < r.length ∧ i ≠ j then some (.nx (((untag r).set j (.tg xs)).set i (.tg xs))) else none
  | _ => none
/-- i != j of two such -/
def bCopyNe (i j : Nat) : EB := fun r => match r[i]?, r[j]? with
  | some (.tg _), some (.tg _) => ok false
  | _, _ => none
def sFreeze (i : Nat) : SX := fun r => some (.nx (frz i r))
def sRet (a : EX) : SX := fun r => so (a r) r fun x => some (.rt x)
/-- an own list is given away -/
def sRetO (i : Nat) : SX := fun r => match r[i]? with
  | some (.own xs) => some (.ro i r)
  | _ => none
def sExpr (a : EX) : SX := fun r => so (a r) r fun _ => some (.nx r)
def sIf (c : EB) (a b : SX) : SX := fun r => so (c r) r fun k => if k = true then a r else b r
def sApp (i : Nat) (a : EX) : SX := fun r => match r[i]? with
  | some (.own xs) => so (a r) r fun x => if xs.length < lim then some (.nx (r.set i (.own (xs ++ [x])))) else none
  | _ => none
/-- own[k] = x -/
def sSetIx (i : Nat) (k a : EX) : SX := fun r => match r[i]? with
  | some (.own xs) => so (a r) r fun x => so (k r) r fun j => match j with
    | .int j => match ixAt xs.length j with
      | some n => some (.nx (r.set i (.own (xs.set n x))))
      | none => none
    | _ => none
  | _ => none
def sNest (i : Nat) (a : Env → R (List (List D))) : SX := fun r => so (a r) r fun xss => some (.nx (r.set i (.nest xss)))
/-- own[k][m] = x -/
def sSetIx2 (i : Nat) (k m a : EX) : SX := fun r => match r[i]? with
  | some (.nest xss) => so (a r) r fun x => so (k r) r fun j => match j with
    | .int j => (match ixAt xss.length j with
      | some n => (match xss[n]? with
        | some xs => so (m r) r fun l => (match l with
          | .int l => (match ixAt xs.length l with
            | some q => some (.nx (r.set i (.nest (xss.set n (xs.set q x)))))
            | none => none)
          | _ => none)
        | none => none)
      | none => none)
    | _ => none
  | _ => none
/-- own[k].append(x) -/
def sApp2 (i : Nat) (k a : EX) : SX := fun r => match r[i]? with
  | some (.nest xss) => so (k r) r fun j => match j with
    | .int j => (match ixAt xss.length j with
      | some n => so (a r) r fun x => (match xss[n]? with
        | some xs => if xs.length < lim then some (.nx (r.set i (.nest (xss.set n (xs ++ [x]))))) else none
        | none => none)
      | none => none)
    | _ => none
  | _ => none
/-- a, b = x, y -/
def sPar (i j : Nat) (a b : EX) : SX := fun r => so (vArgs [a, b] r) r fun xs => match xs with
  | [x, y] => some (.nx ((r.set i (.d x)).set j (.d y)))
  | _ => none
def loopF (g : Tg) (b : SX) : List D → SX
  | [], r => some (.nx r)
  | x :: xs, r => match g.put x r with
    | none => none
    | some r1 => match b r1 with
      | some (.nx r2) => loopF g b xs r2
      | some (.ct r2) => loopF g b xs r2
      | some (.bk r2) => some (.nx r2)
      | o => o
def sFor (it : EL) (g : Tg) (b : SX) : SX := fun r => so (it r) r fun xs => loopF g b xs r
def loopW (c : EB) (b : SX) : Nat → SX
  | 0, _ => none
  | n + 1, r => so (c r) r fun k => if k = true then (match b r with
      | some (.nx r2) => loopW c b n r2
      | some (.ct r2) => loopW c b n r2
      | some (.bk r2) => some (.nx r2)
      | o => o) else some (.nx r)
/-- for .. in own: j = a -/
def sForSet (i : Nat) (g : Tg) (j : Nat) (a : EX) : SX := fun r => match r[i]? with
  | some (.own xs) => loopF g (sSet j a) xs r
  | _ => none
/-- fuel: more turns than any run takes -/
def sWhile (n : Nat) (c : EB) (b : SX) : SX := fun r => loopW c b n r

/-- raise C('..') -/
def sErr (c : String) : SX := fun r => some (.er ⟨c, none⟩ r)
/-- raise C(a), C's __init__ keeping a as f -/
def sErrF (c : String) (f : Str) (a : EX) : SX := fun r => so (a r) r fun x => match x with
  | .int i => if i.natAbs.log2 < 1920 then some (.er ⟨c, some (f, .int i)⟩ r) else none
  | _ => none
/-- which of the clauses takes e: tab tells of two classes whether the first is one of the second -/
def pickH (tab : List ((String × String) × Bool)) (e : Err) (r : Env) : List (String × SX) → Option Out
  | [] => some (.er e r)
  | (c, b) :: hs => match tab.lookup (e.cls, c) with
    | some true => b r
    | some false => pickH tab e r hs
    | none => none
def sTry (tab : List ((String × String) × Bool)) (a : SX) (hs : List (String × SX)) : SX := fun r => match a r with
  | some (.er e r1) => pickH tab e r1 hs
  | o => o

/-- try: a; except c as i: j = i.f -/
def sTryF (tab : List ((String × String) × Bool)) (a : SX) (c : String) (i j : Nat) (f : Str) : SX := fun r => match a r with
  | some (.er e r1) => (match tab.lookup (e.cls, c) with
    | some true => (match e.fld with
      | some (g, d) => if g = f ∧ e.cls = c ∧ i < r1.length then some (.nx (((r1.set i .un).set j (.d d)).set i .un)) else none
      | none => none)
    | some false => some (.er e r1)
    | none => none)
  | o => o

/-- a value that holds no other -/
def scal : D → Bool
  | .none => true
  | .bool _ => true
  | .int _ => true
  | .str _ => true
  | _ => false
/-- an expression that only reads an own list, and gives no part of it -/
def vFrz (i : Nat) (a : EX) : EX := fun r => rb (noEr (a (frz i r))) fun x => if scal x = true then ok x else none

/-! ### a def -/
def slots (n : Nat) (ds : List D) : Env := ds.map .d ++ List.replicate (n - ds.length) .un
/-- n names, p of them parameters -/
def runD (n p : Nat) (b : SX) (ds : List D) : R D := if ds.length = p then (match b (slots n ds) with
  | some (.rt x) => ok x
  | some (.nx _) => ok .none
  | some (.er e _) => er e
  | _ => none) else none
/-- i += a; i -= a, of whole numbers -/
def sAugI (i : Nat) (f : Int → Int → Int) (a : EX) : SX := fun r => match r[i]? with
  | some (.d (.int m)) => so (a r) r fun y => match y with
    | .int n => some (.nx (r.set i (.d (.int (f m n)))))
    | _ => none
  | _ => none
/-- whole numbers ascending, each once -/
def insU (x : Int) : List Int → List Int
  | [] => [x]
  | y :: ys => if x < y then x :: y :: ys else if x = y then y :: ys else y :: insU x ys
def setS : List Int → List Int
  | [] => []
  | x :: xs => insU x (setS xs)
/-- sorted(set(..)) -/
def lSortS : D → Option (List D)
  | .list xs => match numsOf xs with
    | some ns => if ns.length ≤ 2000 ∧ (setS ns).length < 64 then some ((setS ns).map PyData.int) else none
    | none => none
  | _ => none
/-! ### dicts whose keys are tuples of ints -/
def keyOf : D → Option (List Int)
  | .tuple xs => numsOf xs
  | _ => none
def getP (kvs : List (List Int × D)) (k : List Int) : Option D := (kvs.find? fun p => decide (p.1 = k)).map (·.2)
def putP (kvs : List (List Int × D)) (k : List Int) (d : D) : List (List Int × D) := if (kvs.any fun p => decide (p.1 = k)) = true then kvs.map (fun p => if p.1 = k then (p.1, d) else p) else kvs ++ [(k, d)]
/-- the first key is a tuple -/
def isTK : List (D × D) → Bool
  | (.tuple _, _) :: _ => true
  | _ => false
/-- list(d) -/
def lKeys : D → Option (List D)
  | .dict kvs => if isTK kvs = true then some (kvs.map (·.1)) else none
  | _ => none
def keyP (p : List Int × D) : D × D := (.tuple (p.1.map PyData.int), p.2)
/-- i = {a: b} -/
def sDct1 (i : Nat) (a b : EX) : SX := fun r => so (a r) r fun x => so (b r) r fun y => match keyOf x with
  | some k => some (.nx (r.set i (.dct [(k, y)])))
  | none => none
/-- i[a] -/
def vDget (i : Nat) (a : EX) : EX := fun r => match r[i]? with
  | some (.dct kvs) => rb (a r) fun x => match keyOf x with
    | some k => po (getP kvs k)
    | none => none
  | _ => none
/-- a in i; a not in i -/
def bDin (i : Nat) (a : EX) : EB := fun r => match r[i]? with
  | some (.dct kvs) => rb (a r) fun x => match keyOf x with
    | some k => ok (getP kvs k).isSome
    | none => none
  | _ => none
def bDnin (i : Nat) (a : EX) : EB := fun r => match r[i]? with
  | some (.dct kvs) => rb (a r) fun x => match keyOf x with
    | some k => ok (!(getP kvs k).isSome)
    | none => none
  | _ => none
/-- i[a] = b -/
def sDput (i : Nat) (a b : EX) : SX := fun r => match r[i]? with
  | some (.dct kvs) => so (b r) r fun y => so (a r) r fun x => match keyOf x with
    | some k => if kvs.length < lim then some (.nx (r.set i (.dct (putP kvs k y)))) else none
    | none => none
  | _ => none
/-- {a: b for .. in .. if ..} -/
def compD (g : Tg) (t : EB) (a b : EX) (r : Env) : List D → List (List Int × D) → R (List (List Int × D))
  | [], kvs => ok kvs
  | x :: xs, kvs => match g.put x r with
    | none => none
    | some r1 => rb (t r1) fun k => if k = true then rb (a r1) fun u => rb (b r1) fun v => (match keyOf u with
      | some k => compD g t a b r xs (putP kvs k v)
      | none => none) else compD g t a b r xs kvs
def vDComp (l : EL) (g : Tg) (t : EB) (a b : EX) : EX := fun r => rb (l r) fun xs => if xs.length ≤ lim then rb (noEr (compD g t a b (unSlots g.slots r) xs [])) fun kvs => ok (.dict (kvs.map keyP)) else none
/-- a def that gives a list of its own -/
def runO (n p : Nat) (b : SX) (ds : List D) : R (List D) := if ds.length = p then (match b (slots n ds) with
  | some (.ro i r) => (match r[i]? with
    | some (.own xs) => ok xs
    | _ => none)
  | some (.er e _) => er e
  | _ => none) else none
def lCall (f : List D → R (List D)) (as : List EX) : EL := fun r => rb (vArgs as r) f
end DL
/-! sorted(..) of integers, of pairs of integers. -/
namespace DL
open PySem
def lSortI : D → Option (List D)
  | .list ds => match numsOf ds with
    | some ns => some ((ns.mergeSort fun i j => decide (i ≤ j)).map PyData.int)
    | none => none
  | _ => none
def dSum : D → Option D
  | .list ds => match numsOf ds with
    | some ns => some (.int ns.sum)
    | none => none
  | _ => none
def prsOf : List D → Option (List (Int × Int))
  | [] => some []
  | .tuple [.int i, .int j] :: xs => (prsOf xs).map ((i, j) :: ·)
  | _ => none
def prD (p : Int × Int) : D := .tuple [.int p.1, .int p.2]
def prLe (p q : Int × Int) : Bool := decide (p.1 < q.1) || (decide (p.1 = q.1) && decide (p.2 ≤ q.2))
def lSortP : D → Option (List D)
  | .list ds => match prsOf ds with
    | some ps => some ((ps.mergeSort prLe).map prD)
    | none => none
  | _ => none
end DL
/-! The data layer: how data stand in the abstract heap, what an expression's reading is. -/
namespace DL
open PySem PySem.Spec PyProof.Rows L2

mutual
/-- v is the datum, all of it in the part F -/
def Rep (K : PySem.W.Frag) (F : Hp) : D → V → Prop
  | .none, v => v = .non
  | .bool b, v => v = .bl b
  | .int i, v => v = .int i
  | .str x, v => v = .str x
  | .list ds, v => ∃ a vs, v = .ref a ∧ SqL K F a vs ∧ RepL K F ds vs
  | .tuple ds, v => ∃ a vs, v = .ref a ∧ F a = some (.tup vs) ∧ RepL K F ds vs
  | .dict kvs, v => ∃ a, v = .ref a ∧ ((isTK kvs = false ∧ ∃ ks, F a = some (.dK ks)) ∨ ∃ ks, F a = some (.dT ks) ∧ RepKV K F kvs ks)
def RepL (K : PySem.W.Frag) (F : Hp) : List D → List V → Prop
  | [], vs => vs = []
  | d :: ds, vs => ∃ v r, vs = v :: r ∧ Rep K F d v ∧ RepL K F ds r
/-- a dict whose keys are tuples of ints -/
def RepKV (K : PySem.W.Frag) (F : Hp) : List (D × D) → List (List Key × V) → Prop
  | [], ks => ks = []
  | (x, d) :: kvs, ks => ∃ k v r, x = .tuple (List.map PyData.int k) ∧ ks = (List.map Sum.inl k, v) :: r ∧ Rep K F d v ∧ RepKV K F kvs r
end
/-- as Rep, but the list at the top may be one of the def's own -/
def RepX (K : PySem.W.Frag) (F H : Hp) : D → V → Prop
  | .list ds, v => ∃ a vs, v = .ref a ∧ SqL K H a vs ∧ RepL K F ds vs
  | d, v => Rep K F d v

theorem rdS {H H' : Hp} {a : Addr} {u : HO} (e : Same H H') (h : Rd H a u) : Rd H' a u := by
  rcases h with h | ⟨o, h⟩
  · exact .inl (e _ _ h)
  · exact .inr ⟨o, e _ _ h⟩
theorem seqT {K : PySem.W.Frag} {H H' : Hp} {a : Addr} {xs : List V} (e : Same H H') (h : SqT K H a xs) : SqT K H' a xs := by
  rcases h with (h | ⟨o, h⟩) | h
  · exact .inl (.inl (e _ _ h))
  · exact .inl (.inr ⟨o, e _ _ h⟩)
  · exact .inr h
theorem tupT {K : PySem.W.Frag} {H H' : Hp} {a : Addr} {xs : List V} (e : Same H H') (h : H a = some (.tup xs)) : SqT K H' a xs := .inl (.inl (e _ _ h))
mutual
theorem Rep.mono {K : PySem.W.Frag} {F F' : Hp} (e : Same F F') : ∀ {d : D} {v : V}, Rep K F d v → Rep K F' d v
  | .none, _, h => h
  | .bool _, _, h => h
  | .int _, _, h => h
  | .str _, _, h => h
  | .list ds, _, ⟨a, vs, q, h1, h2⟩ => ⟨a, vs, q, e.seq h1, RepL.mono e h2⟩
  | .tuple ds, _, ⟨a, vs, q, h1, h2⟩ => ⟨a, vs, q, e _ _ h1, RepL.mono e h2⟩
  | .dict _, _, ⟨a, q, .inl ⟨n, ks, h⟩⟩ => ⟨a, q, .inl ⟨n, ks, e _ _ h⟩⟩
  | .dict _, _, ⟨a, q, .inr ⟨ks, h, p⟩⟩ => ⟨a, q, .inr ⟨ks, e _ _ h, RepKV.mono e p⟩⟩
theorem RepL.mono {K : PySem.W.Frag} {F F' : Hp} (e : Same F F') : ∀ {ds : List D} {vs : List V}, RepL K F ds vs → RepL K F' ds vs
  | [], _, h => h
  | _ :: _, _, ⟨v, r, q, h1, h2⟩ => ⟨v, r, q, Rep.mono e h1, RepL.mono e h2⟩
theorem RepKV.mono {K : PySem.W.Frag} {F F' : Hp} (e : Same F F') : ∀ {kvs : List (D × D)} {ks : List (List Key × V)}, RepKV K F kvs ks → RepKV K F' kvs ks
  | [], _, h => h
  | (_, _) :: _, _, ⟨k, v, r, q1, q2, h1, h2⟩ => ⟨k, v, r, q1, q2, Rep.mono e h1, RepKV.mono e h2⟩
end
theorem RepL.length {K : PySem.W.Frag} {F : Hp} : ∀ {ds : List D} {vs : List V}, RepL K F ds vs → vs.length = ds.length
  | [], _, h => by
    have h' : _ = [] := h
    rw [h']; rfl
  | _ :: ds, _, ⟨v, r, q, h1, h2⟩ => by
    rw [q, List.length_cons, List.length_cons, RepL.length h2]
theorem RepL.get {K : PySem.W.Frag} {F : Hp} : ∀ {ds : List D} {vs : List V} {i : Nat} {d : D}, RepL K F ds vs → ds[i]? = some d → ∃ v, vs[i]? = some v ∧ Rep K F d v
  | [], _, _, _, _, h => by simp at h
  | x :: ds, _, 0, d, ⟨v, r, q, h1, h2⟩, h => by
    have e : x = d := by simpa using h
    subst e
    exact ⟨v, by rw [q]; rfl, h1⟩
  | _ :: ds, _, i + 1, d, ⟨v, r, q, h1, h2⟩, h => by
    obtain ⟨u, e1, e2⟩ := RepL.get (i := i) (d := d) h2 (by simpa using h)
    exact ⟨u, by rw [q]; simpa using e1, e2⟩
theorem RepL.at {K : PySem.W.Frag} {F : Hp} : ∀ {ds : List D} {vs : List V} {i : Nat} {v : V}, RepL K F ds vs → vs[i]? = some v → ∃ d, ds[i]? = some d ∧ Rep K F d v
  | [], _, _, _, q, h => by
    have q' : _ = [] := q
    rw [q'] at h; simp at h
  | x :: ds, _, 0, u, ⟨v, r, q, h1, h2⟩, h => by
    rw [q] at h
    have e : v = u := by simpa using h
    subst e
    exact ⟨x, rfl, h1⟩
  | _ :: ds, _, i + 1, u, ⟨v, r, q, h1, h2⟩, h => by
    rw [q] at h
    obtain ⟨d, e1, e2⟩ := RepL.at (i := i) (v := u) h2 (by simpa using h)
    exact ⟨d, by simpa using e1, e2⟩
theorem RepL.append {K : PySem.W.Frag} {F : Hp} : ∀ {ds es : List D} {vs us : List V}, RepL K F ds vs → RepL K F es us → RepL K F (ds ++ es) (vs ++ us)
  | [], _, _, _, q, h => by
    have q' : _ = [] := q
    rw [q']; exact h
  | x :: ds, es, _, us, ⟨v, r, q, h1, h2⟩, h => ⟨v, r ++ us, by rw [q]; rfl, h1, RepL.append h2 h⟩
theorem RepL.drop {K : PySem.W.Frag} {F : Hp} : ∀ (n : Nat) {ds : List D} {vs : List V}, RepL K F ds vs → RepL K F (ds.drop n) (vs.drop n)
  | 0, _, _, h => h
  | n + 1, [], _, q => by
    have q' : _ = [] := q
    rw [q']; rfl
  | n + 1, x :: ds, _, ⟨v, r, q, h1, h2⟩ => by rw [q]; exact RepL.drop n h2
theorem RepL.take {K : PySem.W.Frag} {F : Hp} : ∀ (n : Nat) {ds : List D} {vs : List V}, RepL K F ds vs → RepL K F (ds.take n) (vs.take n)
  | 0, _, _, h => rfl
  | n + 1, [], _, q => by
    have q' : _ = [] := q
    rw [q']; rfl
  | n + 1, x :: ds, _, ⟨v, r, q, h1, h2⟩ => ⟨v, r.take n, by rw [q]; rfl, h1, RepL.take n h2⟩
theorem RepL.set {K : PySem.W.Frag} {F : Hp} {d : D} {v : V} (rv : Rep K F d v) : ∀ (n : Nat) {ds : List D} {vs : List V}, RepL K F ds vs → RepL K F (ds.set n d) (vs.set n v)
  | _, [], _, q => by
    have q' : _ = [] := q
    rw [q']; rfl
  | 0, x :: ds, _, ⟨u, r, q, h1, h2⟩ => ⟨v, r, by rw [q]; rfl, rv, h2⟩
  | n + 1, x :: ds, _, ⟨u, r, q, h1, h2⟩ => ⟨u, r.set n v, by rw [q]; rfl, h1, RepL.set rv n h2⟩
theorem RepL.cut {K : PySem.W.Frag} {F : Hp} {ds : List D} {vs : List V} (h : RepL K F ds vs) (lo hi : Option Int) : RepL K F (cutD ds lo hi) (cutV vs lo hi) := by
  have e : ∀ n d i, cutAt n d i = HT.sIx n d i := fun n d i => by cases i <;> rfl
  unfold cutD cutV
  rw [e, e, h.length]
  exact RepL.take _ (RepL.drop _ h)

/-- what an expression may do: F grows, H grows, F stays within H, an old object is in F only if it was -/
structure Gr (F H F' H' : Hp) : Prop where
  f : Same F F'
  h : Same H H'
  i : Same F' H'
  n : ∀ a, H a ≠ none → F a = none → (∀ vs, H a ≠ some (.tup vs)) → F' a = none
theorem Gr.refl {F H : Hp} (e : Same F H) : Gr F H F H := ⟨Same.refl _, Same.refl _, e, fun _ _ q _ => q⟩
theorem Gr.trans {F H F1 H1 F2 H2 : Hp} (a : Gr F H F1 H1) (b : Gr F1 H1 F2 H2) : Gr F H F2 H2 :=
  ⟨a.f.trans b.f, a.h.trans b.h, b.i, fun x h q t => b.n x (fun z => h (a.h.free z)) (a.n x h q t) fun vs e => h (Classical.byContradiction fun c => by
    cases e1 : H x with
    | none => exact c e1
    | some o =>
      rw [a.h _ _ e1] at e
      cases e
      exact t vs e1)⟩
theorem Gr.nu {F H F' H' : Hp} (g : Gr F H F' H') {a : Addr} {u : HO} (h : H a = some u) (hu : ∀ vs, u ≠ .tup vs) (f : F a = none) : F' a = none := g.n a (by rw [h]; exact fun z => nomatch z) f fun vs z => hu vs (Option.some.inj (h.symm.trans z))
/-- a new object, put into F too -/
theorem Gr.new {F H : Hp} (e : Same F H) {p : Addr} (hp : H p = none) (o : HO) : Gr F H (upd F p o) (upd H p o) := by
  have fp : F p = none := e.free hp
  refine ⟨fun b x q => ?_, fun b x q => ?_, fun b x q => ?_, fun a h q => ?_⟩
  · rw [upd_ne (ne_of_none q fp)]; exact q
  · rw [upd_ne (ne_of_none q hp)]; exact q
  · by_cases c : b = p
    · subst c; rw [upd_same] at q ⊢; exact q
    · rw [upd_ne c] at q ⊢; exact e b x q
  · exact fun _ => by rw [upd_ne (fun z => h (by rw [z]; exact hp))]; exact q
/-- a new object that stays the def's own -/
theorem Gr.own {F H : Hp} (e : Same F H) {p : Addr} (hp : H p = none) (o : HO) : Gr F H F (upd H p o) := by
  refine ⟨Same.refl _, fun b x q => ?_, fun b x q => ?_, fun _ _ q _ => q⟩
  · rw [upd_ne (ne_of_none q hp)]; exact q
  · rw [upd_ne (ne_of_none (e b x q) hp)]; exact e b x q

theorem Rep.x {K : PySem.W.Frag} {F H : Hp} (e : Same F H) : ∀ {d : D} {v : V}, Rep K F d v → RepX K F H d v
  | .none, _, h => h
  | .bool _, _, h => h
  | .int _, _, h => h
  | .str _, _, h => h
  | .list ds, _, ⟨a, vs, q, h1, h2⟩ => ⟨a, vs, q, e.seq h1, h2⟩
  | .tuple ds, _, h => h
  | .dict _, _, h => h
theorem RepX.mono {K : PySem.W.Frag} {F H F' H' : Hp} (g : Gr F H F' H') : ∀ {d : D} {v : V}, RepX K F H d v → RepX K F' H' d v
  | .none, _, h => h
  | .bool _, _, h => h
  | .int _, _, h => h
  | .str _, _, h => h
  | .list ds, _, ⟨a, vs, q, h1, h2⟩ => ⟨a, vs, q, g.h.seq h1, h2.mono g.f⟩
  | .tuple ds, _, h => Rep.mono (K := K) (d := .tuple ds) g.f h
  | .dict kvs, _, h => Rep.mono (K := K) (d := .dict kvs) g.f h
/-- read with H alone -/
theorem RepX.rep {K : PySem.W.Frag} {F H : Hp} (e : Same F H) : ∀ {d : D} {v : V}, RepX K F H d v → Rep K H d v
  | .none, _, h => h
  | .bool _, _, h => h
  | .int _, _, h => h
  | .str _, _, h => h
  | .list ds, _, ⟨a, vs, q, h1, h2⟩ => ⟨a, vs, q, h1, h2.mono e⟩
  | .tuple ds, _, h => Rep.mono (K := K) (d := .tuple ds) e h
  | .dict kvs, _, h => Rep.mono (K := K) (d := .dict kvs) e h

/-! ### the slots -/
/-- rows of their own, vs the references to them -/
def NestOk (K : PySem.W.Frag) (B H F : Hp) : List (List D) → List V → Prop
  | [], vs => vs = []
  | xs :: xss, vs => ∃ b us r, vs = .ref b :: r ∧ H b = some (.lst us) ∧ F b = none ∧ B b = none ∧ RepL K F xs us ∧ V.ref b ∉ r ∧ NestOk K B H F xss r
/-- an own dict whose keys are tuples of ints -/
def RepP (K : PySem.W.Frag) (F : Hp) : List (List Int × D) → List (List Key × V) → Prop
  | [], ks => ks = []
  | (k, d) :: kvs, ks => ∃ v r, ks = (k.map Sum.inl, v) :: r ∧ Rep K F d v ∧ RepP K F kvs r
theorem RepP.mono {K : PySem.W.Frag} {F F' : Hp} (e : Same F F') : ∀ {kvs : List (List Int × D)} {ks : List (List Key × V)}, RepP K F kvs ks → RepP K F' kvs ks
  | [], _, h => h
  | (_, _) :: _, _, ⟨v, r, q, h1, h2⟩ => ⟨v, r, q, h1.mono e, RepP.mono e h2⟩
def SlotOk (K : PySem.W.Frag) (B H F : Hp) : Slot → Option V → Prop
  | .un, _ => True
  | .d x, y => ∃ v, y = some v ∧ Rep K F x v
  | .own xs, y => ∃ a vs, y = some (.ref a) ∧ H a = some (.lst vs) ∧ F a = none ∧ B a = none ∧ RepL K F xs vs
  | .tg xs, y => ∃ v, y = some v ∧ Rep K F (.list xs) v
  | .nest xss, y => ∃ a vs, y = some (.ref a) ∧ H a = some (.lst vs) ∧ F a = none ∧ B a = none ∧ V.ref a ∉ vs ∧ NestOk K B H F xss vs
  | .dct kvs, y => ∃ a ks, y = some (.ref a) ∧ H a = some (.dT ks) ∧ F a = none ∧ B a = none ∧ RepP K F kvs ks
/-- what a slot's own lists are -/
def Foot (H : Hp) : Slot → Option V → Addr → Prop
  | .own _, y, a => y = some (.ref a)
  | .dct _, y, a => y = some (.ref a)
  | .nest _, y, a => ∃ p vs, y = some (.ref p) ∧ H p = some (.lst vs) ∧ (a = p ∨ V.ref a ∈ vs)
  | _, _, _ => False
theorem nest_foot {K : PySem.W.Frag} {B H F : Hp} : ∀ {xss : List (List D)} {vs : List V} {a : Addr}, NestOk K B H F xss vs → V.ref a ∈ vs → ∃ us, H a = some (.lst us) ∧ F a = none ∧ B a = none
  | [], vs, a, h, m => by
    have h' : vs = [] := h
    rw [h'] at m; cases m
  | xs :: xss, vs, a, ⟨b, us, r, e, h1, h2, h3, _, _, h6⟩, m => by
    rw [e] at m
    rcases List.mem_cons.mp m with q | q
    · cases q
      exact ⟨us, h1, h2, h3⟩
    · exact nest_foot h6 q
theorem foot_ok {K : PySem.W.Frag} {B H F : Hp} {s : Slot} {y : Option V} {a : Addr} (h : SlotOk K B H F s y) (f : Foot H s y a) : ∃ u, H a = some u ∧ F a = none ∧ B a = none ∧ ∀ vs, u ≠ .tup vs := by
  cases s with
  | un => exact False.elim f
  | d x => exact False.elim f
  | tg x => exact False.elim f
  | own xs =>
    obtain ⟨b, vs, e, h1, h2, h3, _⟩ := h
    have f' : y = some (.ref a) := f
    rw [e] at f'
    cases f'
    exact ⟨_, h1, h2, h3, fun _ z => nomatch z⟩
  | dct kvs =>
    obtain ⟨b, ks, e, h1, h2, h3, _⟩ := h
    have f' : y = some (.ref a) := f
    rw [e] at f'
    cases f'
    exact ⟨_, h1, h2, h3, fun _ z => nomatch z⟩
  | nest xss =>
    obtain ⟨b, vs, e, h1, h2, h3, _, h5⟩ := h
    obtain ⟨p, ws, e1, e2, e3⟩ := f
    rw [e] at e1
    cases e1
    rw [h1] at e2
    cases e2
    rcases e3 with rfl | m
    · exact ⟨_, h1, h2, h3, fun _ z => nomatch z⟩
    · obtain ⟨us, z1, z2, z3⟩ := nest_foot h5 m
      exact ⟨_, z1, z2, z3, fun _ z => nomatch z⟩
theorem nest_frame {K : PySem.W.Frag} {B H F H' F' : Hp} (e : Same F F') : ∀ {xss : List (List D)} {vs : List V}, (∀ a, V.ref a ∈ vs → H' a = H a ∧ F' a = none) → NestOk K B H F xss vs → NestOk K B H' F' xss vs
  | [], _, _, h => h
  | xs :: xss, vs, k, ⟨b, us, r, q, h1, h2, h3, h4, h5, h6⟩ => ⟨b, us, r, q, by rw [(k b (by rw [q]; exact List.mem_cons_self)).1]; exact h1, (k b (by rw [q]; exact List.mem_cons_self)).2, h3, h4.mono e, h5, nest_frame e (fun a m => k a (by rw [q]; exact List.mem_cons_of_mem _ m)) h6⟩
/-- a slot stays what it is where its own lists are left alone -/
theorem SlotOk.frame {K : PySem.W.Frag} {B H F H' F' : Hp} (e : Same F F') : ∀ {s : Slot} {y : Option V}, (∀ a, Foot H s y a → H' a = H a ∧ F' a = none) → SlotOk K B H F s y → SlotOk K B H' F' s y
  | .un, _, _, h => trivial
  | .d x, _, _, ⟨v, q, h⟩ => ⟨v, q, h.mono e⟩
  | .tg xs, _, _, ⟨v, q, h⟩ => ⟨v, q, h.mono e⟩
  | .own xs, _, k, ⟨a, vs, q, h1, h2, h3, h4⟩ => ⟨a, vs, q, by rw [(k a q).1]; exact h1, (k a q).2, h3, h4.mono e⟩
  | .nest xss, _, k, ⟨a, vs, q, h1, h2, h3, h4, h5⟩ => ⟨a, vs, q, by rw [(k a ⟨a, vs, q, h1, .inl rfl⟩).1]; exact h1, (k a ⟨a, vs, q, h1, .inl rfl⟩).2, h3, h4, nest_frame e (fun b m => k b ⟨a, vs, q, h1, .inr m⟩) h5⟩
  | .dct kvs, _, k, ⟨a, ks, q, h1, h2, h3, h4⟩ => ⟨a, ks, q, by rw [(k a q).1]; exact h1, (k a q).2, h3, h4.mono e⟩
theorem Foot.back {K : PySem.W.Frag} {B H F H' : Hp} {s : Slot} {y : Option V} {b : Addr} (h : SlotOk K B H F s y) (k : ∀ a, Foot H s y a → H' a = H a) (f : Foot H' s y b) : Foot H s y b := by
  cases s with
  | nest xss =>
    obtain ⟨a, vs, e, h1, _⟩ := h
    obtain ⟨p, ws, e1, e2, e3⟩ := f
    rw [e] at e1
    cases e1
    rw [k _ ⟨_, _, e, h1, .inl rfl⟩] at e2
    exact ⟨_, _, e, e2, e3⟩
  | _ => exact f
/-- what a datum can be as a value -/
def okV : V → Prop
  | .byt _ => False
  | .flt _ => False
  | .ty _ => False
  | _ => True
/-- the lists with the same entries -/
def TagOk (K : PySem.W.Frag) (r : Env) (σ : L2.St) (F : Hp) : Prop := ∃ us : List V, (∀ u ∈ us, okV u) ∧ ∀ (i : Nat) (xs : List D), r[i]? = some (.tg xs) → ∃ a, σ[i]? = some (some (.ref a)) ∧ SqL K F a us
/-- the names of a def: F0, B the part and the heap at the entry -/
structure SR (K : PySem.W.Frag) (F0 B : Hp) (r : Env) (σ : L2.St) (H F : Hp) : Prop where
  gr : Gr F0 B F H
  len : r.length = σ.length
  ok : ∀ (i : Nat) (s : Slot), r[i]? = some s → ∃ y, σ[i]? = some y ∧ SlotOk K B H F s y
  sep : ∀ (i j : Nat) (s t : Slot) (y z : Option V) (a : Addr), i ≠ j → r[i]? = some s → r[j]? = some t → σ[i]? = some y → σ[j]? = some z → Foot H s y a → Foot H t z a → False
  tag : TagOk K r σ F
theorem TagOk.grow {K : PySem.W.Frag} {r : Env} {σ : L2.St} {F F' : Hp} (e : Same F F') : TagOk K r σ F → TagOk K r σ F'
  | ⟨us, hu, h⟩ => ⟨us, hu, fun i xs q => let ⟨a, h1, h2⟩ := h i xs q; ⟨a, h1, e.seq h2⟩⟩
theorem Gr.foot {K : PySem.W.Frag} {B H F H' F' : Hp} (g : Gr F H F' H') {s : Slot} {y : Option V} (h : SlotOk K B H F s y) : ∀ a, Foot H s y a → H' a = H a ∧ F' a = none := fun a f => by
  obtain ⟨us, h1, h2, _, h4⟩ := foot_ok h f
  exact ⟨by rw [g.h _ _ h1, h1], g.n a (by rw [h1]; simp) h2 fun vs z => h4 vs (Option.some.inj (h1.symm.trans z))⟩
theorem SlotOk.grow {K : PySem.W.Frag} {B H F H' F' : Hp} (g : Gr F H F' H') {s : Slot} {y : Option V} (h : SlotOk K B H F s y) : SlotOk K B H' F' s y := h.frame g.f (g.foot h)
theorem SR.slot {K : PySem.W.Frag} {F0 B : Hp} {r : Env} {σ : L2.St} {H F : Hp} (S : SR K F0 B r σ H F) {i : Nat} {s : Slot} {y : Option V} (hs : r[i]? = some s) (hy : σ[i]? = some y) : SlotOk K B H F s y := by
  obtain ⟨z, h1, h2⟩ := S.ok i s hs
  rw [hy] at h1
  cases h1
  exact h2
theorem SR.grow {K : PySem.W.Frag} {F0 B : Hp} {r : Env} {σ : L2.St} {H F H' F' : Hp} (S : SR K F0 B r σ H F) (g : Gr F H F' H') : SR K F0 B r σ H' F' :=
  ⟨S.gr.trans g, S.len, fun i s e => let ⟨y, h1, h2⟩ := S.ok i s e; ⟨y, h1, h2.grow g⟩,
    fun i j s t y z a hij e1 e2 e3 e4 f1 f2 => S.sep i j s t y z a hij e1 e2 e3 e4 (f1.back (S.slot e1 e3) fun b f => (g.foot (S.slot e1 e3) b f).1) (f2.back (S.slot e2 e4) fun b f => (g.foot (S.slot e2 e4) b f).1), S.tag.grow g.f⟩
theorem SR.sub {K : PySem.W.Frag} {F0 B : Hp} {r : Env} {σ : L2.St} {H F : Hp} (S : SR K F0 B r σ H F) : Same F H := S.gr.i
theorem set_get {α : Type} {l : List α} {i j : Nat} {x y : α} (h : (l.set i x)[j]? = some y) : (j = i ∧ y = x) ∨ (j ≠ i ∧ l[j]? = some y) := by
  rw [List.getElem?_set] at h
  by_cases c : i = j
  · rw [if_pos c] at h
    split at h
    · exact .inl ⟨c.symm, (Option.some.inj h).symm⟩
    · cases h
  · rw [if_neg c] at h
    exact .inr ⟨fun z => c z.symm, h⟩
theorem TagOk.set {K : PySem.W.Frag} {r : Env} {σ : L2.St} {F : Hp} {i : Nat} {s : Slot} {y : Option V} (hs : ∀ xs, s ≠ .tg xs) : TagOk K r σ F → TagOk K (r.set i s) (σ.set i y) F
  | ⟨us, hu, h⟩ => ⟨us, hu, fun j xs q => by
    rcases set_get q with ⟨_, z⟩ | ⟨c, q⟩
    · exact absurd z.symm (hs xs)
    · rw [List.getElem?_set_ne (Ne.symm c)]
      exact h j xs q⟩
theorem TagOk.setE {K : PySem.W.Frag} {r : Env} {σ : L2.St} {F : Hp} {i : Nat} {s : Slot} (hs : ∀ xs, s ≠ .tg xs) : TagOk K r σ F → TagOk K (r.set i s) σ F
  | ⟨us, hu, h⟩ => ⟨us, hu, fun j xs q => by
    rcases set_get q with ⟨_, z⟩ | ⟨c, q⟩
    · exact absurd z.symm (hs xs)
    · exact h j xs q⟩
theorem get_lt {α : Type} {l : List α} {i : Nat} {y : α} (h : l[i]? = some y) : i < l.length := (List.getElem?_eq_some_iff.mp h).1
/-- a slot gets another value, with new lists at most -/
theorem SR.put {K : PySem.W.Frag} {F0 B : Hp} {r : Env} {σ : L2.St} {H F H1 F1 : Hp} (S : SR K F0 B r σ H F) (g : Gr F H F1 H1) {i : Nat} {s : Slot} {y : Option V} (h : SlotOk K B H1 F1 s y) (hf : ∀ a, Foot H1 s y a → H a = none) (hs : ∀ xs, s ≠ .tg xs) : SR K F0 B (r.set i s) (σ.set i y) H1 F1 := by
  have S1 := S.grow g
  have nod : ∀ (j : Nat) (t : Slot) (z : Option V) (a : Addr), r[j]? = some t → σ[j]? = some z → Foot H1 s y a → Foot H1 t z a → False := fun j t z a e1 e2 f1 f2 => by
    obtain ⟨us, h1, _⟩ := foot_ok (S.slot e1 e2) (f2.back (S.slot e1 e2) fun b f => (g.foot (S.slot e1 e2) b f).1)
    rw [hf a f1] at h1
    cases h1
  refine ⟨S1.gr, by rw [List.length_set, List.length_set]; exact S.len, fun j t e => ?_, fun j k t u z w a hjk e1 e2 e3 e4 f1 f2 => ?_, S1.tag.set hs⟩
  · rcases set_get e with ⟨rfl, rfl⟩ | ⟨c, e⟩
    · have hl := get_lt e
      rw [List.length_set, S.len] at hl
      exact ⟨y, by rw [List.getElem?_set_self hl], h⟩
    · obtain ⟨z, h1, h2⟩ := S1.ok j t e
      exact ⟨z, by rw [List.getElem?_set_ne (Ne.symm c)]; exact h1, h2⟩
  · rcases set_get e1 with ⟨c1, q1⟩ | ⟨c1, g1⟩
    · rcases set_get e3 with ⟨_, q3⟩ | ⟨c, _⟩
      · rcases set_get e2 with ⟨c2, _⟩ | ⟨c2, g2⟩
        · exact hjk (c1.trans c2.symm)
        · rw [List.getElem?_set_ne (Ne.symm c2)] at e4
          exact nod k u w a g2 e4 (by rw [← q1, ← q3]; exact f1) f2
      · exact c c1
    · rw [List.getElem?_set_ne (Ne.symm c1)] at e3
      rcases set_get e2 with ⟨c2, q2⟩ | ⟨c2, g2⟩
      · rcases set_get e4 with ⟨_, q4⟩ | ⟨c, _⟩
        · exact nod j t z a g1 e3 (by rw [← q2, ← q4]; exact f2) f1
        · exact c c2
      · rw [List.getElem?_set_ne (Ne.symm c2)] at e4
        exact S1.sep j k t u z w a hjk g1 g2 e3 e4 f1 f2
/-- a datum is stored -/
theorem SR.set {K : PySem.W.Frag} {F0 B : Hp} {r : Env} {σ : L2.St} {H F : Hp} (S : SR K F0 B r σ H F) {i : Nat} {x : D} {v : V} (h : Rep K F x v) : SR K F0 B (r.set i (.d x)) (σ.set i (some v)) H F :=
  S.put (Gr.refl S.gr.i) (s := .d x) ⟨v, rfl, h⟩ (fun _ f => False.elim f) fun _ z => nomatch z
/-- a slot is forgotten -/
theorem SR.unset {K : PySem.W.Frag} {F0 B : Hp} {r : Env} {σ : L2.St} {H F : Hp} (S : SR K F0 B r σ H F) {i : Nat} {y0 : Option V} : SR K F0 B (r.set i .un) (σ.set i y0) H F :=
  S.put (Gr.refl S.gr.i) (s := .un) trivial (fun _ f => False.elim f) fun _ z => nomatch z
/-- a new own list is stored -/
theorem SR.setOwn {K : PySem.W.Frag} {F0 B : Hp} {r : Env} {σ : L2.St} {H F : Hp} (S : SR K F0 B r σ H F) {i : Nat} {p : Addr} {xs : List D} {vs : List V} (hp : H p = none) (h : RepL K F xs vs) :
    SR K F0 B (r.set i (.own xs)) (σ.set i (some (.ref p))) (upd H p (.lst vs)) F :=
  S.put (Gr.own S.gr.i hp (.lst vs)) (s := .own xs) ⟨p, vs, rfl, upd_same, S.gr.i.free hp, S.gr.h.free hp, h⟩ (fun a f => by
    have f' : some (V.ref p) = some (V.ref a) := f
    cases f'
    exact hp) fun _ z => nomatch z
/-- own lists become a datum -/
theorem SR.frzS {K : PySem.W.Frag} {F0 B : Hp} {r : Env} {σ : L2.St} {H F F' : Hp} (S : SR K F0 B r σ H F) {i : Nat} {s : Slot} {y : Option V} {x : D} (hi : r[i]? = some s) (hy : σ[i]? = some y) (sf : Same F F') (si : Same F' H) (hn : ∀ a, F' a ≠ none → F a ≠ none ∨ Foot H s y a) (h : SlotOk K B H F' (.d x) y) :
    SR K F0 B (r.set i (.d x)) σ H F' := by
  refine ⟨⟨S.gr.f.trans sf, S.gr.h, si, fun b hb q t => Classical.byContradiction fun c => ?_⟩, by rw [List.length_set]; exact S.len, fun j t e => ?_, fun j k t u z w a hjk e1 e2 e3 e4 f1 f2 => ?_, (S.tag.grow sf).setE fun _ z => nomatch z⟩
  · rcases hn b c with d | d
    · exact d (S.gr.n b hb q t)
    · obtain ⟨_, _, _, h3, _⟩ := foot_ok (S.slot hi hy) d
      exact hb h3
  · rcases set_get e with ⟨rfl, rfl⟩ | ⟨c, e⟩
    · exact ⟨y, hy, h⟩
    · obtain ⟨z, g1, g2⟩ := S.ok j t e
      refine ⟨z, g1, g2.frame sf fun a f => ⟨rfl, Classical.byContradiction fun d => ?_⟩⟩
      rcases hn a d with d | d
      · obtain ⟨_, _, h2, _⟩ := foot_ok g2 f
        exact d h2
      · exact S.sep j i t s z y a c e hi g1 hy f d
  · rcases set_get e1 with ⟨_, q1⟩ | ⟨c1, g1⟩
    · rw [q1] at f1; exact f1
    rcases set_get e2 with ⟨_, q2⟩ | ⟨c2, g2⟩
    · rw [q2] at f2; exact f2
    exact S.sep j k t u z w a hjk g1 g2 e3 e4 f1 f2
/-- an own list becomes a datum -/
theorem SR.freeze {K : PySem.W.Frag} {F0 B : Hp} {r : Env} {σ : L2.St} {H F : Hp} (S : SR K F0 B r σ H F) {i : Nat} {xs : List D} (hi : r[i]? = some (.own xs)) :
    ∃ F', Same F F' ∧ SR K F0 B (r.set i (.d (.list xs))) σ H F' := by
  obtain ⟨y, h1, a, vs, rfl, h3, h4, h5, h6⟩ := S.ok i _ hi
  have sf : Same F (upd F a (.lst vs)) := fun b x q => by rw [upd_ne (ne_of_none q h4)]; exact q
  refine ⟨upd F a (.lst vs), sf, S.frzS hi h1 sf (fun b x q => ?_) (fun b q => ?_) ⟨.ref a, rfl, a, vs, rfl, .inl (.inl upd_same), h6.mono sf⟩⟩
  · by_cases c : b = a
    · subst c; rw [upd_same] at q; rw [h3]; exact q
    · rw [upd_ne c] at q; exact S.gr.i b x q
  · by_cases c : b = a
    · subst c; exact .inr rfl
    · rw [upd_ne c] at q; exact .inl q
/-- the own lists of a slot are changed -/
theorem SR.wr {K : PySem.W.Frag} {F0 B : Hp} {r : Env} {σ : L2.St} {H F H' : Hp} (S : SR K F0 B r σ H F) {i : Nat} {s s' : Slot} {y : Option V} (hi : r[i]? = some s) (hy : σ[i]? = some y) (hk : ∀ b, ¬ Foot H s y b → H' b = H b) (h : SlotOk K B H' F s' y) (hf : ∀ b, Foot H' s' y b → Foot H s y b) (hs : ∀ xs, s' ≠ .tg xs) :
    SR K F0 B (r.set i s') σ H' F := by
  have ho := S.slot hi hy
  have fr : ∀ {j : Nat} {t : Slot} {z : Option V}, j ≠ i → r[j]? = some t → σ[j]? = some z → ∀ a, Foot H t z a → H' a = H a := fun c e1 e2 a f => hk a fun d => S.sep _ _ _ _ _ _ a c e1 hi e2 hy f d
  refine ⟨⟨S.gr.f, fun b x q => ?_, fun b x q => ?_, S.gr.n⟩, by rw [List.length_set]; exact S.len, fun j t e => ?_, fun j k t u z w a hjk e1 e2 e3 e4 f1 f2 => ?_, S.tag.setE hs⟩
  · rw [hk b fun d => ?_]
    · exact S.gr.h b x q
    · obtain ⟨_, _, _, h3, _⟩ := foot_ok ho d
      rw [h3] at q; cases q
  · rw [hk b fun d => ?_]
    · exact S.gr.i b x q
    · obtain ⟨_, _, h3, _⟩ := foot_ok ho d
      rw [h3] at q; cases q
  · rcases set_get e with ⟨rfl, rfl⟩ | ⟨c, e⟩
    · exact ⟨y, hy, h⟩
    · obtain ⟨z, g1, g2⟩ := S.ok j t e
      exact ⟨z, g1, g2.frame (Same.refl _) fun a f => ⟨fr c e g1 a f, by obtain ⟨_, _, h3, _⟩ := foot_ok g2 f; exact h3⟩⟩
  · have b1 : ∃ t', r[j]? = some t' ∧ Foot H t' z a := by
      rcases set_get e1 with ⟨c, q1⟩ | ⟨c, g1⟩
      · rw [c] at e3 ⊢
        rw [hy] at e3
        cases e3
        rw [q1] at f1
        exact ⟨s, hi, hf a f1⟩
      · exact ⟨t, g1, f1.back (S.slot g1 e3) (fr c g1 e3)⟩
    have b2 : ∃ u', r[k]? = some u' ∧ Foot H u' w a := by
      rcases set_get e2 with ⟨c, q2⟩ | ⟨c, g2⟩
      · rw [c] at e4 ⊢
        rw [hy] at e4
        cases e4
        rw [q2] at f2
        exact ⟨s, hi, hf a f2⟩
      · exact ⟨u, g2, f2.back (S.slot g2 e4) (fr c g2 e4)⟩
    obtain ⟨t', e5, f5⟩ := b1
    obtain ⟨u', e6, f6⟩ := b2
    exact S.sep j k t' u' z w a hjk e5 e6 e3 e4 f5 f6
/-- an own list is changed -/
theorem SR.write {K : PySem.W.Frag} {F0 B : Hp} {r : Env} {σ : L2.St} {H F : Hp} (S : SR K F0 B r σ H F) {i : Nat} {xs ys : List D} {a : Addr} {us : List V} (hi : r[i]? = some (.own xs)) (ha : σ[i]? = some (some (.ref a))) (h : RepL K F ys us) :
    SR K F0 B (r.set i (.own ys)) σ (upd H a (.lst us)) F := by
  obtain ⟨a', vs, e, h3, h4, h5, h6⟩ := S.slot hi ha
  cases e
  exact S.wr hi ha (fun b c => upd_ne fun z => c (by subst z; rfl)) ⟨a, us, rfl, upd_same, h4, h5, h⟩ (fun b f => f) fun _ z => nomatch z
/-- new lists of new lists are stored -/
theorem SR.setNest {K : PySem.W.Frag} {F0 B : Hp} {r : Env} {σ : L2.St} {H F H1 F1 : Hp} (S : SR K F0 B r σ H F) (g : Gr F H F1 H1) {i : Nat} {p : Addr} {xss : List (List D)} {vs : List V} (hp : H p = none) (h1 : H1 p = some (.lst vs)) (hv : V.ref p ∉ vs) (hn : ∀ a, V.ref a ∈ vs → H a = none) (f1 : F1 p = none) (h : NestOk K B H1 F1 xss vs) :
    SR K F0 B (r.set i (.nest xss)) (σ.set i (some (.ref p))) H1 F1 :=
  S.put g (s := .nest xss) ⟨p, vs, rfl, h1, f1, S.gr.h.free hp, hv, h⟩ (fun a f => by
    obtain ⟨q, ws, e1, e2, e3⟩ := f
    cases e1
    rw [h1] at e2
    cases e2
    rcases e3 with rfl | m
    · exact hp
    · exact hn a m) fun _ z => nomatch z
theorem nest_rep {K : PySem.W.Frag} {B H F : Hp} : ∀ {xss : List (List D)} {vs : List V}, NestOk K B H F xss vs → ∃ F', Same F F' ∧ (Same F H → Same F' H) ∧ (∀ a, F' a ≠ none → F a ≠ none ∨ V.ref a ∈ vs) ∧ RepL K F' (xss.map PyData.list) vs
  | [], vs, h => ⟨F, Same.refl _, fun e => e, fun _ q => .inl q, h⟩
  | xs :: xss, vs, ⟨b, us, r, q, h1, h2, h3, h4, h5, h6⟩ => by
    obtain ⟨F', e1, e2, e3, e4⟩ := nest_rep h6
    have fb : F' b = none := Classical.byContradiction fun c => by
      rcases e3 b c with d | d
      · exact d h2
      · exact h5 d
    have sf : Same F' (upd F' b (.lst us)) := fun a x q => by rw [upd_ne (ne_of_none q fb)]; exact q
    refine ⟨upd F' b (.lst us), e1.trans sf, fun e a x q => ?_, fun a c => ?_, _, r, q, ⟨b, us, rfl, .inl (.inl upd_same), (h4.mono e1).mono sf⟩, e4.mono sf⟩
    · by_cases c : a = b
      · subst c; rw [upd_same] at q; rw [h1]; exact q
      · rw [upd_ne c] at q; exact e2 e a x q
    · by_cases d : a = b
      · subst d; exact .inr (by rw [q]; exact List.mem_cons_self)
      · rw [upd_ne d] at c
        rcases e3 a c with d | d
        · exact .inl d
        · exact .inr (by rw [q]; exact List.mem_cons_of_mem _ d)
theorem SR.freezeN {K : PySem.W.Frag} {F0 B : Hp} {r : Env} {σ : L2.St} {H F : Hp} (S : SR K F0 B r σ H F) {i : Nat} {xss : List (List D)} (hi : r[i]? = some (.nest xss)) :
    ∃ F', Same F F' ∧ SR K F0 B (r.set i (.d (.list (xss.map PyData.list)))) σ H F' := by
  obtain ⟨y, h1, a, vs, rfl, h3, h4, h5, h6, h7⟩ := S.ok i _ hi
  obtain ⟨F', e1, e2, e3, e4⟩ := nest_rep h7
  have fa : F' a = none := Classical.byContradiction fun c => by
    rcases e3 a c with d | d
    · exact d h4
    · exact h6 d
  have sf : Same F' (upd F' a (.lst vs)) := fun b x q => by rw [upd_ne (ne_of_none q fa)]; exact q
  refine ⟨upd F' a (.lst vs), e1.trans sf, S.frzS hi h1 (e1.trans sf) (fun b x q => ?_) (fun b q => ?_) ⟨.ref a, rfl, a, vs, rfl, .inl (.inl upd_same), e4.mono sf⟩⟩
  · by_cases c : b = a
    · subst c; rw [upd_same] at q; rw [h3]; exact q
    · rw [upd_ne c] at q; exact e2 S.gr.i b x q
  · by_cases c : b = a
    · subst c; exact .inr ⟨b, vs, rfl, h3, .inl rfl⟩
    · rw [upd_ne c] at q
      rcases e3 b q with d | d
      · exact .inl d
      · exact .inr ⟨a, vs, rfl, h3, .inr d⟩
theorem nest_at {K : PySem.W.Frag} {B H F : Hp} : ∀ {xss : List (List D)} {vs : List V} {n : Nat} {xs : List D}, NestOk K B H F xss vs → xss[n]? = some xs → ∃ b us, vs[n]? = some (.ref b) ∧ H b = some (.lst us) ∧ RepL K F xs us
  | [], _, _, _, _, e => by cases e
  | xs :: xss, vs, 0, ys, ⟨b, us, r, q, h1, _, _, h4, _⟩, e => by
    have e' : xs = ys := by simpa using e
    subst e'
    exact ⟨b, us, by rw [q]; rfl, h1, h4⟩
  | _ :: xss, vs, n + 1, ys, ⟨b, us, r, q, _, _, _, _, _, h6⟩, e => by
    obtain ⟨b', us', e1, e2⟩ := nest_at (n := n) h6 (by simpa using e)
    exact ⟨b', us', by rw [q]; simpa using e1, e2⟩
theorem nest_set {K : PySem.W.Frag} {B H F : Hp} {ys : List D} {us : List V} (h : RepL K F ys us) : ∀ {xss : List (List D)} {vs : List V} {n : Nat} {b : Addr}, NestOk K B H F xss vs → vs[n]? = some (.ref b) → NestOk K B (upd H b (.lst us)) F (xss.set n ys) vs
  | [], vs, n, b, q, e => by
    have q' : vs = [] := q
    rw [q'] at e; cases e
  | xs :: xss, vs, 0, b, ⟨c, ws, r, q, h1, h2, h3, h4, h5, h6⟩, e => by
    rw [q] at e
    have e' : c = b := by simpa using e
    subst e'
    exact ⟨c, us, r, q, upd_same, h2, h3, h, h5, nest_frame (Same.refl _) (fun a m => ⟨upd_ne fun z => h5 (by rw [← z]; exact m), by obtain ⟨_, _, z, _⟩ := nest_foot h6 m; exact z⟩) h6⟩
  | xs :: xss, vs, n + 1, b, ⟨c, ws, r, q, h1, h2, h3, h4, h5, h6⟩, e => by
    rw [q] at e
    have e' : r[n]? = some (.ref b) := by simpa using e
    have mb : V.ref b ∈ r := List.mem_of_getElem? e'
    exact ⟨c, ws, r, q, by rw [upd_ne fun z => h5 (by rw [z]; exact mb)]; exact h1, h2, h3, h4, h5, nest_set h h6 e'⟩
theorem nest_len {K : PySem.W.Frag} {B H F : Hp} : ∀ {xss : List (List D)} {vs : List V}, NestOk K B H F xss vs → vs.length = xss.length
  | [], vs, q => by
    have q' : vs = [] := q
    rw [q']; rfl
  | xs :: xss, vs, ⟨c, ws, r, q, h1, h2, h3, h4, h5, h6⟩ => by rw [q, List.length_cons, List.length_cons, nest_len h6]
/-- a row of own rows is changed -/
theorem SR.writeN {K : PySem.W.Frag} {F0 B : Hp} {r : Env} {σ : L2.St} {H F : Hp} (S : SR K F0 B r σ H F) {i n : Nat} {xss : List (List D)} {ys : List D} {a b : Addr} {vs us : List V} (hi : r[i]? = some (.nest xss)) (ha : σ[i]? = some (some (.ref a))) (hv : H a = some (.lst vs)) (hn : vs[n]? = some (.ref b)) (h : RepL K F ys us) :
    SR K F0 B (r.set i (.nest (xss.set n ys))) σ (upd H b (.lst us)) F := by
  obtain ⟨a', vs', e, h3, h4, h5, h6, h7⟩ := S.slot hi ha
  cases e
  rw [hv] at h3
  cases h3
  have mb : V.ref b ∈ vs := List.mem_of_getElem? hn
  have ab : a ≠ b := fun z => h6 (by rw [z]; exact mb)
  have ha' : upd H b (.lst us) a = some (.lst vs) := by rw [upd_ne ab]; exact hv
  refine S.wr hi ha (fun c d => upd_ne fun z => d ?_) ⟨a, vs, rfl, ha', h4, h5, h6, nest_set h h7 hn⟩ (fun c f => ?_) fun _ z => nomatch z
  · subst z; exact ⟨a, vs, rfl, hv, .inr mb⟩
  · obtain ⟨p, ws, e1, e2, e3⟩ := f
    cases e1
    rw [ha'] at e2
    cases e2
    exact ⟨a, vs, rfl, hv, e3⟩
end DL
/-! Readings by data; expressions. -/
namespace DL
open PySem PySem.Spec PyProof.Rows L2

abbrev EC := String → Addr
def ErrOk (K : PySem.W.Frag) (F H : Hp) (e : Err) (dx : Option Addr) : Prop := match e.fld with
  | none => dx = none
  | some (f, x) => ∃ dd v, dx = some dd ∧ H dd = some (.xd [(f, v)]) ∧ Rep K F x v
/-- what is wanted of x, reckoned at the slots σ over F and H -/
def Thn {α : Type} (K : PySem.W.Frag) (ec : EC) (W : WX) (x : R α) (σ : L2.St) (F H : Hp) (P : α → Hp → Hp → Prop) : Prop := match x with
  | none => False
  | some (.error e) => ∀ dx F' H', Gr F H F' H' → ErrOk K F' H' e dx → W (.ref (ec e.cls)) dx σ H'
  | some (.ok a) => ∀ F' H', Gr F H F' H' → P a F' H'
section
variable {α β : Type} {K : PySem.W.Frag} {ec : EC} {W : WX} {σ : L2.St} {F H F1 H1 : Hp} {P P' : α → Hp → Hp → Prop}
theorem Thn.grow {x : R α} (g : Gr F H F1 H1) (h : Thn K ec W x σ F H P) : Thn K ec W x σ F1 H1 P := by
  match x with
  | none => exact h
  | some (.error e) => exact fun dx F' H' g' => h dx F' H' (g.trans g')
  | some (.ok a) => exact fun F' H' g' => h F' H' (g.trans g')
theorem Thn.imp {x : R α} (h : Thn K ec W x σ F H P) (f : ∀ a F' H', x = ok a → Gr F H F' H' → P a F' H' → P' a F' H') : Thn K ec W x σ F H P' := by
  match x with
  | none => exact h
  | some (.error e) => exact h
  | some (.ok a) => exact fun F' H' g' => f a F' H' rfl g' (h F' H' g')
theorem Thn.bind {x : R β} {f : β → R α} (h : Thn K ec W (rb x f) σ F H P) : Thn K ec W x σ F H (fun a F' H' => Thn K ec W (f a) σ F' H' P) := by
  match x with
  | none => exact h
  | some (.error e) => exact h
  | some (.ok a) => exact fun F' H' g' => Thn.grow g' (show Thn K ec W (f a) σ F H P from h)
theorem Thn.ok {a : α} (e : Same F H) (h : Thn K ec W (DL.ok a) σ F H P) : P a F H := h F H (Gr.refl e)
theorem Thn.po {x : Option α} (h : Thn K ec W (po x) σ F H P) : ∃ a, x = some a ∧ ∀ F' H', Gr F H F' H' → P a F' H' := by
  match x with
  | none => exact False.elim h
  | some a => exact ⟨a, rfl, h⟩
end

/-- a datum, an own list too; a datum; a test; a new list; arguments -/
def tX (K : PySem.W.Frag) (ec : EC) (W : WX) (a : EX) : TE := fun σ H Q => ∃ r F F0 B, SR K F0 B r σ H F ∧ Thn K ec W (a r) σ F H fun d F' H' => ∀ v, RepX K F' H' d v → Q v H'
def tD (K : PySem.W.Frag) (ec : EC) (W : WX) (a : EX) : TE := fun σ H Q => ∃ r F F0 B, SR K F0 B r σ H F ∧ Thn K ec W (a r) σ F H fun d F' H' => ∀ v, Rep K F' d v → Q v H'
def tT (K : PySem.W.Frag) (ec : EC) (W : WX) (a : EB) : TT := fun σ H Q => ∃ r F F0 B, SR K F0 B r σ H F ∧ Thn K ec W (a r) σ F H fun b _ H' => Q b H'
def tL (K : PySem.W.Frag) (ec : EC) (W : WX) (a : EL) : TE := fun σ H Q => ∃ r F F0 B, SR K F0 B r σ H F ∧ Thn K ec W (a r) σ F H fun xs F' H' => ∀ p vs, H' p = none → RepL K F' xs vs → Q (.ref p) (upd H' p (.lst vs))
def tAs (K : PySem.W.Frag) (ec : EC) (W : WX) (a : Env → R (List D)) : TA := fun σ H Q => ∃ r F F0 B, SR K F0 B r σ H F ∧ Thn K ec W (a r) σ F H fun ds F' H' => ∀ vs, RepL K F' ds vs → Q vs H'
/-- the same for what is only read -/
def tAsX (K : PySem.W.Frag) (ec : EC) (W : WX) (a : EX) : TA := fun σ H Q => ∃ r F F0 B, SR K F0 B r σ H F ∧ Thn K ec W (a r) σ F H fun d F' H' => ∀ v, RepX K F' H' d v → Q [v] H'

theorem peImp {X : Cx} {e : Expr} {t t' : TE} (h : PE X e t) (f : ∀ σ H Q, t' σ H Q → t σ H Q) : PE X e t' := ⟨fun pins s σ H Q I q => h.run pins s σ H Q I (f σ H Q q)⟩
theorem ptImp {X : Cx} {e : Expr} {t t' : TT} (h : PT X e t) (f : ∀ σ H Q, t' σ H Q → t σ H Q) : PT X e t' := ⟨fun pins s σ H Q I q => h.run pins s σ H Q I (f σ H Q q)⟩
theorem paImp {X : Cx} {e : List Expr} {t t' : TA} (h : PA X e t) (f : ∀ σ H Q, t' σ H Q → t σ H Q) : PA X e t' := ⟨fun pos pins s σ H Q I q => h.run pos pins s σ H Q I (f σ H Q q)⟩

abbrev DX (X : Cx) (ec : EC) (W : WX) (e : Expr) (a : EX) : Prop := PE X e (tX X.K ec W a)
abbrev DE (X : Cx) (ec : EC) (W : WX) (e : Expr) (a : EX) : Prop := PE X e (tD X.K ec W a)
abbrev DB (X : Cx) (ec : EC) (W : WX) (e : Expr) (a : EB) : Prop := PE X e (tD X.K ec W (vB a))
abbrev DT (X : Cx) (ec : EC) (W : WX) (e : Expr) (a : EB) : Prop := PT X e (tT X.K ec W a)
abbrev DLi (X : Cx) (ec : EC) (W : WX) (e : Expr) (a : EL) : Prop := PE X e (tL X.K ec W a)
abbrev DA (X : Cx) (ec : EC) (W : WX) (es : List Expr) (a : Env → R (List D)) : Prop := PA X es (tAs X.K ec W a)

section
variable {X : Cx} {ec : EC} {W : WX} {e b : Expr} {es : List Expr} {pos : Pos} {φ ψ : EX}
/-- a datum may be read -/
theorem DE.x (h : DE X ec W e φ) : DX X ec W e φ := peImp h fun σ H Q ⟨r, F, F0, B, S, q⟩ =>
  ⟨r, F, F0, B, S, q.imp fun d F' H' _ g k v rv => k v (rv.x g.i)⟩
/-- a new list is a datum at once -/
theorem DLi.d {a : EL} (h : DLi X ec W e a) : DE X ec W e (vL a) := peImp h fun σ H Q ⟨r, F, F0, B, S, q⟩ =>
  ⟨r, F, F0, B, S, (Thn.bind (f := fun xs => ok (PyData.list xs)) q).imp fun xs F' H' _ g k p vs hp hv => by
    have g' := Gr.new g.i hp (.lst vs)
    exact k _ _ g' (.ref p) ⟨p, vs, rfl, .inl (.inl upd_same), hv.mono g'.f⟩⟩
/-! ### names, constants -/
theorem de_var (i : Nat) {x : Str} (hN : X.N[i]? = some x := by rfl) (hv : Vis X.env.scope x := by first | exact Or.inl rfl | exact Or.inr (Or.inl rfl) | exact Or.inr (Or.inr rfl)) (hd : (x == ("__debug__" : Str)) = false := by decide)
    (hcd : (x == ("__classdict__" : Str)) = false := by decide) : DE X ec W (.Name x pos) (vVar i) := peImp (pe_var hN hv hd hcd) fun σ H Q ⟨r, F, F0, B, S, q⟩ => by
  unfold vVar at q
  split at q
  · rename_i x' hx
    obtain ⟨y, h1, v, rfl, h2⟩ := S.ok i _ hx
    exact ⟨v, h1, q.ok S.sub v h2⟩
  · rename_i x' hx
    obtain ⟨y, h1, v, rfl, h2⟩ := S.ok i _ hx
    exact ⟨v, h1, q.ok S.sub v h2⟩
  · exact False.elim q
theorem dx_var (i : Nat) {x : Str} (hN : X.N[i]? = some x := by rfl) (hv : Vis X.env.scope x := by first | exact Or.inl rfl | exact Or.inr (Or.inl rfl) | exact Or.inr (Or.inr rfl)) (hd : (x == ("__debug__" : Str)) = false := by decide)
    (hcd : (x == ("__classdict__" : Str)) = false := by decide) : DX X ec W (.Name x pos) (vRd i) := peImp (pe_var hN hv hd hcd) fun σ H Q ⟨r, F, F0, B, S, q⟩ => by
  unfold vRd at q
  split at q
  · rename_i x' hx
    obtain ⟨y, h1, v, rfl, h2⟩ := S.ok i _ hx
    exact ⟨v, h1, q.ok S.sub v (h2.x S.sub)⟩
  · rename_i xs hx
    obtain ⟨y, h1, a, vs, rfl, h2, h3, h4, h5⟩ := S.ok i _ hx
    exact ⟨_, h1, q.ok S.sub _ ⟨a, vs, rfl, .inl (.inl h2), h5⟩⟩
  · rename_i x' hx
    obtain ⟨y, h1, v, rfl, h2⟩ := S.ok i _ hx
    exact ⟨v, h1, q.ok S.sub v (h2.x S.sub)⟩
  · exact False.elim q
theorem de_int {i j} : DE X ec W (.Constant (.int i) j pos) (vC (.int i)) := peImp pe_int fun σ H Q ⟨r, F, F0, B, S, q⟩ => Thn.ok S.sub (a := PyData.int i) q _ rfl
theorem de_bl {b j} : DE X ec W (.Constant (.bool b) j pos) (vC (.bool b)) := peImp pe_bl fun σ H Q ⟨r, F, F0, B, S, q⟩ => Thn.ok S.sub (a := PyData.bool b) q _ rfl
theorem de_non {j} : DE X ec W (.Constant .none j pos) (vC .none) := peImp pe_non fun σ H Q ⟨r, F, F0, B, S, q⟩ => Thn.ok S.sub (a := PyData.none) q _ rfl
theorem de_str {x j} : DE X ec W (.Constant (.str x) j pos) (vC (.str x)) := peImp pe_str fun σ H Q ⟨r, F, F0, B, S, q⟩ => Thn.ok S.sub (a := PyData.str x) q _ rfl
/-- a module's constant that is a scalar -/
def scalD : V → Option D
  | .non => some .none
  | .bl b => some (.bool b)
  | .int i => some (.int i)
  | .str x => some (.str x)
  | _ => none
theorem scalD_rep {K : PySem.W.Frag} {F : Hp} {v : V} {d : D} (h : scalD v = some d) : Rep K F d v := by
  cases v <;> simp only [scalD] at h <;> first | cases h <;> rfl | cases h
theorem de_glob {x : Str} {v : V} {u : Value} {d : D} (hg : Gl X x) (hm : X.mg x = some u) (r : RelV v u) (hd : scalD v = some d) (hdb : (x == ("__debug__" : Str)) = false := by decide) : DE X ec W (.Name x pos) (vC d) :=
  peImp (pe_glob hg hm r hdb) fun σ H Q ⟨r, F, F0, B, S, q⟩ => Thn.ok S.sub (a := d) q _ (scalD_rep hd)
/-! ### operators -/
def Op1 (K : PySem.W.Frag) (f : D → Option D) (t : V → Hp → VK → Prop) : Prop := ∀ (x d : D) (F H : Hp) (v : V) (Q : VK), f x = some d → Same F H → RepX K F H x v →
  (∀ w F' H', Gr F H F' H' → Rep K F' d w → Q w H') → t v H Q
def Op2 (K : PySem.W.Frag) (f : D → D → Option D) (t : R2) : Prop := ∀ (x y d : D) (F H : Hp) (v u : V) (Q : VK), f x y = some d → Same F H → RepX K F H x v → RepX K F H y u →
  (∀ w F' H', Gr F H F' H' → Rep K F' d w → Q w H') → t v u H Q
def Op2B (K : PySem.W.Frag) (f : D → D → Option Bool) (t : R2) : Prop := ∀ (x y : D) (c : Bool) (F H : Hp) (v u : V) (Q : VK), f x y = some c → Same F H → RepX K F H x v → RepX K F H y u →
  Q (.bl c) H → t v u H Q
def Op2L (K : PySem.W.Frag) (f : D → D → Option (List D)) (t : R2) : Prop := ∀ (x y : D) (xs : List D) (F H : Hp) (v u : V) (Q : VK), f x y = some xs → Same F H → RepX K F H x v → RepX K F H y u →
  (∀ p vs, H p = none → RepL K F xs vs → Q (.ref p) (upd H p (.lst vs))) → t v u H Q
theorem use2 {K : PySem.W.Frag} {t : R2} {f : D → D → Option D} (hs : Op2 K f t) {σ : L2.St} {H : Hp} {Q : VK} (h : tD K ec W (v2 f φ ψ) σ H Q) : tOp t (tX K ec W φ) (tX K ec W ψ) σ H Q := by
  obtain ⟨r, F, F0, B, S, q⟩ := h
  refine ⟨r, F, F0, B, S, (Thn.bind q).imp fun x F1 H1 _ g1 h1 v rv => ⟨r, F1, F0, B, S.grow g1, (Thn.bind h1).imp fun y F2 H2 _ g2 h2 u ru => ?_⟩⟩
  obtain ⟨d, ed, k⟩ := h2.po
  exact hs x y d F2 H2 v u Q ed g2.i (rv.mono g2) ru fun w F' H' g' rw' => k F' H' g' w rw'
theorem de_op {op : Operator} {t : R2} {f : D → D → Option D} (ho : OpR X (binaryOp op) t) (hs : Op2 X.K f t) (ha : DX X ec W e φ) (hb : DX X ec W b ψ) : DE X ec W (.BinOp e op b pos) (v2 f φ ψ) :=
  peImp (pe_op ho ha hb) fun _ _ _ h => use2 hs h
theorem dl_op {op : Operator} {t : R2} {f : D → D → Option (List D)} (ho : OpR X (binaryOp op) t) (hs : Op2L X.K f t) (ha : DX X ec W e φ) (hb : DX X ec W b ψ) : DLi X ec W (.BinOp e op b pos) (l2 f φ ψ) :=
  peImp (pe_op ho ha hb) fun _ _ _ h => by
    obtain ⟨r, F, F0, B, S, q⟩ := h
    refine ⟨r, F, F0, B, S, (Thn.bind q).imp fun x F1 H1 _ g1 h1 v rv => ⟨r, F1, F0, B, S.grow g1, (Thn.bind h1).imp fun y F2 H2 _ g2 h2 u ru => ?_⟩⟩
    obtain ⟨d, ed, k⟩ := h2.po
    exact hs x y d F2 H2 v u _ ed g2.i (rv.mono g2) ru fun p vs hp hv => k F2 H2 (Gr.refl g2.i) p vs hp hv
theorem de_un {op : UnaryOp} {t : V → Hp → VK → Prop} {f : D → Option D} (ho : UnR X (unaryOp op) t) (hs : Op1 X.K f t) (ha : DX X ec W e φ) : DE X ec W (.UnaryOp op e pos) (v1 f φ) :=
  peImp (pe_un ho ha) fun _ _ _ h => by
    obtain ⟨r, F, F0, B, S, q⟩ := h
    refine ⟨r, F, F0, B, S, (Thn.bind q).imp fun x F1 H1 _ g1 h1 v rv => ?_⟩
    obtain ⟨d, ed, k⟩ := h1.po
    exact hs x d F1 H1 v _ ed g1.i rv fun w F' H' g' rw' => k F' H' g' w rw'
theorem useB {K : PySem.W.Frag} {t : R2} {f : D → D → Option Bool} (hs : Op2B K f t) {σ : L2.St} {H : Hp} {Q : Bool → Hp → Prop} (h : tT K ec W (c2 f φ ψ) σ H Q) :
    tOp t (tX K ec W φ) (tX K ec W ψ) σ H (fun x H' => ∃ c, x = .bl c ∧ Q c H') := by
  obtain ⟨r, F, F0, B, S, q⟩ := h
  refine ⟨r, F, F0, B, S, (Thn.bind q).imp fun x F1 H1 _ g1 h1 v rv => ⟨r, F1, F0, B, S.grow g1, (Thn.bind h1).imp fun y F2 H2 _ g2 h2 u ru => ?_⟩⟩
  obtain ⟨d, ed, k⟩ := h2.po
  exact hs x y d F2 H2 v u _ ed g2.i (rv.mono g2) ru ⟨d, rfl, k F2 H2 (Gr.refl g2.i)⟩
theorem db_cmp {op : CmpOp} {t : R2} {f : D → D → Option Bool} (ho : OpR X (compareOp op) t) (hs : Op2B X.K f t) (ha : DX X ec W e φ) (hb : DX X ec W b ψ) (hm : behindInMarks op b = false) : DB X ec W (.Compare e [op] [b] pos) (c2 f φ ψ) :=
  peImp (pe_cmpR ho ha hb hm) fun σ H Q h => by
    obtain ⟨r, F, F0, B, S, q⟩ := h
    refine ⟨r, F, F0, B, S, (Thn.bind (Thn.bind q)).imp fun x F1 H1 _ g1 h1 v rv => ⟨r, F1, F0, B, S.grow g1, ?_⟩⟩
    have h1' : Thn X.K ec W (rb (ψ r) fun y => po (f x y)) σ F1 H1 _ := h1
    refine (Thn.bind h1').imp fun y F2 H2 _ g2 h2 u ru => ?_
    obtain ⟨d, ed, k⟩ := h2.po
    exact hs x y d F2 H2 v u _ ed g2.i (rv.mono g2) ru (Thn.ok g2.i (a := PyData.bool d) (k F2 H2 (Gr.refl g2.i)) _ rfl)
theorem dt_cmp {op : CmpOp} {t : R2} {f : D → D → Option Bool} (ho : OpR X (compareOp op) t) (hs : Op2B X.K f t) (ha : DX X ec W e φ) (hb : DX X ec W b ψ) (hm : behindInMarks op b = false) : DT X ec W (.Compare e [op] [b] pos) (c2 f φ ψ) :=
  ptImp (pt_cmpR ho ha hb hm) fun _ _ _ h => useB hs h
end
end DL
/-! Tests, arguments, calls, the operators on data. -/
namespace DL
open PySem PySem.Spec PyProof.Rows L2

section
variable {X : Cx} {ec : EC} {W : WX} {e b c : Expr} {es rest : List Expr} {pos : Pos} {φ ψ χ : EX} {α β : EB}
/-! ### truth -/
theorem boolOf {K : PySem.W.Frag} {σ : L2.St} {F H : Hp} {P : Bool → Hp → Hp → Prop} {x : R D} (q : Thn K ec W (rb x fun d => po (dTr d)) σ F H P) : Thn K ec W x σ F H fun d F' H' => ∃ k, d = .bool k ∧ P k F' H' := by
  match x with
  | none => exact q
  | some (.error _) => exact q
  | some (.ok d) =>
    intro F' H' g
    cases d with
    | bool k => exact ⟨k, rfl, (show Thn K ec W (ok k) σ F H P from q) F' H' g⟩
    | _ => exact False.elim q
theorem DE.tr (h : DE X ec W e φ) : DB X ec W e (bTr φ) := peImp h fun σ H Q ⟨r, F, F0, B, S, q⟩ => by
  refine ⟨r, F, F0, B, S, (boolOf (Thn.bind q)).imp fun d F1 H1 _ g1 ⟨k, e, h1⟩ v rv => ?_⟩
  subst e
  exact Thn.ok g1.i (a := PyData.bool k) h1 v rv
theorem DE.test (h : DE X ec W e φ) (he : ∀ whole, isTrue e X.env whole = (do let v ← whole; standAt e.pos; holding [v] (truthy v)) := by intro _; rfl) : DT X ec W e (bTr φ) :=
  ptImp (pt_val h he) fun σ H Q ⟨r, F, F0, B, S, q⟩ => by
    refine ⟨r, F, F0, B, S, (boolOf q).imp fun d F1 H1 _ g1 ⟨k, e, h1⟩ v rv => ?_⟩
    subst e
    exact ⟨k, rv, h1⟩
theorem DB.test (h : DB X ec W e α) (he : ∀ whole, isTrue e X.env whole = (do let v ← whole; standAt e.pos; holding [v] (truthy v)) := by intro _; rfl) : DT X ec W e α :=
  ptImp (pt_val h he) fun σ H Q ⟨r, F, F0, B, S, q⟩ => by
    refine ⟨r, F, F0, B, S, ?_⟩
    have q' : Thn X.K ec W (α r) σ F H fun b _ H' => Q b H' := q
    revert q'
    show Thn _ _ _ (α r) _ _ _ _ → Thn _ _ _ (rb (α r) fun b => ok (PyData.bool b)) _ _ _ _
    match α r with
    | none => exact fun z => z
    | some (.error _) => exact fun z => z
    | some (.ok k) => exact fun z F' H' g v rv => ⟨k, rv, z F' H' g⟩
theorem dt_not (h : DT X ec W e α) : DT X ec W (.UnaryOp .Not e pos) (bNot α) := ptImp (pt_not h) fun σ H Q ⟨r, F, F0, B, S, q⟩ =>
  ⟨r, F, F0, B, S, (Thn.bind q).imp fun k F1 H1 _ g1 h1 => Thn.ok g1.i h1⟩
abbrev DW (X : Cx) (ec : EC) (W : WX) (e : Expr) (a : EB) : Prop := PW X e (tT X.K ec W a)
theorem pwImp {X : Cx} {e : Expr} {t t' : TT} (h : PW X e t) (f : ∀ σ H Q, t' σ H Q → t σ H Q) : PW X e t' := ⟨fun wh pins s σ H Q I q => h.run wh pins s σ H Q I (f σ H Q q)⟩
theorem DW.t (h : DW X ec W e α) : DT X ec W e α := PW.pt h
theorem dw_and1 (h : DT X ec W e α) : DW X ec W (.BoolOp .And [e] pos) α := pw_and1 h
theorem dw_or1 (h : DT X ec W e α) : DW X ec W (.BoolOp .Or [e] pos) α := pw_or1 h
theorem dw_and (ha : DT X ec W e α) (hb : DW X ec W (.BoolOp .And (b :: rest) pos) β) : DW X ec W (.BoolOp .And (e :: b :: rest) pos) (bAnd α β) := pwImp (pw_and ha hb) fun σ H Q ⟨r, F, F0, B, S, q⟩ => by
  refine ⟨r, F, F0, B, S, (Thn.bind q).imp fun k F1 H1 _ g1 h1 => ?_⟩
  cases k with
  | true => exact iteT ⟨r, F1, F0, B, S.grow g1, h1⟩
  | false => exact iteF (Thn.ok g1.i h1)
theorem dw_or (ha : DT X ec W e α) (hb : DW X ec W (.BoolOp .Or (b :: rest) pos) β) : DW X ec W (.BoolOp .Or (e :: b :: rest) pos) (bOr α β) := pwImp (pw_or ha hb) fun σ H Q ⟨r, F, F0, B, S, q⟩ => by
  refine ⟨r, F, F0, B, S, (Thn.bind q).imp fun k F1 H1 _ g1 h1 => ?_⟩
  cases k with
  | true => exact iteT (Thn.ok g1.i h1)
  | false => exact iteF ⟨r, F1, F0, B, S.grow g1, h1⟩
/-! ### truth values -/
theorem db_bind {K : PySem.W.Frag} {σ : L2.St} {F H : Hp} {r : Env} {f : Bool → R Bool} {P : D → Hp → Hp → Prop} (q : Thn K ec W (vB (fun r => rb (α r) f) r) σ F H P) : Thn K ec W (vB α r) σ F H fun d F' H' => ∃ k, d = .bool k ∧ Thn K ec W (rb (f k) fun b => ok (.bool b)) σ F' H' P := by
  revert q
  show Thn _ _ _ (rb (rb (α r) f) fun b => ok (PyData.bool b)) _ _ _ _ → Thn _ _ _ (rb (α r) fun b => ok (PyData.bool b)) _ _ _ _
  match α r with
  | none => exact fun z => z
  | some (.error _) => exact fun z => z
  | some (.ok k) => exact fun z F' H' g => ⟨k, rfl, Thn.grow g z⟩
theorem db_not (h : DB X ec W e α) : DB X ec W (.UnaryOp .Not e pos) (bNot α) := peImp (pe_not h) fun σ H Q ⟨r, F, F0, B, S, q⟩ =>
  ⟨r, F, F0, B, S, (db_bind q).imp fun d F1 H1 _ g1 ⟨k, e, h1⟩ v rv => by
    subst e
    exact ⟨k, rv, Thn.ok g1.i h1 _ rfl⟩⟩
theorem db_one {op : BoolOp} (h : DB X ec W e α) : DB X ec W (.BoolOp op [e] pos) α := pe_one h
theorem db_and (ha : DB X ec W e α) (hb : DB X ec W (.BoolOp .And (b :: rest) pos) β) : DB X ec W (.BoolOp .And (e :: b :: rest) pos) (bAnd α β) := peImp (pe_and ha hb) fun σ H Q ⟨r, F, F0, B, S, q⟩ =>
  ⟨r, F, F0, B, S, (db_bind q).imp fun d F1 H1 _ g1 ⟨k, e, h1⟩ v rv => by
    subst e
    refine ⟨k, rv, ?_⟩
    cases k with
    | true => exact iteT ⟨r, F1, F0, B, S.grow g1, h1⟩
    | false => exact iteF (Thn.ok g1.i (a := PyData.bool false) h1 _ rfl)⟩
theorem db_or (ha : DB X ec W e α) (hb : DB X ec W (.BoolOp .Or (b :: rest) pos) β) : DB X ec W (.BoolOp .Or (e :: b :: rest) pos) (bOr α β) := peImp (pe_or ha hb) fun σ H Q ⟨r, F, F0, B, S, q⟩ =>
  ⟨r, F, F0, B, S, (db_bind q).imp fun d F1 H1 _ g1 ⟨k, e, h1⟩ v rv => by
    subst e
    refine ⟨k, rv, ?_⟩
    cases k with
    | true => exact iteT (Thn.ok g1.i (a := PyData.bool true) h1 _ rfl)
    | false => exact iteF ⟨r, F1, F0, B, S.grow g1, h1⟩⟩
/-- x if c else y -/
theorem de_if (hc : DT X ec W c α) (ha : DE X ec W e φ) (hb : DE X ec W b ψ) : DE X ec W (.IfExp c e b pos) (vIf α φ ψ) := peImp (pe_ifExp hc ha hb) fun σ H Q ⟨r, F, F0, B, S, q⟩ =>
  ⟨r, F, F0, B, S, (Thn.bind q).imp fun k F1 H1 _ g1 h1 => by
    cases k with
    | true => exact iteT ⟨r, F1, F0, B, S.grow g1, h1⟩
    | false => exact iteF ⟨r, F1, F0, B, S.grow g1, h1⟩⟩
theorem db_chain {op op' : CmpOp} {t t' : R2} {f g : D → D → Option Bool} (ho : OpR X (compareOp op) t) (ho' : OpR X (compareOp op') t') (hs : Op2B X.K f t) (hs' : Op2B X.K g t') (ha : DX X ec W e φ) (hb : DX X ec W b ψ) (hc : DX X ec W c χ)
    (hm : lastMarks [op, op'] [b, c] = false := by with_unfolding_all rfl) : DB X ec W (.Compare e [op, op'] [b, c] pos) (bChain f g φ ψ χ) := peImp (pe_chain ho ho' ha hb hc hm) fun σ H Q ⟨r, F, F0, B, S, q⟩ => by
  have q1 : Thn X.K ec W (rb (φ r) fun x => rb (rb (ψ r) fun y => rb (po (f x y)) fun k => if k = true then rb (χ r) fun z => po (g y z) else ok false) fun b => ok (PyData.bool b)) σ F H fun d F' H' => ∀ v, Rep X.K F' d v → Q v H' := by
    have q0 : Thn X.K ec W (rb (rb (φ r) fun x => rb (ψ r) fun y => rb (po (f x y)) fun k => if k = true then rb (χ r) fun z => po (g y z) else ok false) fun b => ok (PyData.bool b)) σ F H fun d F' H' => ∀ v, Rep X.K F' d v → Q v H' := q
    revert q0
    match φ r with
    | none => exact fun z => z
    | some (.error _) => exact fun z => z
    | some (.ok k) => exact fun z => z
  refine ⟨r, F, F0, B, S, (Thn.bind q1).imp fun x F1 H1 _ g1 h1 v rv => ⟨r, F1, F0, B, S.grow g1, ?_⟩⟩
  have h1' : Thn X.K ec W (rb (ψ r) fun y => rb (rb (po (f x y)) fun k => if k = true then rb (χ r) fun z => po (g y z) else ok false) fun b => ok (PyData.bool b)) σ F1 H1 fun d F' H' => ∀ v, Rep X.K F' d v → Q v H' := by
    revert h1
    match ψ r with
    | none => exact fun z => z
    | some (.error _) => exact fun z => z
    | some (.ok k) => exact fun z => z
  refine (Thn.bind h1').imp fun y F2 H2 _ g2 h2 u ru => ?_
  match ef : f x y with
  | none =>
    rw [ef] at h2
    exact False.elim h2
  | some k =>
    rw [ef] at h2
    refine hs x y k F2 H2 v u _ ef g2.i (rv.mono g2) ru ⟨k, rfl, ?_⟩
    cases k with
    | false => exact iteF (Thn.ok g2.i (a := PyData.bool false) h2 _ rfl)
    | true =>
      refine iteT ⟨r, F2, F0, B, (S.grow g1).grow g2, ?_⟩
      have h3 : Thn X.K ec W (rb (rb (χ r) fun z => po (g y z)) fun b => ok (PyData.bool b)) σ F2 H2 fun d F' H' => ∀ v, Rep X.K F' d v → Q v H' := h2
      have h4 : Thn X.K ec W (rb (χ r) fun z => rb (po (g y z)) fun b => ok (PyData.bool b)) σ F2 H2 fun d F' H' => ∀ v, Rep X.K F' d v → Q v H' := by
        revert h3
        match χ r with
        | none => exact fun z => z
        | some (.error _) => exact fun z => z
        | some (.ok k) => exact fun z => z
      refine (Thn.bind h4).imp fun z F3 H3 _ g3 h5 w rw' => ?_
      match eg : g y z with
      | none =>
        rw [eg] at h5
        exact False.elim h5
      | some k =>
        rw [eg] at h5
        exact hs' y z k F3 H3 u w Q eg g3.i (ru.mono g3) rw' (Thn.ok g3.i (a := PyData.bool k) h5 _ rfl)
/-! ### arguments, displays -/
theorem da_nil : DA X ec W [] (vArgs []) := paImp pa_nil fun σ H Q ⟨r, F, F0, B, S, q⟩ => Thn.ok S.sub q [] rfl
theorem da_cons {as : List EX} (ha : DE X ec W e φ) (hr : DA X ec W es (vArgs as)) (hs : starEach (e :: es) X.env = (false, eval e X.env) :: starEach es X.env := by rfl) : DA X ec W (e :: es) (vArgs (φ :: as)) :=
  paImp (pa_cons ha hr hs) fun σ H Q ⟨r, F, F0, B, S, q⟩ =>
    ⟨r, F, F0, B, S, (Thn.bind q).imp fun x F1 H1 _ g1 h1 v rv => ⟨r, F1, F0, B, S.grow g1, (Thn.bind h1).imp fun xs F2 H2 _ g2 h2 vs rs =>
      Thn.ok g2.i h2 (v :: vs) ⟨v, vs, rfl, rv.mono g2.f, rs⟩⟩⟩
theorem vArgs_len {as : List EX} {r : Env} {xs : List D} (h : vArgs as r = ok xs) : xs.length = as.length := by
  induction as generalizing xs with
  | nil =>
    have e : xs = [] := by
      have h' : ok ([] : List D) = ok xs := h
      unfold ok at h'
      simpa using h'.symm
    subst e; rfl
  | cons a as ih =>
    obtain ⟨x, h1, h2⟩ := rb_eq_ok (f := fun x => rb (vArgs as r) fun xs => ok (x :: xs)) h
    obtain ⟨ys, h3, h4⟩ := rb_eq_ok h2
    have e : xs = x :: ys := by
      unfold ok at h4
      simpa using h4.symm
    subst e
    rw [List.length_cons, List.length_cons, ih h3]
theorem de_tup {as : List EX} {x1} (h : DA X ec W es (vArgs as)) (hl : as.length ≤ sizeLine := by decide) : DE X ec W (.Tuple es x1 pos) (vTup as) := peImp (pe_tup h) fun σ H Q ⟨r, F, F0, B, S, q⟩ =>
  ⟨r, F, F0, B, S, (Thn.bind q).imp fun xs F1 H1 ex g1 h1 vs rs => ⟨by rw [rs.length, vArgs_len ex]; exact hl, fun p hp => by
    have g' := Gr.new g1.i hp (.tup vs)
    exact h1 _ _ g' (.ref p) ⟨p, vs, rfl, upd_same, rs.mono g'.f⟩⟩⟩
theorem dl_lst {as : List EX} (h : DA X ec W es (vArgs as)) (hl : as.length ≤ sizeLine := by decide) : DLi X ec W (.List es pos) (vArgs as) := peImp (pe_lst h) fun σ H Q ⟨r, F, F0, B, S, q⟩ =>
  ⟨r, F, F0, B, S, q.imp fun xs F1 H1 ex g1 h1 vs rs => ⟨by rw [rs.length, vArgs_len ex]; exact hl, fun p hp => h1 p vs hp rs⟩⟩
/-! ### a def's promise by data, its call -/
/-- called with data ds it gives f ds, and leaves all that was -/
def spD (K : PySem.W.Frag) (ec : EC) (n : Nat) (f : List D → R D) : Sp := fun vs H Q E => ∃ ds F, ds.length = n ∧ Same F H ∧ RepL K F ds vs ∧
  Thn K ec (fun c d _ H => E c d H) (f ds) [] F H fun d F' H' => ∀ v, Rep K F' d v → Q v H'
theorem spD_len {K : PySem.W.Frag} {n : Nat} {f : List D → R D} {vs : List V} {H : Hp} {Q : VK} {E : XK} (h : spD K ec n f vs H Q E) : vs.length = n := by
  obtain ⟨ds, F, h1, _, h2, _⟩ := h
  rw [h2.length, h1]
theorem de_call {k : Nat} {f : Addr} {fd : FuncData} {ps : List Str} {g : List D → R D} {x : Str} {p : Pos} {as : List EX} {n : Nat} {CX : CXT} (F : FnOk X.prog X.w X.K X.mg X.base CX k f fd ps (spD X.K ec n g)) (hr : Room k X.A) (hg : Gl X x) (hm : X.mg x = some (.ref f)) (hk : PySem.W.keepIn X.K (.ref f) = true) (hb : Binds X.K fd ps [])
    (hx : ∀ σ, PassesAt CX X σ (WE W σ)) (ha : DA X ec W (e :: es) (vArgs as)) (hn : as.length = n := by rfl) (hdb : (x == ("__debug__" : Str)) = false := by decide)
    (he : starEach (e :: es) X.env = (false, eval e X.env) :: starEach es X.env := by rfl) (hpl : (backTo pos (starEach es X.env)).any (·.1) = false := by rfl) : DE X ec W (.Call (.Name x p) (e :: es) [] pos) (vCall g as) :=
  peImp (pe_callS F hr hg hm hk hb hx ha hdb he hpl) fun σ H Q ⟨r, F, F0, B, S, q⟩ =>
    ⟨r, F, F0, B, S, (Thn.bind q).imp fun ds F1 H1 ex g1 h1 vs rs => ⟨ds, F1, by rw [vArgs_len ex]; exact hn, g1.i, rs, by
      revert h1
      match g ds with
      | none => exact fun z => z
      | some (.error _) => exact fun z => z
      | some (.ok k) => exact fun z => z⟩⟩
end
end DL
/-! The operators, the built-ins, subscripts, slices. -/
namespace DL
open PySem PySem.Spec PyProof.Rows L2

theorem lim_line {n : Nat} (h : n ≤ lim) : n ≤ sizeLine := h
theorem lim_lt {n : Nat} (h : n < lim) : n < sizeLine := h
section
variable {K : PySem.W.Frag}
/-! ### reading -/
theorem RepX.int {F H : Hp} {i : Int} {v : V} (h : RepX K F H (.int i) v) : v = .int i := h
theorem RepX.bool {F H : Hp} {i : Bool} {v : V} (h : RepX K F H (.bool i) v) : v = .bl i := h
/-- a list or a tuple -/
theorem RepX.seq {F H : Hp} (e : Same F H) {x : D} {ds : List D} {v : V} (h : RepX K F H x v) (hs : seqOf x = some ds) : ∃ a vs, v = .ref a ∧ (SqL K H a vs ∨ SqT K H a vs) ∧ RepL K F ds vs := by
  cases x with
  | list xs =>
    cases hs
    obtain ⟨a, vs, q, h1, h2⟩ := h
    exact ⟨a, vs, q, .inl h1, h2⟩
  | tuple xs =>
    cases hs
    obtain ⟨a, vs, q, h1, h2⟩ := h
    exact ⟨a, vs, q, .inr (tupT e h1), h2⟩
  | _ => cases hs
/-! ### data of the library -/
mutual
theorem Rep.dp {H : Hp} : ∀ {d : D} {v : V}, Rep K H d v → PyData.canLay0 d = true → Dp K H v d
  | .none, _, h, _ => by cases h; exact .non
  | .bool b, _, h, _ => by cases h; exact .bl b
  | .int i, _, h, _ => by cases h; exact .int i
  | .str x, _, h, _ => by cases h; exact .str x
  | .list ds, _, ⟨a, vs, q, h1, h2⟩, c => by
    subst q
    exact .lst h1 (RepL.dp h2 (by simpa [PyData.canLay0] using c))
  | .tuple ds, _, ⟨a, vs, q, h1, h2⟩, c => by
    subst q
    exact .tup (.inl (.inl h1)) (RepL.dp h2 (by simpa [PyData.canLay0] using c))
  | .dict _, _, _, c => by simp [PyData.canLay0] at c
theorem RepL.dp {H : Hp} : ∀ {ds : List D} {vs : List V}, RepL K H ds vs → PyData.canLayAll0 ds = true → DpAll K H vs ds
  | [], _, h, _ => by
    have h' : _ = [] := h
    rw [h']; exact .nil
  | d :: ds, _, ⟨v, r, q, h1, h2⟩, c => by
    have c' : PyData.canLay0 d = true ∧ PyData.canLayAll0 ds = true := by simpa [PyData.canLayAll0] using c
    rw [q]
    exact .cons (Rep.dp h1 c'.1) (RepL.dp h2 c'.2)
end
theorem RepX.dp {F H : Hp} (e : Same F H) {d : D} {v : V} (h : RepX K F H d v) (c : SeqAt.shaped d = true) : Dp K H v d := (h.rep e).dp (SeqAt.canLay_of_shaped c)
/-! ### ints -/
theorem o_sub : Op2 K dSub (fun x y H Q => rI0 (fun i j => .int (i - j)) x y H Q ∨ ∃ b j, x = .bl b ∧ y = .int j ∧ Q (.int ((if b then 1 else 0) - j)) H) := by
  intro x y d F H v u Q hf e rx ry k
  unfold dSub at hf
  split at hf
  · cases hf; exact .inl ⟨_, _, rx, ry, k _ F H (Gr.refl e) rfl⟩
  · cases hf; exact .inr ⟨_, _, rx, ry, k _ F H (Gr.refl e) rfl⟩
  · cases hf
theorem o_mul : Op2 K dMul (rI CMul fun i j => .int (i * j)) := by
  intro x y d F H v u Q hf e rx ry k
  unfold dMul at hf
  split at hf
  · split at hf
    · rename_i c
      cases hf
      refine ⟨_, _, rx, ry, ?_, k _ F H (Gr.refl e) rfl⟩
      unfold small64 at c
      simp only [Bool.or_eq_true, Bool.and_eq_true, decide_eq_true_eq] at c
      exact c
    · cases hf
  · cases hf
theorem o_mod : Op2 K dMod (rI (fun _ j => 0 < j) fun i j => .int (i % j)) := by
  intro x y d F H v u Q hf e rx ry k
  unfold dMod at hf
  split at hf
  · split at hf
    · cases hf; exact ⟨_, _, rx, ry, by assumption, k _ F H (Gr.refl e) rfl⟩
    · cases hf
  · cases hf
theorem o_div : Op2 K dDiv (rI CDiv fun i j => .int (i / j)) := by
  intro x y d F H v u Q hf e rx ry k
  unfold dDiv at hf
  split at hf
  · split at hf
    · cases hf; exact ⟨_, _, rx, ry, by assumption, k _ F H (Gr.refl e) rfl⟩
    · cases hf
  · cases hf
theorem o_pow : Op2 K dPow (rI CPow fun i j => .int (i ^ j.toNat)) := by
  intro x y d F H v u Q hf e rx ry k
  unfold dPow at hf
  split at hf
  · split at hf
    · rename_i c
      cases hf; exact ⟨_, _, rx, ry, ⟨c.1, Int.le_trans c.2.1 (by decide), c.2.2⟩, k _ F H (Gr.refl e) rfl⟩
    · cases hf
  · cases hf
theorem o_neg : Op1 K dNeg (rU fun i => .int (-i)) := by
  intro x d F H v Q hf e rx k
  unfold dNeg at hf
  split at hf
  · cases hf; exact ⟨_, rx, k _ F H (Gr.refl e) rfl⟩
  · cases hf
/-! ### comparisons of ints -/
theorem o_lt : Op2B K cLt (rI0 fun i j => .bl (decide (i < j))) := by
  intro x y c F H v u Q hf e rx ry k
  unfold cLt at hf
  split at hf
  · cases hf; exact ⟨_, _, rx, ry, k⟩
  · cases hf
theorem o_le : Op2B K cLe (rI0 fun i j => .bl (decide (i ≤ j))) := by
  intro x y c F H v u Q hf e rx ry k
  unfold cLe at hf
  split at hf
  · cases hf; exact ⟨_, _, rx, ry, k⟩
  · cases hf
theorem o_gt : Op2B K cGt (rI0 fun i j => .bl (decide (j < i))) := by
  intro x y c F H v u Q hf e rx ry k
  unfold cGt at hf
  split at hf
  · cases hf; exact ⟨_, _, rx, ry, k⟩
  · cases hf
theorem o_ge : Op2B K cGe (rI0 fun i j => .bl (decide (j ≤ i))) := by
  intro x y c F H v u Q hf e rx ry k
  unfold cGe at hf
  split at hf
  · cases hf; exact ⟨_, _, rx, ry, k⟩
  · cases hf
/-! ### == of data -/
/-- two lists that are told apart by their lengths alone, or are both empty -/
def rEqLen (K : PySem.W.Frag) (neg : Bool) : R2 := fun x y H Q => ∃ a b xs ys, x = .ref a ∧ y = .ref b ∧ SqL K H a xs ∧ SqL K H b ys ∧ ((xs.length ≠ ys.length ∧ Q (.bl neg) H) ∨ (xs = [] ∧ ys = [] ∧ Q (.bl (!neg)) H))
theorem op_eqLen {X : Cx} (hu : X.A.units + 65 < cLine) : OpR X (compareOp .Eq) (rEqLen X.K false) := by
  intro pins s σ H x y v u Q I rx ry h
  obtain ⟨a, b, xs, ys, rfl, rfl, ha, hb, h⟩ := h
  cases rx
  cases ry
  obtain ⟨us, r1, p1, _⟩ := I.list ha
  obtain ⟨ws, r2, p2, _⟩ := I.list hb
  have l1 := r1.length
  have l2 := r2.length
  rcases h with ⟨hne, q⟩ | ⟨e1, e2, q⟩
  · exact SeqAt.RcAt.lists_lengths (A := X.A) p1.isList p2.isList (by
      rw [List.size_toArray, List.size_toArray, ← l1, ← l2]
      simpa using hne) (by omega) _ _ _ _ ⟨.bl false, H, I, rfl, q⟩
  · subst e1 e2
    have z1 : us = [] := List.eq_nil_of_length_eq_zero l1.symm
    have z2 : ws = [] := List.eq_nil_of_length_eq_zero l2.symm
    subst z1 z2
    exact SeqAt.RcAt.lists (A := X.A) (e := fun _ => true) p1.isList p2.isList rfl (by omega) (fun j h1 h2 => absurd h1 (Nat.not_lt_zero j)) _ _ _ _ ⟨.bl true, H, I, rfl, q⟩
theorem op_neLen {X : Cx} (hu : X.A.units + 65 < cLine) : OpR X (compareOp .NotEq) (rEqLen X.K true) := by
  intro pins s σ H x y v u Q I rx ry h
  obtain ⟨a, b, xs, ys, rfl, rfl, ha, hb, h⟩ := h
  cases rx
  cases ry
  obtain ⟨us, r1, p1, _⟩ := I.list ha
  obtain ⟨ws, r2, p2, _⟩ := I.list hb
  have l1 := r1.length
  have l2 := r2.length
  rcases h with ⟨hne, q⟩ | ⟨e1, e2, q⟩
  · exact SeqAt.RcNeAt.lists_lengths (A := X.A) p1.isList p2.isList (by
      rw [List.size_toArray, List.size_toArray, ← l1, ← l2]
      simpa using hne) (by omega) _ _ _ _ ⟨.bl true, H, I, rfl, q⟩
  · subst e1 e2
    have z1 : us = [] := List.eq_nil_of_length_eq_zero l1.symm
    have z2 : ws = [] := List.eq_nil_of_length_eq_zero l2.symm
    subst z1 z2
    exact SeqAt.RcNeAt.lists (A := X.A) (e := fun _ => true) p1.isList p2.isList rfl (by omega) (fun j h1 h2 => absurd h1 (Nat.not_lt_zero j)) _ _ _ _ ⟨.bl false, H, I, rfl, q⟩
def rEqQ (K : PySem.W.Frag) : R2 := fun x y H Q => rEqLen K false x y H Q ∨ rEqD K x y H Q
def rNeQ (K : PySem.W.Frag) : R2 := fun x y H Q => rEqLen K true x y H Q ∨ rNeD K x y H Q
theorem op_eqQ {X : Cx} (hu : X.A.units + 65 < cLine) : OpR X (compareOp .Eq) (rEqQ X.K) := (op_eqLen hu).or (op_eqD (by omega))
theorem op_neQ {X : Cx} (hu : X.A.units + 65 < cLine) : OpR X (compareOp .NotEq) (rNeQ X.K) := (op_neLen hu).or (op_neD (by omega))
theorem eqS_dp {x y : D} {c : Bool} {F H : Hp} {v u : V} (hf : eqS x y = some c) (e : Same F H) (rx : RepX K F H x v) (ry : RepX K F H y u) : Dp K H v x ∧ Dp K H u y ∧ SeqAt.shaped x = true ∧ SeqAt.shaped y = true ∧ c = PyData.eqv x y := by
  unfold eqS at hf
  split at hf
  · rename_i h
    cases hf
    rw [Bool.and_eq_true] at h
    exact ⟨rx.dp e h.1, ry.dp e h.2, h.1, h.2, rfl⟩
  · cases hf
theorem eq_any {x y : D} {c : Bool} {F H : Hp} {v u : V} (hf : cEq x y = some c) (e : Same F H) (rx : RepX K F H x v) (ry : RepX K F H y u) :
    (∃ a b xs ys, v = .ref a ∧ u = .ref b ∧ SqL K H a xs ∧ SqL K H b ys ∧ ((xs.length ≠ ys.length ∧ c = false) ∨ (xs = [] ∧ ys = [] ∧ c = true))) ∨ (Dp K H v x ∧ Dp K H u y ∧ SeqAt.shaped x = true ∧ SeqAt.shaped y = true ∧ c = PyData.eqv x y) := by
  unfold cEq at hf
  split at hf
  · rename_i xs ys
    obtain ⟨a, vs, rfl, h1, h2⟩ := id rx
    obtain ⟨b, us, rfl, h3, h4⟩ := id ry
    split at hf
    · rename_i hl
      split at hf
      · rename_i hz
        cases hf
        have z1 : vs = [] := List.eq_nil_of_length_eq_zero (by rw [h2.length, hz])
        have z2 : us = [] := List.eq_nil_of_length_eq_zero (by rw [h4.length, ← hl, hz])
        exact .inl ⟨a, b, vs, us, rfl, rfl, h1, h3, .inr ⟨z1, z2, rfl⟩⟩
      · exact .inr (eqS_dp hf e rx ry)
    · rename_i hl
      cases hf
      exact .inl ⟨a, b, vs, us, rfl, rfl, h1, h3, .inl ⟨by rw [h2.length, h4.length]; exact hl, rfl⟩⟩
  · exact .inr (eqS_dp hf e rx ry)
theorem o_eqQ : Op2B K cEq (rEqQ K) := by
  intro x y c F H v u Q hf e rx ry k
  rcases eq_any hf e rx ry with ⟨a, b, xs, ys, e1, e2, h1, h2, h⟩ | ⟨h1, h2, h3, h4, rfl⟩
  · refine .inl ⟨a, b, xs, ys, e1, e2, h1, h2, ?_⟩
    rcases h with ⟨h, rfl⟩ | ⟨h, h', rfl⟩
    · exact .inl ⟨h, k⟩
    · exact .inr ⟨h, h', k⟩
  · exact .inr ⟨x, y, h1, h2, h3, h4, k⟩
theorem o_neQ : Op2B K cNe (rNeQ K) := by
  intro x y c F H v u Q hf e rx ry k
  unfold cNe at hf
  obtain ⟨c', hc, rfl⟩ := Option.map_eq_some_iff.mp hf
  rcases eq_any hc e rx ry with ⟨a, b, xs, ys, e1, e2, h1, h2, h⟩ | ⟨h1, h2, h3, h4, rfl⟩
  · refine .inl ⟨a, b, xs, ys, e1, e2, h1, h2, ?_⟩
    rcases h with ⟨h, rfl⟩ | ⟨h, h', rfl⟩
    · exact .inl ⟨h, k⟩
    · exact .inr ⟨h, h', k⟩
  · exact .inr ⟨x, y, h1, h2, h3, h4, k⟩
/-! ### in, not in -/
def rInS (K : PySem.W.Frag) (neg : Bool) : R2 := fun x y H Q => ∃ d e ds, Dp K H x d ∧ Dp K H y e ∧ seqOf e = some ds ∧ SeqAt.shaped d = true ∧ SeqAt.shaped e = true ∧ Q (.bl (if neg then !(ds.any fun z => PyData.eqv z d) else ds.any fun z => PyData.eqv z d)) H
theorem op_inS2 {X : Cx} (hu : X.A.units + 65 < cLine) : OpR X (compareOp .In) (rInS X.K false) := by
  intro pins s σ H x y v u Q I rx ry h
  obtain ⟨d, e, ds, hd, he, hs, sd, se, q⟩ := h
  obtain ⟨as, r1⟩ := Dp.reads I d x v hd rx
  cases e with
  | list es =>
    cases hs
    obtain ⟨bs, r2⟩ := Dp.reads I _ y u he ry
    exact SeqAt.in_list_reads r2 r1 (SeqAt.canLay_of_shaped se) (SeqAt.canLay_of_shaped sd) (room_in_shaped sd hu) ⟨.bl _, H, I, rfl, q⟩
  | tuple es =>
    cases hs
    obtain ⟨bs, r2⟩ := Dp.reads I _ y u he ry
    exact SeqAt.in_tuple_reads r2 r1 (SeqAt.canLay_of_shaped se) (SeqAt.canLay_of_shaped sd) (room_in_shaped sd hu) ⟨.bl _, H, I, rfl, q⟩
  | _ => cases hs
theorem op_notInS2 {X : Cx} (hu : X.A.units + 65 < cLine) : OpR X (compareOp .NotIn) (rInS X.K true) := by
  intro pins s σ H x y v u Q I rx ry h
  obtain ⟨d, e, ds, hd, he, hs, sd, se, q⟩ := h
  obtain ⟨as, r1⟩ := Dp.reads I d x v hd rx
  cases e with
  | list es =>
    cases hs
    obtain ⟨bs, r2⟩ := Dp.reads I _ y u he ry
    exact SeqAt.notIn_list_reads r2 r1 (SeqAt.canLay_of_shaped se) (SeqAt.canLay_of_shaped sd) (room_in_shaped sd hu) ⟨.bl _, H, I, rfl, q⟩
  | tuple es =>
    cases hs
    obtain ⟨bs, r2⟩ := Dp.reads I _ y u he ry
    exact SeqAt.notIn_tuple_reads r2 r1 (SeqAt.canLay_of_shaped se) (SeqAt.canLay_of_shaped sd) (room_in_shaped sd hu) ⟨.bl _, H, I, rfl, q⟩
  | _ => cases hs
theorem o_in : Op2B K cIn (rInS K false) := by
  intro x y c F H v u Q hf e rx ry k
  unfold cIn at hf
  split at hf
  · rename_i ds hs
    split at hf
    · rename_i h
      cases hf
      rw [Bool.and_eq_true] at h
      exact ⟨x, y, ds, rx.dp e h.1, ry.dp e h.2, hs, h.1, h.2, k⟩
    · cases hf
  · cases hf
theorem o_notIn : Op2B K cNotIn (rInS K true) := by
  intro x y c F H v u Q hf e rx ry k
  unfold cNotIn at hf
  split at hf
  · rename_i ds hs
    split at hf
    · rename_i h
      cases hf
      rw [Bool.and_eq_true] at h
      exact ⟨x, y, ds, rx.dp e h.1, ry.dp e h.2, hs, h.1, h.2, k⟩
    · cases hf
  · cases hf
/-! ### is: against a bool or None -/
theorem cIsNone_v {F H : Hp} {x : D} {v : V} (rx : RepX K F H x v) : cIsNone x = some (decide (v = .non)) := by
  cases x with
  | none => rw [show v = V.non from rx]; rfl
  | bool b => rw [show v = V.bl b from rx]; rfl
  | int i => rw [show v = V.int i from rx]; rfl
  | str z => rw [show v = V.str z from rx]; rfl
  | list ds => obtain ⟨a, vs, q, _⟩ := rx; rw [q]; rfl
  | tuple ds => obtain ⟨a, vs, q, _⟩ := rx; rw [q]; rfl
  | dict ks => obtain ⟨a, q, _⟩ := rx; rw [q]; rfl
def rIsA : R2 := fun x y H Q => (y = .non ∧ Q (.bl (decide (x = .non))) H) ∨ rIsB x y H Q
def rIsNotA : R2 := fun x y H Q => (y = .non ∧ Q (.bl (!decide (x = .non))) H) ∨ rNotB x y H Q
theorem op_isA {X : Cx} : OpR X (compareOp .Is) rIsA := op_isN.or op_isBl
theorem op_isNotA {X : Cx} : OpR X (compareOp .IsNot) rIsNotA := op_notN.or op_notBl
theorem o_is : Op2B K cIs rIsA := by
  intro x y c F H v u Q hf e rx ry k
  unfold cIs at hf
  split at hf
  · rename_i b
    refine .inr ?_
    unfold cIsB at hf
    split at hf
    · cases hf; exact ⟨_, _, rx, ry, k⟩
    · cases hf
  · rw [cIsNone_v rx] at hf
    cases hf
    exact .inl ⟨ry, k⟩
  · cases hf
theorem o_isNot : Op2B K cIsNot rIsNotA := by
  intro x y c F H v u Q hf e rx ry k
  unfold cIsNot cIs at hf
  split at hf
  · rename_i b
    refine .inr ?_
    unfold cIsB at hf
    split at hf
    · cases hf; exact ⟨_, _, rx, ry, k⟩
    · cases hf
  · rw [cIsNone_v rx] at hf
    cases hf
    exact .inl ⟨ry, k⟩
  · cases hf
/-! ### + -/
def rAddB : R2 := fun x y H Q => ∃ b j, x = .bl b ∧ y = .int j ∧ Q (.int ((if b then 1 else 0) + j)) H
def rSubB : R2 := fun x y H Q => ∃ b j, x = .bl b ∧ y = .int j ∧ Q (.int ((if b then 1 else 0) - j)) H
theorem op_addB {X : Cx} : OpR X (binaryOp .Add) rAddB := by
  intro pins s σ H x y v u Q I rx ry h
  obtain ⟨b, j, rfl, rfl, q⟩ := h
  cases (show v = Value.bool b from rx)
  obtain ⟨t, rfl⟩ := ry
  exact IntBool.add_bool_int ⟨.int _, H, I.tok _, ⟨_, rfl⟩, q⟩
theorem op_subB {X : Cx} : OpR X (binaryOp .Sub) rSubB := by
  intro pins s σ H x y v u Q I rx ry h
  obtain ⟨b, j, rfl, rfl, q⟩ := h
  cases (show v = Value.bool b from rx)
  obtain ⟨t, rfl⟩ := ry
  exact IntBool.sub_bool_int ⟨.int _, H, I.tok _, ⟨_, rfl⟩, q⟩
/-- list + list, any two that are read -/
theorem list_add_any (l : Addr) (items : Array Value) (n : Nat) (b : Addr) (items2 : Array Value) (n2 : Nat) (sl sl2 : Array (Option Value)) (hc0 : items.size + items2.size ≤ sizeLine) :
    Meets (Builtin.«list.__add__» ⟨[.ref l, .ref b], []⟩) (fun _ R s => s.heap.get? l = some { cls := .type "list", dict := none, data := .seq items n, slots := sl } ∧ s.heap.get? b = some { cls := .type "list", dict := none, data := .seq items2 n2, slots := sl2 } ∧ R (.ok (.ret (Value.ref s.heap.objs.size))) { s with heap := s.heap.push { cls := Value.type "list", data := Data.seq (items ++ items2) }, toks := s.toks }) :=
  .of_wp fun prog w A R s h => by obtain ⟨hp, g, d, tk, os⟩ := s; obtain ⟨hl, hb, h⟩ := h; have f1 := AutoSeq1.idx_int; have f2 := AutoSeq1.sub_tuple_tuple; have f3 := AutoSeq1.sub_list_list; have f4 := AutoSeq1.sub_tuple_list; have f5 := AutoSeq1.sub_list_tuple; wp_walk using AutoSeq1.wpAny_loadPart' hl, AutoSeq1.wpAny_loadPart' hb; exact ⟨_, rfl, h⟩
def rCatL (K : PySem.W.Frag) : R2 := fun x y H Q => ∃ l b xs zs, x = .ref l ∧ y = .ref b ∧ SqL K H l xs ∧ SqL K H b zs ∧ xs.length + zs.length ≤ sizeLine ∧ ∀ p, H p = none → Q (.ref p) (upd H p (.lst (xs ++ zs)))
theorem op_catL {X : Cx} : OpR X (binaryOp .Add) (rCatL X.K) := by
  intro pins s σ H x y v u Q I rx ry h
  obtain ⟨l, b, xs, zs, rfl, rfl, hA, hB, hz, q⟩ := h
  cases rx
  cases ry
  obtain ⟨its, r, ⟨o, n, ho, hc, hd, hs⟩, hl⟩ := I.list hA
  obtain ⟨its2, r2, ⟨o2, n2, ho2, hc2, hd2, hs2⟩, hl2⟩ := I.list hB
  obtain ⟨oc, od, odt, osl⟩ := o
  obtain ⟨oc2, od2, odt2, osl2⟩ := o2
  simp only at hc hd hs hc2 hd2 hs2
  subst hc hd hs hc2 hd2 hs2
  have e1 := r.length
  have e2 := r2.length
  refine concat_meets ⟨_, ho, rfl⟩ ⟨_, ho2, rfl⟩ noFill_list_add seq_list_add PySem.F.slot_list_add PySem.F.entry_list_add (PySem.F.args_list_add_2 _ _) (list_add_any l its.toArray n b its2.toArray n2 osl osl2 (by rw [List.size_toArray, List.size_toArray]; omega)) ⟨ho, ho2, ?_⟩
  have ea : its.toArray ++ its2.toArray = (its ++ its2).toArray := by simp
  rw [ea]
  exact ⟨.ref _, _, I.lnew (t' := s.toks) (r.append r2) (by rw [List.length_append]; omega), rfl, q _ I.fresh⟩
def rAddA (K : PySem.W.Frag) : R2 := fun x y H Q => rI0 (fun i j => .int (i + j)) x y H Q ∨ rAddB x y H Q ∨ rCatL K x y H Q ∨ rCatA K x y H Q
theorem op_addA {X : Cx} : OpR X (binaryOp .Add) (rAddA X.K) := op_add.or (op_addB.or (op_catL.or op_catA))
theorem o_add : Op2 K dAdd (rAddA K) := by
  intro x y d F H v u Q hf e rx ry k
  unfold dAdd at hf
  split at hf
  · cases hf; exact .inl ⟨_, _, rx, ry, k _ F H (Gr.refl e) rfl⟩
  · cases hf; exact .inr (.inl ⟨_, _, rx, ry, k _ F H (Gr.refl e) rfl⟩)
  · rename_i xs ys
    unfold asList at hf
    split at hf
    · rename_i hl
      cases hf
      obtain ⟨a, vs, rfl, h1, h2⟩ := rx
      obtain ⟨b, us, rfl, h3, h4⟩ := ry
      have hlen : vs.length + us.length ≤ sizeLine := by
        rw [h2.length, h4.length, ← List.length_append]; exact hl
      refine .inr (.inr (.inr ⟨a, b, vs, us, rfl, rfl, tupT e h1, tupT e h3, hlen, fun z => ?_, fun _ z => ?_, fun _ _ p hp => ?_⟩))
      · have z' : xs = [] := by
          have l := h2.length
          rw [z] at l
          exact List.eq_nil_of_length_eq_zero l.symm
        subst z'
        exact k _ F H (Gr.refl e) ⟨b, us, rfl, h3, h4⟩
      · have z' : ys = [] := by
          have l := h4.length
          rw [z] at l
          exact List.eq_nil_of_length_eq_zero l.symm
        subst z'
        rw [List.append_nil] at k
        exact k _ F H (Gr.refl e) ⟨a, vs, rfl, h1, h2⟩
      · have g' := Gr.new e hp (.tup (vs ++ us))
        exact k _ _ _ g' ⟨p, vs ++ us, rfl, upd_same, (h2.append h4).mono g'.f⟩
    · cases hf
  · rename_i xs ys
    unfold asList at hf
    split at hf
    · rename_i hl
      cases hf
      obtain ⟨a, vs, rfl, h1, h2⟩ := rx
      obtain ⟨b, us, rfl, h3, h4⟩ := ry
      have hlen : vs.length + us.length ≤ sizeLine := by
        rw [h2.length, h4.length, ← List.length_append]; exact hl
      refine .inr (.inr (.inl ⟨a, b, vs, us, rfl, rfl, h1, h3, hlen, fun p hp => ?_⟩))
      have g' := Gr.new e hp (.lst (vs ++ us))
      exact k _ _ _ g' ⟨p, vs ++ us, rfl, .inl (.inl upd_same), (h2.append h4).mono g'.f⟩
    · cases hf
  · cases hf
theorem o_cat : Op2L K lCat (rAddA K) := by
  intro x y zs F H v u Q hf e rx ry k
  unfold lCat at hf
  split at hf
  · rename_i xs ys
    split at hf
    · rename_i hl
      cases hf
      obtain ⟨a, vs, rfl, h1, h2⟩ := rx
      obtain ⟨b, us, rfl, h3, h4⟩ := ry
      have hlen : vs.length + us.length ≤ sizeLine := by
        rw [h2.length, h4.length, ← List.length_append]; exact hl
      exact .inr (.inr (.inl ⟨a, b, vs, us, rfl, rfl, h1, h3, hlen, fun p hp => k p _ hp (h2.append h4)⟩))
    · cases hf
  · cases hf
theorem op_subA {X : Cx} : OpR X (binaryOp .Sub) (fun x y H Q => rI0 (fun i j => .int (i - j)) x y H Q ∨ rSubB x y H Q) := op_sub.or op_subB
/-! ### subscripts -/
theorem ixAt_N (n : Nat) (i : Int) : ixAt n i = ixN n i := rfl
theorem atD_get {xs : List D} {i : Int} {d : D} (h : atD xs i = some d) : ∃ j, ixN xs.length i = some j ∧ xs[j]? = some d := by
  unfold atD at h
  split at h
  · rename_i j hj
    split at h
    · rename_i x hx
      cases h
      exact ⟨j, hj, hx⟩
    · cases h
  · cases h
theorem RepL.atI {F : Hp} {xs : List D} {vs : List V} {i : Int} {d : D} (h : RepL K F xs vs) (hd : atD xs i = some d) : ∃ v, L2.atI vs i = some v ∧ Rep K F d v := by
  obtain ⟨j, h1, h2⟩ := atD_get hd
  obtain ⟨v, h3, h4⟩ := h.get h2
  refine ⟨v, ?_, h4⟩
  unfold L2.atI
  rw [h.length, h1]
  exact h3
theorem o_ix : Op2 K dIx (fun x y H Q => rIxL K x y H Q ∨ rIxT K x y H Q) := by
  intro x y d F H v u Q hf e rx ry k
  unfold dIx at hf
  split at hf
  · rename_i xs i
    obtain ⟨a, vs, rfl, h1, h2⟩ := rx
    obtain ⟨w, h3, h4⟩ := h2.atI hf
    exact .inl ⟨a, vs, i, w, rfl, ry, h1, h3, k _ F H (Gr.refl e) h4⟩
  · rename_i xs i
    obtain ⟨a, vs, rfl, h1, h2⟩ := rx
    obtain ⟨w, h3, h4⟩ := h2.atI hf
    exact .inr ⟨a, vs, i, w, rfl, ry, tupT e h1, h3, k _ F H (Gr.refl e) h4⟩
  · cases hf
  · cases hf
end
section
variable {X : Cx} {ec : EC} {W : WX} {e b c : Expr} {es rest : List Expr} {pos : Pos} {φ ψ χ : EX} {α β : EB}
theorem de_ix (ha : DX X ec W e φ) (hb : DX X ec W b ψ) (hs : PlainIx b := by exact fun _ _ => rfl) : DE X ec W (.Subscript e b pos) (v2 dIx φ ψ) := peImp (pe_ix (ix_list.or ix_tup) ha hb hs) fun _ _ _ h => use2 o_ix h
/-! ### slices -/
def oPart : Option Expr → Option EX → Prop := fun a b => a.isSome = b.isSome
theorem po_part {K : PySem.W.Frag} {σ : L2.St} {F H : Hp} {P : Option Int → Hp → Hp → Prop} {r : Env} {a : EX} (q : Thn K ec W (vOpt (some a) r) σ F H P) : Thn K ec W (a r) σ F H fun d F' H' => ∃ i, d = .int i ∧ P (some i) F' H' := by
  have q' : Thn K ec W (rb (a r) fun x => match x with | .int i => ok (some i) | _ => none) σ F H P := q
  revert q'
  match a r with
  | none => exact fun z => z
  | some (.error _) => exact fun z => z
  | some (.ok d) =>
    intro z F' H' g
    cases d with
    | int i => exact ⟨i, rfl, (show Thn K ec W (ok (some i)) σ F H P from z) F' H' g⟩
    | _ => exact False.elim z
/-- a part of a slice: none, or an int -/
inductive DO (X : Cx) (ec : EC) (W : WX) : Option Expr → Option EX → Prop where
  | non : DO X ec W none none
  | som {e : Expr} {a : EX} (h : DX X ec W e a) : DO X ec W (some e) (some a)
def tO (K : PySem.W.Frag) (ec : EC) (W : WX) (a : Option EX) : TO := fun σ H Q => ∃ r F F0 B, SR K F0 B r σ H F ∧ Thn K ec W (vOpt a r) σ F H fun o F' H' => Q o H'
theorem DO.po {o : Option Expr} {a : Option EX} (h : DO X ec W o a) : PO X o (tO X.K ec W a) := by
  cases h with
  | non => exact ⟨fun pins s σ H Q I ⟨r, F, F0, B, S, q⟩ => po_none.run pins s σ H Q I (Thn.ok S.sub q)⟩
  | som h => exact ⟨fun pins s σ H Q I ⟨r, F, F0, B, S, q⟩ => (po_some h).run pins s σ H Q I ⟨r, F, F0, B, S, (po_part q).imp fun d F1 H1 _ g1 ⟨i, ei, h1⟩ v rv => by
      subst ei
      exact ⟨i, rv, h1⟩⟩⟩
end
end DL
/-! Slices, built-ins. -/
namespace DL
open PySem PySem.Spec PyProof.Rows L2

theorem cutAt_sIx (n d : Nat) (i : Option Int) : cutAt n d i = HT.sIx n d i := by cases i <;> rfl
section
variable {X : Cx} {ec : EC} {W : WX} {e b c : Expr} {es rest : List Expr} {pos p2 : Pos} {φ ψ χ : EX} {α β : EB} {lo hi : Option Expr} {ol oh : Option EX}
theorem de_cut (ha : DX X ec W e φ) (hl : DO X ec W lo ol) (hh : DO X ec W hi oh) : DE X ec W (.Subscript e (.Slice lo hi none p2) pos) (vCut φ ol oh) := peImp (pe_slice (sl_list.or sl_tupA) ha hl.po hh.po) fun σ H Q ⟨r, F, F0, B, S, q⟩ => by
  refine ⟨r, F, F0, B, S, (Thn.bind q).imp fun x F1 H1 ex1 g1 h1 v rv => ⟨r, F1, F0, B, S.grow g1, (Thn.bind h1).imp fun i F2 H2 ex2 g2 h2 => ⟨r, F2, F0, B, (S.grow g1).grow g2, (Thn.bind h2).imp fun j F3 H3 ex3 g3 h3 => ?_⟩⟩⟩
  obtain ⟨d, ed, k⟩ := h3.po
  have rv3 := (rv.mono g2).mono g3
  unfold dCut at ed
  split at ed
  · cases ed
    obtain ⟨a, vs, rfl, h4, h5⟩ := rv3
    refine .inl ⟨a, vs, rfl, h4, fun p hp => ?_⟩
    have g' := Gr.new g3.i hp (.lst (cutV vs i j))
    exact k _ _ g' _ ⟨p, _, rfl, .inl (.inl upd_same), (h5.cut i j).mono g'.f⟩
  · rename_i xs
    cases ed
    obtain ⟨a, vs, rfl, h4, h5⟩ := rv3
    refine .inr ⟨a, vs, rfl, tupT g3.i h4, fun z => ?_, fun _ p hp => ?_⟩
    · have e1 : cutV vs i j = vs := by
        unfold cutV
        rw [z.1, z.2, List.drop_zero, Nat.sub_zero, List.take_length]
      have e2 : cutD xs i j = xs := by
        unfold cutD
        rw [cutAt_sIx, cutAt_sIx, ← h5.length, z.1, z.2, List.drop_zero, Nat.sub_zero, h5.length, List.take_length]
      rw [e2] at k
      exact k F3 H3 (Gr.refl g3.i) _ ⟨a, vs, rfl, h4, h5⟩
    · have g' := Gr.new g3.i hp (.tup (cutV vs i j))
      exact k _ _ g' _ ⟨p, _, rfl, upd_same, (h5.cut i j).mono g'.f⟩
  · cases ed
theorem dl_cut (ha : DX X ec W e φ) (hl : DO X ec W lo ol) (hh : DO X ec W hi oh) : DLi X ec W (.Subscript e (.Slice lo hi none p2) pos) (lCutE φ ol oh) := peImp (pe_slice sl_list ha hl.po hh.po) fun σ H Q ⟨r, F, F0, B, S, q⟩ => by
  refine ⟨r, F, F0, B, S, (Thn.bind q).imp fun x F1 H1 ex1 g1 h1 v rv => ⟨r, F1, F0, B, S.grow g1, (Thn.bind h1).imp fun i F2 H2 ex2 g2 h2 => ⟨r, F2, F0, B, (S.grow g1).grow g2, (Thn.bind h2).imp fun j F3 H3 ex3 g3 h3 => ?_⟩⟩⟩
  obtain ⟨d, ed, k⟩ := h3.po
  have rv3 := (rv.mono g2).mono g3
  unfold lCut at ed
  split at ed
  · cases ed
    obtain ⟨a, vs, rfl, h4, h5⟩ := rv3
    exact ⟨a, vs, rfl, h4, fun p hp => k F3 H3 (Gr.refl g3.i) p _ hp (h5.cut i j)⟩
  · cases ed
/-! ### calls of built-ins -/
theorem pa1 (ha : DX X ec W e φ) (hs : starEach [e] X.env = (false, eval e X.env) :: starEach [] X.env := by rfl) : PA X [e] (tAsX X.K ec W φ) := paImp (pa_cons ha pa_nil hs) fun σ H Q ⟨r, F, F0, B, S, q⟩ => ⟨r, F, F0, B, S, q⟩
def tAsX2 (K : PySem.W.Frag) (ec : EC) (W : WX) (a b : EX) : TA := fun σ H Q => ∃ r F F0 B, SR K F0 B r σ H F ∧ Thn K ec W (rb (a r) fun x => rb (b r) fun y => ok (x, y)) σ F H fun d F' H' => ∀ v u, RepX K F' H' d.1 v → RepX K F' H' d.2 u → Q [v, u] H'
theorem pa2 (ha : DX X ec W e φ) (hb : DX X ec W b ψ) (hs : starEach [e, b] X.env = (false, eval e X.env) :: starEach [b] X.env := by rfl) (hs2 : starEach [b] X.env = (false, eval b X.env) :: starEach [] X.env := by rfl) : PA X [e, b] (tAsX2 X.K ec W φ ψ) :=
  paImp (pa_cons ha (pa_cons hb pa_nil hs2) hs) fun σ H Q ⟨r, F, F0, B, S, q⟩ =>
    ⟨r, F, F0, B, S, (Thn.bind q).imp fun x F1 H1 _ g1 h1 v rv => ⟨r, F1, F0, B, S.grow g1, (Thn.bind h1).imp fun y F2 H2 _ g2 h2 u ru => Thn.ok g2.i (a := (x, y)) h2 v u (rv.mono g2) ru⟩⟩
abbrev RV := List V → Hp → VK → Prop
def B1 (K : PySem.W.Frag) (f : D → Option D) (t : RV) : Prop := ∀ (x d : D) (F H : Hp) (v : V) (Q : VK), f x = some d → Same F H → RepX K F H x v → (∀ w F' H', Gr F H F' H' → Rep K F' d w → Q w H') → t [v] H Q
def B1B (K : PySem.W.Frag) (f : D → Option Bool) (t : RV) : Prop := ∀ (x : D) (c : Bool) (F H : Hp) (v : V) (Q : VK), f x = some c → Same F H → RepX K F H x v → Q (.bl c) H → t [v] H Q
def B1L (K : PySem.W.Frag) (f : D → Option (List D)) (t : RV) : Prop := ∀ (x : D) (xs : List D) (F H : Hp) (v : V) (Q : VK), f x = some xs → Same F H → RepX K F H x v → (∀ p vs, H p = none → RepL K F xs vs → Q (.ref p) (upd H p (.lst vs))) → t [v] H Q
def B2 (K : PySem.W.Frag) (f : D → D → Option D) (t : RV) : Prop := ∀ (x y d : D) (F H : Hp) (v u : V) (Q : VK), f x y = some d → Same F H → RepX K F H x v → RepX K F H y u → (∀ w F' H', Gr F H F' H' → Rep K F' d w → Q w H') → t [v, u] H Q
section
variable {x : Str} {id T : String} {t : RV} {p : Pos}
theorem b1_use {K : PySem.W.Frag} {f : D → Option D} (hs : B1 K f t) {σ : L2.St} {H : Hp} {Q : VK} (h : tD K ec W (v1 f φ) σ H Q) : tCB t (tAsX K ec W φ) σ H Q := by
  obtain ⟨r, F, F0, B, S, q⟩ := h
  refine ⟨r, F, F0, B, S, (Thn.bind q).imp fun x F1 H1 _ g1 h1 v rv => ?_⟩
  obtain ⟨d, ed, k⟩ := h1.po
  exact hs x d F1 H1 v Q ed g1.i rv fun w F' H' g' rw' => k F' H' g' w rw'
theorem b1B_use {K : PySem.W.Frag} {f : D → Option Bool} (hs : B1B K f t) {σ : L2.St} {H : Hp} {Q : VK} (h : tD K ec W (vB (c1 f φ)) σ H Q) : tCB t (tAsX K ec W φ) σ H Q := by
  obtain ⟨r, F, F0, B, S, q⟩ := h
  have q1 : Thn K ec W (rb (φ r) fun x => rb (po (f x)) fun b => ok (PyData.bool b)) σ F H fun d F' H' => ∀ v, Rep K F' d v → Q v H' := by
    have q0 : Thn K ec W (rb (rb (φ r) fun x => po (f x)) fun b => ok (PyData.bool b)) σ F H fun d F' H' => ∀ v, Rep K F' d v → Q v H' := q
    revert q0
    match φ r with
    | none => exact fun z => z
    | some (.error _) => exact fun z => z
    | some (.ok k) => exact fun z => z
  refine ⟨r, F, F0, B, S, (Thn.bind q1).imp fun x F1 H1 _ g1 h1 v rv => ?_⟩
  match ef : f x with
  | none =>
    rw [ef] at h1
    exact False.elim h1
  | some d =>
    rw [ef] at h1
    exact hs x d F1 H1 v Q ef g1.i rv (Thn.ok g1.i (a := PyData.bool d) h1 _ rfl)
theorem b1L_use {K : PySem.W.Frag} {f : D → Option (List D)} (hs : B1L K f t) {σ : L2.St} {H : Hp} {Q : VK} (h : tL K ec W (l1 f φ) σ H Q) : tCB t (tAsX K ec W φ) σ H Q := by
  obtain ⟨r, F, F0, B, S, q⟩ := h
  refine ⟨r, F, F0, B, S, (Thn.bind q).imp fun x F1 H1 _ g1 h1 v rv => ?_⟩
  obtain ⟨d, ed, k⟩ := h1.po
  exact hs x d F1 H1 v Q ed g1.i rv fun p vs hp hv => k F1 H1 (Gr.refl g1.i) p vs hp hv
theorem b2_use {K : PySem.W.Frag} {f : D → D → Option D} (hs : B2 K f t) {σ : L2.St} {H : Hp} {Q : VK} (h : tD K ec W (v2 f φ ψ) σ H Q) : tCB t (tAsX2 K ec W φ ψ) σ H Q := by
  obtain ⟨r, F, F0, B, S, q⟩ := h
  have q1 : Thn K ec W (rb (rb (φ r) fun x => rb (ψ r) fun y => ok (x, y)) fun z => po (f z.1 z.2)) σ F H fun d F' H' => ∀ v, Rep K F' d v → Q v H' := by
    have q0 : Thn K ec W (rb (φ r) fun x => rb (ψ r) fun y => po (f x y)) σ F H fun d F' H' => ∀ v, Rep K F' d v → Q v H' := q
    revert q0
    match φ r with
    | none => exact fun z => z
    | some (.error _) => exact fun z => z
    | some (.ok k) =>
      match ψ r with
      | none => exact fun z => z
      | some (.error _) => exact fun z => z
      | some (.ok k) => exact fun z => z
  refine ⟨r, F, F0, B, S, (Thn.bind q1).imp fun z F1 H1 _ g1 h1 v u rv ru => ?_⟩
  obtain ⟨d, ed, k⟩ := h1.po
  exact hs z.1 z.2 d F1 H1 v u Q ed g1.i rv ru fun w F' H' g' rw' => k F' H' g' w rw'
variable (hg : Gl X x) (hm : X.mg x = none)
theorem de_b1 {f : D → Option D} (hc : CallR X (.builtin id) t) (hs : B1 X.K f t) (hg : Gl X x) (hm : X.mg x = none) (ha : DX X ec W e φ) (hv : bootBuiltins x = some (.builtin id)) (hn : x ≠ "__name__" := by decide) (hdb : (x == ("__debug__" : Str)) = false := by decide)
    (he : starEach [e] X.env = (false, eval e X.env) :: starEach [] X.env := by rfl) : DE X ec W (.Call (.Name x p) [e] [] pos) (v1 f φ) := peImp (pe_callB hc hg hm hv (pa1 ha he) hn hdb he (by rfl)) fun _ _ _ h => b1_use hs h
theorem db_b1 {f : D → Option Bool} (hc : CallR X (.builtin id) t) (hs : B1B X.K f t) (hg : Gl X x) (hm : X.mg x = none) (ha : DX X ec W e φ) (hv : bootBuiltins x = some (.builtin id)) (hn : x ≠ "__name__" := by decide) (hdb : (x == ("__debug__" : Str)) = false := by decide)
    (he : starEach [e] X.env = (false, eval e X.env) :: starEach [] X.env := by rfl) : DB X ec W (.Call (.Name x p) [e] [] pos) (c1 f φ) := peImp (pe_callB hc hg hm hv (pa1 ha he) hn hdb he (by rfl)) fun _ _ _ h => b1B_use hs h
theorem dl_b1 {f : D → Option (List D)} (hc : CallR X (.builtin id) t) (hs : B1L X.K f t) (hg : Gl X x) (hm : X.mg x = none) (ha : DX X ec W e φ) (hv : bootBuiltins x = some (.builtin id)) (hn : x ≠ "__name__" := by decide) (hdb : (x == ("__debug__" : Str)) = false := by decide)
    (he : starEach [e] X.env = (false, eval e X.env) :: starEach [] X.env := by rfl) : DLi X ec W (.Call (.Name x p) [e] [] pos) (l1 f φ) := peImp (pe_callB hc hg hm hv (pa1 ha he) hn hdb he (by rfl)) fun _ _ _ h => b1L_use hs h
theorem de_t1 {f : D → Option D} (hc : CallR X (.type T) t) (hs : B1 X.K f t) (hg : Gl X x) (hm : X.mg x = none) (ha : DX X ec W e φ) (hv : bootBuiltins x = some (.type T)) (hn : x ≠ "__name__" := by decide) (hdb : (x == ("__debug__" : Str)) = false := by decide)
    (he : starEach [e] X.env = (false, eval e X.env) :: starEach [] X.env := by rfl) : DE X ec W (.Call (.Name x p) [e] [] pos) (v1 f φ) := peImp (pe_callTy hc hg hm hv (pa1 ha he) hn hdb he (by rfl)) fun _ _ _ h => b1_use hs h
theorem dl_t1 {f : D → Option (List D)} (hc : CallR X (.type T) t) (hs : B1L X.K f t) (hg : Gl X x) (hm : X.mg x = none) (ha : DX X ec W e φ) (hv : bootBuiltins x = some (.type T)) (hn : x ≠ "__name__" := by decide) (hdb : (x == ("__debug__" : Str)) = false := by decide)
    (he : starEach [e] X.env = (false, eval e X.env) :: starEach [] X.env := by rfl) : DLi X ec W (.Call (.Name x p) [e] [] pos) (l1 f φ) := peImp (pe_callTy hc hg hm hv (pa1 ha he) hn hdb he (by rfl)) fun _ _ _ h => b1L_use hs h
theorem de_b2 {f : D → D → Option D} (hc : CallR X (.builtin id) t) (hs : B2 X.K f t) (hg : Gl X x) (hm : X.mg x = none) (ha : DX X ec W e φ) (hb : DX X ec W b ψ) (hv : bootBuiltins x = some (.builtin id)) (hn : x ≠ "__name__" := by decide) (hdb : (x == ("__debug__" : Str)) = false := by decide)
    (he : starEach [e, b] X.env = (false, eval e X.env) :: starEach [b] X.env := by rfl) (he2 : starEach [b] X.env = (false, eval b X.env) :: starEach [] X.env := by rfl) (hpl : (backTo pos (starEach [b] X.env)).any (·.1) = false := by rfl) :
    DE X ec W (.Call (.Name x p) [e, b] [] pos) (v2 f φ ψ) := peImp (pe_callB hc hg hm hv (pa2 ha hb he he2) hn hdb he hpl) fun _ _ _ h => b2_use hs h
end
end
section
variable {K : PySem.W.Frag}
def rLen (K : PySem.W.Frag) : RV := fun xs H Q => ∃ p ys, xs = [.ref p] ∧ (SqL K H p ys ∨ SqT K H p ys) ∧ Q (.int ys.length) H
theorem b_len : B1 K dLen (rLen K) := by
  intro x d F H v Q hf e rx k
  unfold dLen at hf
  split at hf
  · cases hf
    obtain ⟨a, vs, rfl, h1, h2⟩ := rx
    exact ⟨a, vs, rfl, .inl h1, by rw [h2.length]; exact k _ F H (Gr.refl e) rfl⟩
  · cases hf
    obtain ⟨a, vs, rfl, h1, h2⟩ := rx
    exact ⟨a, vs, rfl, .inr (tupT e h1), by rw [h2.length]; exact k _ F H (Gr.refl e) rfl⟩
  · cases hf
def rInt1 : RV := fun xs H Q => (∃ i, xs = [.int i] ∧ Q (.int i) H) ∨ ∃ k, xs = [.bl k] ∧ Q (.int (if k then 1 else 0)) H
theorem b_int : B1 K dInt rInt1 := by
  intro x d F H v Q hf e rx k
  unfold dInt at hf
  split at hf
  · cases hf; exact .inl ⟨_, by rw [show v = _ from rx], k _ F H (Gr.refl e) rfl⟩
  · cases hf; exact .inr ⟨_, by rw [show v = _ from rx], k _ F H (Gr.refl e) rfl⟩
  · cases hf
def rMax2 : RV := fun xs H Q => ∃ i j, xs = [.int i, .int j] ∧ Q (.int (if j > i then j else i)) H
def rMin2 : RV := fun xs H Q => ∃ i j, xs = [.int i, .int j] ∧ Q (.int (if j < i then j else i)) H
theorem b_max : B2 K dMax rMax2 := by
  intro x y d F H v u Q hf e rx ry k
  unfold dMax at hf
  split at hf
  · cases hf; exact ⟨_, _, by rw [show v = _ from rx, show u = _ from ry], k _ F H (Gr.refl e) rfl⟩
  · cases hf
theorem b_min : B2 K dMin rMin2 := by
  intro x y d F H v u Q hf e rx ry k
  unfold dMin at hf
  split at hf
  · cases hf; exact ⟨_, _, by rw [show v = _ from rx, show u = _ from ry], k _ F H (Gr.refl e) rfl⟩
  · cases hf
def rListOf (K : PySem.W.Frag) : RV := fun xs H Q => ∃ p ys, xs = [.ref p] ∧ (SqL K H p ys ∨ SqT K H p ys) ∧ ∀ l, H l = none → Q (.ref l) (upd H l (.lst ys))
theorem b_list : B1L K lOf (rListOf K) := by
  intro x xs F H v Q hf e rx k
  unfold lOf at hf
  split at hf
  · cases hf
    obtain ⟨a, vs, rfl, h1, h2⟩ := rx
    exact ⟨a, vs, rfl, .inl h1, fun l hl => k l vs hl h2⟩
  · cases hf
    obtain ⟨a, vs, rfl, h1, h2⟩ := rx
    exact ⟨a, vs, rfl, .inr (tupT e h1), fun l hl => k l vs hl h2⟩
  · cases hf
def rTupOf (K : PySem.W.Frag) : RV := fun xs H Q => ∃ p ys, xs = [.ref p] ∧ ((SqL K H p ys ∧ ∀ l, H l = none → Q (.ref l) (upd H l (.tup ys))) ∨ (SqT K H p ys ∧ Q (.ref p) H))
theorem b_tup : B1 K dTup (rTupOf K) := by
  intro x d F H v Q hf e rx k
  unfold dTup at hf
  split at hf
  · cases hf
    obtain ⟨a, vs, rfl, h1, h2⟩ := rx
    refine ⟨a, vs, rfl, .inl ⟨h1, fun l hl => ?_⟩⟩
    have g' := Gr.new e hl (.tup vs)
    exact k _ _ _ g' ⟨l, vs, rfl, upd_same, h2.mono g'.f⟩
  · cases hf
    obtain ⟨a, vs, rfl, h1, h2⟩ := rx
    exact ⟨a, vs, rfl, .inr ⟨tupT e h1, k _ F H (Gr.refl e) ⟨a, vs, rfl, h1, h2⟩⟩⟩
  · cases hf
theorem bools_rep {F : Hp} : ∀ {ds : List D} {vs : List V} {bs : List Bool}, RepL K F ds vs → bools ds = some bs → vs = bs.map V.bl
  | [], _, _, h, hb => by
    cases hb
    exact h
  | .bool b :: ds, _, bs, ⟨v, r, q, h1, h2⟩, hb => by
    unfold bools at hb
    cases eb : bools ds with
    | none => rw [eb] at hb; cases hb
    | some cs =>
      rw [eb] at hb
      cases hb
      rw [q, show v = V.bl b from h1, bools_rep h2 eb]
      rfl
  | .none :: _, _, _, _, hb => by cases hb
  | .int _ :: _, _, _, _, hb => by cases hb
  | .str _ :: _, _, _, _, hb => by cases hb
  | .list _ :: _, _, _, _, hb => by cases hb
  | .tuple _ :: _, _, _, _, hb => by cases hb
  | .dict _ :: _, _, _, _, hb => by cases hb
theorem b_all : B1B K cAll (rAll K) := by
  intro x c F H v Q hf e rx k
  unfold cAll at hf
  split at hf
  · rename_i xs
    split at hf
    · rename_i bs hb
      cases hf
      obtain ⟨a, vs, rfl, h1, h2⟩ := rx
      exact ⟨a, bs, rfl, (by rw [← bools_rep h2 hb]; exact h1), k⟩
    · cases hf
  · cases hf
theorem b_any : B1B K cAny (rAny K) := by
  intro x c F H v Q hf e rx k
  unfold cAny at hf
  split at hf
  · rename_i xs
    split at hf
    · rename_i bs hb
      cases hf
      obtain ⟨a, vs, rfl, h1, h2⟩ := rx
      exact ⟨a, bs, rfl, (by rw [← bools_rep h2 hb]; exact h1), k⟩
    · cases hf
  · cases hf
/-! ### isinstance -/
theorem RepX.ty {F H : Hp} (e : Same F H) {x : D} {v : V} (rx : RepX K F H x v) : TyX K H v (.type (tyName x)) := by
  cases x with
  | none => rw [show v = V.non from rx]; exact .base .non
  | bool b => rw [show v = V.bl b from rx]; exact .base (.bl b)
  | int i => rw [show v = V.int i from rx]; exact .base (.int i)
  | str z => rw [show v = V.str z from rx]; exact .base (.str z)
  | list ds =>
    obtain ⟨a, vs, rfl, h1, h2⟩ := rx
    rcases h1 with (h | ⟨o, h⟩) | ⟨o, its, n, hk, hc, _⟩
    · exact .base (.lst h)
    · exact .base (.frz h)
    · exact .kList hk hc
  | tuple ds =>
    obtain ⟨a, vs, rfl, h1, h2⟩ := rx
    exact .base (.tup (e _ _ h1))
  | dict ks =>
    obtain ⟨a, rfl, ⟨_, ks, h1⟩ | ⟨ks, h1, _⟩⟩ := rx
    · exact .base (.dK (e _ _ h1))
    · exact .base (.dT (e _ _ h1))
def isKind (T : String) : Prop := ∀ x : D, kitB (tyName x) T = some (isInst T x)
theorem kind_of {T : String} (h : (["NoneType", "bool", "int", "str", "list", "tuple", "dict"].all fun n => kitB n T == some (n == T || (T == "int" && n == "bool"))) = true) : isKind T := by
  intro x
  have h' := List.all_eq_true.mp h
  cases x with
  | none => exact eq_of_beq (h' "NoneType" (by decide))
  | bool b => exact eq_of_beq (h' "bool" (by decide))
  | int i => exact eq_of_beq (h' "int" (by decide))
  | str z => exact eq_of_beq (h' "str" (by decide))
  | list ds => exact eq_of_beq (h' "list" (by decide))
  | tuple ds => exact eq_of_beq (h' "tuple" (by decide))
  | dict ks => exact eq_of_beq (h' "dict" (by decide))
theorem kind_int : isKind "int" := kind_of (by decide +kernel)
theorem kind_bool : isKind "bool" := kind_of (by decide +kernel)
theorem kind_str : isKind "str" := kind_of (by decide +kernel)
theorem kind_list : isKind "list" := kind_of (by decide +kernel)
theorem kind_tuple : isKind "tuple" := kind_of (by decide +kernel)
theorem kind_dict : isKind "dict" := kind_of (by decide +kernel)
end
section
variable {X : Cx} {ec : EC} {W : WX} {e : Expr} {pos p p2 : Pos} {φ : EX}
theorem db_isi {T : String} {tn : Str} (kT : isKind T) (hg : Gl X "isinstance") (hm : X.mg "isinstance" = none) (hg2 : Gl X tn) (hm2 : X.mg tn = none) (hv2 : bootBuiltins tn = some (.type T)) (ha : DX X ec W e φ) (hn2 : tn ≠ "__name__" := by decide) (hdb2 : (tn == ("__debug__" : Str)) = false := by decide)
    (he : starEach [e, .Name tn p2] X.env = (false, eval e X.env) :: starEach [.Name tn p2] X.env := by rfl) (he2 : starEach [.Name tn p2] X.env = (false, eval (.Name tn p2) X.env) :: starEach [] X.env := by rfl) (hpl : (backTo pos (starEach [.Name tn p2] X.env)).any (·.1) = false := by rfl) :
    DB X ec W (.Call (.Name "isinstance" p) [e, .Name tn p2] [] pos) (c1 (cIsi T) φ) :=
  peImp (pe_callB call_isi hg hm boot_isinstance (pa_cons ha (pa_cons (pe_bltn (v := .ty T) hg2 hm2 hv2 rfl hn2 hdb2) pa_nil he2) he) (by decide) (by decide) he hpl) fun σ H Q h => by
    obtain ⟨r, F, F0, B, S, q⟩ := h
    have q1 : Thn X.K ec W (rb (φ r) fun x => ok (PyData.bool (isInst T x))) σ F H fun d F' H' => ∀ v, Rep X.K F' d v → Q v H' := by
      have q0 : Thn X.K ec W (rb (rb (φ r) fun x => po (cIsi T x)) fun b => ok (PyData.bool b)) σ F H fun d F' H' => ∀ v, Rep X.K F' d v → Q v H' := q
      revert q0
      match φ r with
      | none => exact fun z => z
      | some (.error _) => exact fun z => z
      | some (.ok k) => exact fun z => z
    exact ⟨r, F, F0, B, S, (Thn.bind q1).imp fun x F1 H1 _ g1 h1 v rv =>
      ⟨v, .ty T, .type (tyName x), .type T, isInst T x, rfl, .ty T, rv.ty g1.i, kit_ty (kT x), Thn.ok g1.i (a := PyData.bool (isInst T x)) h1 _ rfl⟩⟩
end
end DL
/-! What is walked; targets; comprehensions. -/
namespace DL
open PySem PySem.Spec PyProof.Rows L2

/-- J gives the data xs, as long as what stands in Bh stands; the items lie in Fb -/
def IterOk (K : PySem.W.Frag) (Bh Fb : Hp) (J : It) (xs : List D) : Prop := ∃ (G : Hp → Prop) (Y : Nat → Hp → V → Hp → Prop), Walk J xs.length G Y ∧ (∀ H, Same Bh H → G H) ∧
  ∀ (i : Nat) (d : D) (H : Hp) (x : V) (H' F : Hp), xs[i]? = some d → Same Bh H → Same Fb F → Same F H → Y i H x H' → ∃ F', Gr F H F' H' ∧ Rep K F' d x
theorem IterOk.weak {K : PySem.W.Frag} {B1 B2 Fb : Hp} {J : It} {xs : List D} (e : Same B1 B2) (h : IterOk K B1 Fb J xs) : IterOk K B2 Fb J xs := by
  obtain ⟨G, Y, w, h1, h2⟩ := h
  exact ⟨G, Y, w, fun H q => h1 H (e.trans q), fun i d H x H' F hd q => h2 i d H x H' F hd (e.trans q)⟩
def tI (K : PySem.W.Frag) (ec : EC) (W : WX) (a : EL) : TI := fun σ H R => ∃ r F F0 B, SR K F0 B r σ H F ∧ Thn K ec W (a r) σ F H fun xs F' H' => ∀ J, IterOk K F' F' J xs → R J H'
/-- within an expression: an own list may be walked -/
def tIX (K : PySem.W.Frag) (ec : EC) (W : WX) (a : EL) : TI := fun σ H R => ∃ r F F0 B, SR K F0 B r σ H F ∧ Thn K ec W (a r) σ F H fun xs F' H' => ∀ J, IterOk K H' F' J xs → R J H'
theorem piImp {X : Cx} {tg e : Expr} {t t' : TI} (h : PI X tg e t) (f : ∀ σ H R, t' σ H R → t σ H R) : PI X tg e t' := ⟨fun pins s σ H R I q => h.run pins s σ H R I (f σ H R q)⟩
abbrev DI (X : Cx) (ec : EC) (W : WX) (tg e : Expr) (a : EL) : Prop := PI X tg e (tI X.K ec W a)
abbrev DIX (X : Cx) (ec : EC) (W : WX) (tg e : Expr) (a : EL) : Prop := PI X tg e (tIX X.K ec W a)
theorem DI.x {X : Cx} {ec : EC} {W : WX} {tg e : Expr} {a : EL} (h : DI X ec W tg e a) : DIX X ec W tg e a := piImp h fun σ H R ⟨r, F, F0, B, S, q⟩ =>
  ⟨r, F, F0, B, S, q.imp fun xs F1 H1 _ g1 k J hJ => k J (hJ.weak g1.i)⟩
theorem iter_list {K : PySem.W.Frag} {Bh Fb : Hp} {a : Addr} {vs : List V} {xs : List D} (h : SqL K Bh a vs) (hr : RepL K Fb xs vs) : IterOk K Bh Fb (Itl K a) xs := by
  refine ⟨_, _, hr.length ▸ walk_list (xs := vs), fun H q => q.seq h, fun i d H x H' F hd _ f e y => ?_⟩
  obtain ⟨rfl, hx⟩ := y
  obtain ⟨v, h1, h2⟩ := hr.get hd
  rw [h1] at hx
  cases hx
  exact ⟨F, Gr.refl e, h2.mono f⟩
theorem iter_tup {K : PySem.W.Frag} {Bh Fb : Hp} {a : Addr} {vs : List V} {xs : List D} (h : SqT K Bh a vs) (hr : RepL K Fb xs vs) : IterOk K Bh Fb (Itt K a) xs := by
  refine ⟨_, _, hr.length ▸ walk_tup (xs := vs), fun H q => seqT q h, fun i d H x H' F hd _ f e y => ?_⟩
  obtain ⟨rfl, hx⟩ := y
  obtain ⟨v, h1, h2⟩ := hr.get hd
  rw [h1] at hx
  cases hx
  exact ⟨F, Gr.refl e, h2.mono f⟩
theorem rng_get {lo : Int} {n i : Nat} {d : D} (h : (rng lo n)[i]? = some d) : d = .int (lo + i) := by
  unfold rng at h
  rw [List.getElem?_map] at h
  cases e : (List.range n)[i]? with
  | none => rw [e] at h; cases h
  | some k =>
    rw [e] at h
    have hk : k = i := by
      have h2 := List.getElem?_eq_some_iff.mp e
      obtain ⟨h3, h4⟩ := h2
      simpa using h4.symm
    subst hk
    exact (Option.some.inj h).symm
theorem rng_len (lo : Int) (n : Nat) : (rng lo n).length = n := by
  unfold rng
  rw [List.length_map, List.length_range]
theorem iter_rng {K : PySem.W.Frag} {Bh Fb : Hp} {lo : Int} {n : Nat} : IterOk K Bh Fb (Itr lo n) (rng lo n) := by
  refine ⟨fun _ => True, YFn fun i => .int (lo + i), by rw [rng_len]; exact walk_range, fun _ _ => trivial, fun i d H x H' F hd _ f e y => ?_⟩
  obtain ⟨rfl, rfl⟩ := y
  rw [rng_get hd]
  exact ⟨F, Gr.refl e, rfl⟩
section
variable {X : Cx} {ec : EC} {W : WX} {tg e b : Expr} {pos p : Pos} {φ ψ : EX}
/-- what a list or a tuple gives when it is walked -/
theorem pi_seq {tl : TE} (hl : PE X e tl) : PI X tg e (fun σ H R => tl σ H fun x H1 => (∃ a xs, x = .ref a ∧ SqL X.K H1 a xs ∧ R (Itl X.K a) H1) ∨ ∃ a xs, x = .ref a ∧ SqT X.K H1 a xs ∧ R (Itt X.K a) H1) := by
  refine ⟨fun pins s σ H R I h => ?_⟩
  refine thn (hl.run pins s σ H _ I h) fun v s1 ⟨x, H1, I1, r1, q1⟩ => ?_
  rcases q1 with ⟨a, xs, e, hq, q⟩ | ⟨a, xs, e, hq, q⟩
  · subst e
    cases r1
    obtain ⟨its, rv, p, hz⟩ := I1.list hq
    refine wpAny_pyIter_list p.isList ?_
    refine ⟨s1.heap.objs.size, [s1.heap.objs.size], _, _, H1, rfl, I1.kept (t' := s1.toks) fun b o e => Heap.get?_push_of_some _ e, turn_list a _, ⟨_, Heap.get?_push_size _ rfl, rfl, rfl⟩, fun b hb => ?_, q⟩
    have e : b = s1.heap.objs.size := by simpa using hb
    subst e
    exact I1.fpOk (Nat.le_refl _) (I1.hok.fresh (Nat.le_refl _))
  · subst e
    cases r1
    obtain ⟨its, rv, p, hz⟩ := I1.tuple hq
    refine wpAny_pyIter_tuple (show s1.heap.IsTuple a its.toArray from p) ?_
    refine ⟨s1.heap.objs.size, [s1.heap.objs.size], _, _, H1, rfl, I1.kept (t' := s1.toks) fun b o e => Heap.get?_push_of_some _ e, turn_tuple a _, ⟨_, Heap.get?_push_size _ rfl, rfl, rfl⟩, fun b hb => ?_, q⟩
    have e : b = s1.heap.objs.size := by simpa using hb
    subst e
    exact I1.fpOk (Nat.le_refl _) (I1.hok.fresh (Nat.le_refl _))
theorem di_seq (h : DE X ec W e φ) : DI X ec W tg e (iSeq φ) := piImp (pi_seq h) fun σ H R ⟨r, F, F0, B, S, q⟩ => by
  refine ⟨r, F, F0, B, S, (Thn.bind q).imp fun x F1 H1 _ g1 h1 v rv => ?_⟩
  obtain ⟨xs, ex, k⟩ := h1.po
  have k' := k F1 H1 (Gr.refl g1.i)
  cases x with
  | list ys =>
    cases ex
    obtain ⟨a, vs, rfl, h2, h3⟩ := rv
    exact .inl ⟨a, vs, rfl, g1.i.seq h2, k' _ (iter_list h2 h3)⟩
  | tuple ys =>
    cases ex
    obtain ⟨a, vs, rfl, h2, h3⟩ := rv
    exact .inr ⟨a, vs, rfl, tupT g1.i h2, k' _ (iter_tup (.inl (.inl h2)) h3)⟩
  | _ => cases ex
theorem dix_seq (h : DX X ec W e φ) : DIX X ec W tg e (iSeq φ) := piImp (pi_seq h) fun σ H R ⟨r, F, F0, B, S, q⟩ => by
  refine ⟨r, F, F0, B, S, (Thn.bind q).imp fun x F1 H1 _ g1 h1 v rv => ?_⟩
  obtain ⟨xs, ex, k⟩ := h1.po
  have k' := k F1 H1 (Gr.refl g1.i)
  cases x with
  | list ys =>
    cases ex
    obtain ⟨a, vs, rfl, h2, h3⟩ := rv
    exact .inl ⟨a, vs, rfl, h2, k' _ (iter_list h2 h3)⟩
  | tuple ys =>
    cases ex
    obtain ⟨a, vs, rfl, h2, h3⟩ := rv
    exact .inr ⟨a, vs, rfl, tupT g1.i h2, k' _ (iter_tup (tupT g1.i h2) h3)⟩
  | _ => cases ex
theorem di_range1 (hg : Gl X "range") (hm : X.mg "range" = none) (ha : DX X ec W e φ) (hs : starEach [e] X.env = [(false, eval e X.env)] := by rfl) : DI X ec W tg (.Call (.Name "range" p) [e] [] pos) (iRange1 φ) :=
  piImp (pi_range1 hg hm (pa1 ha hs) hs) fun σ H R ⟨r, F, F0, B, S, q⟩ => by
    refine ⟨r, F, F0, B, S, (Thn.bind q).imp fun x F1 H1 ex1 g1 h1 v rv => ?_⟩
    obtain ⟨xs, ex, k⟩ := h1.po
    unfold rng1 at ex
    split at ex
    · rename_i j
      split at ex
      · rename_i hj
        cases ex
        unfold small62 at hj
        simp only [Bool.and_eq_true, decide_eq_true_eq] at hj
        exact ⟨j, by rw [show v = _ from rv], hj.1, hj.2, k F1 H1 (Gr.refl g1.i) _ iter_rng⟩
      · cases ex
    · cases ex
theorem di_range2 (hg : Gl X "range") (hm : X.mg "range" = none) (ha : DX X ec W e φ) (hb : DX X ec W b ψ) (hs : starEach [e, b] X.env = [(false, eval e X.env), (false, eval b X.env)] := by rfl) (hs2 : starEach [b] X.env = [(false, eval b X.env)] := by rfl) :
    DI X ec W tg (.Call (.Name "range" p) [e, b] [] pos) (iRange2 φ ψ) :=
  piImp (pi_range2 hg hm (pa2 ha hb (by rw [hs, hs2]) hs2) hs hs2) fun σ H R ⟨r, F, F0, B, S, q⟩ => by
    have q1 : Thn X.K ec W (rb (rb (φ r) fun x => rb (ψ r) fun y => ok (x, y)) fun z => po (rng2 z.1 z.2)) σ F H fun xs F' H' => ∀ J, IterOk X.K F' F' J xs → R J H' := by
      have q0 : Thn X.K ec W (rb (φ r) fun x => rb (ψ r) fun y => po (rng2 x y)) σ F H fun xs F' H' => ∀ J, IterOk X.K F' F' J xs → R J H' := q
      revert q0
      match φ r with
      | none => exact fun z => z
      | some (.error _) => exact fun z => z
      | some (.ok k) =>
        match ψ r with
        | none => exact fun z => z
        | some (.error _) => exact fun z => z
        | some (.ok k) => exact fun z => z
    refine ⟨r, F, F0, B, S, (Thn.bind q1).imp fun z F1 H1 ez g1 h1 v u rv ru => ?_⟩
    obtain ⟨x, y⟩ := z
    obtain ⟨xs, ex, k⟩ := h1.po
    unfold rng2 at ex
    split at ex
    · rename_i i j ei ej
      split at ex
      · rename_i hj
        cases ex
        have ei' : x = .int i := ei
        have ej' : y = .int j := ej
        subst ei' ej'
        unfold small62 at hj
        simp only [Bool.and_eq_true, decide_eq_true_eq] at hj
        exact ⟨i, j, by rw [show v = _ from rv, show u = _ from ru], ⟨hj.1.1, hj.1.2, hj.2.1, hj.2.2⟩, k F1 H1 (Gr.refl g1.i) _ iter_rng⟩
      · cases ex
    · cases ex
end
/-! ### targets -/
def gMany : List Nat → TGs
  | [] => gNil
  | i :: is => gCons (gName i) (gMany is)
def tgT (K : PySem.W.Frag) : Tg → TG
  | .one i => gName i
  | .many is => gTup K is.length (gMany is)
theorem wipe_get (σ : L2.St) : ∀ (vs : List Nat) (j : Nat), (wipe σ vs)[j]? = if j ∈ vs then (if j < σ.length then some none else none) else σ[j]?
  | [], j => by simp [wipe]
  | v :: vs, j => by
    have ih := wipe_get σ vs j
    show ((wipe σ vs).set v none)[j]? = _
    by_cases c : j = v
    · subst c
      rw [if_pos List.mem_cons_self]
      by_cases hl : j < σ.length
      · rw [if_pos hl, List.getElem?_set_self (by rw [wipe_length]; exact hl)]
      · rw [if_neg hl]
        exact List.getElem?_eq_none (by rw [List.length_set, wipe_length]; omega)
    · rw [List.getElem?_set_ne (Ne.symm c), ih]
      by_cases hm : j ∈ vs
      · rw [if_pos hm, if_pos (List.mem_cons_of_mem _ hm)]
      · rw [if_neg hm, if_neg (fun z => (List.mem_cons.mp z).elim c hm)]
theorem wipe_set (σ : L2.St) (vs : List Nat) {i : Nat} {y : Option V} (hi : i ∈ vs) : wipe (σ.set i y) vs = wipe σ vs := by
  apply List.ext_getElem?
  intro j
  rw [wipe_get, wipe_get, List.length_set]
  by_cases hm : j ∈ vs
  · rw [if_pos hm, if_pos hm]
  · rw [if_neg hm, if_neg hm, List.getElem?_set_ne (fun z => hm (by rw [← z]; exact hi))]
theorem wipe_wipe (σ : L2.St) (vs : List Nat) : wipe (wipe σ vs) vs = wipe σ vs := by
  apply List.ext_getElem?
  intro j
  rw [wipe_get (wipe σ vs), wipe_length, wipe_get σ]
  by_cases hm : j ∈ vs
  · rw [if_pos hm, if_pos hm]
  · rw [if_neg hm, if_neg hm]
theorem SR.wipe {K : PySem.W.Frag} {F0 B : Hp} {σ : L2.St} {H F : Hp} : ∀ (vs : List Nat) {r : Env}, SR K F0 B r σ H F → SR K F0 B (unSlots vs r) (L2.wipe σ vs) H F
  | [], _, S => S
  | v :: vs, _, S => (SR.wipe vs S).unset
section
variable {K : PySem.W.Frag} {F0 B : Hp} {H F : Hp}
theorem many_ok : ∀ (is : List Nat) {xs : List D} {vs : List V} {r r1 : Env} {σ : L2.St} {Q : L2.St → Hp → Prop}, SR K F0 B r σ H F → RepL K F xs vs → putMany is xs r = some r1 →
    (∀ σ2, SR K F0 B r1 σ2 H F → (∀ ws : List Nat, (∀ i ∈ is, i ∈ ws) → L2.wipe σ2 ws = L2.wipe σ ws) → Q σ2 H) → gMany is vs σ H Q
  | [], [], vs, r, r1, σ, Q, S, h, hp, k => by
    have e : vs = [] := h
    have e2 : r = r1 := Option.some.inj hp
    subst e e2
    exact ⟨rfl, k σ S fun _ _ => rfl⟩
  | [], _ :: _, _, _, _, _, _, _, _, hp, _ => by cases hp
  | _ :: _, [], _, _, _, _, _, _, _, hp, _ => by cases hp
  | i :: is, x :: xs, vs, r, r1, σ, Q, S, ⟨v, vr, e, h1, h2⟩, hp, k => by
    subst e
    refine ⟨v, vr, rfl, ?_⟩
    show gMany is vr (σ.set i (some v)) H Q
    exact many_ok is (S.set h1) h2 hp fun σ2 S2 w => k σ2 S2 fun ws hw => by
      rw [w ws (fun j hj => hw j (List.mem_cons_of_mem _ hj)), wipe_set σ ws (hw i List.mem_cons_self)]
theorem putMany_len : ∀ (is : List Nat) {xs : List D} {r r1 : Env}, putMany is xs r = some r1 → xs.length = is.length
  | [], [], _, _, _ => rfl
  | [], _ :: _, _, _, h => by cases h
  | _ :: _, [], _, _, h => by cases h
  | _ :: is, _ :: xs, _, _, h => by rw [List.length_cons, List.length_cons, putMany_len is h]
theorem put_ok {g : Tg} {x : D} {v : V} {r r1 : Env} {σ : L2.St} {Q : L2.St → Hp → Prop} (S : SR K F0 B r σ H F) (h : Rep K F x v) (hp : g.put x r = some r1)
    (k : ∀ σ2, SR K F0 B r1 σ2 H F → L2.wipe σ2 g.slots = L2.wipe σ g.slots → Q σ2 H) : tgT K g v σ H Q := by
  cases g with
  | one i =>
    have e : r.set i (.d x) = r1 := Option.some.inj hp
    subst e
    exact k _ (S.set h) (wipe_set σ [i] List.mem_cons_self)
  | many is =>
    cases x with
    | tuple xs =>
      obtain ⟨a, vs, rfl, h1, h2⟩ := h
      have hp' : putMany is xs r = some r1 := hp
      exact ⟨a, vs, rfl, tupT S.gr.i h1, by rw [h2.length, putMany_len is hp'], many_ok is S h2 hp' fun σ2 S2 w => k σ2 S2 (w _ fun _ hi => hi)⟩
    | _ => cases hp
end
/-! ### comprehensions -/
def del (H : Hp) (a : Addr) : Hp := fun b => if b = a then none else H b
theorem upd_del {H : Hp} {a : Addr} {o : HO} (h : H a = some o) : upd (del H a) a o = H := by
  funext b
  unfold upd del
  by_cases c : b = a
  · rw [if_pos c, c, h]
  · rw [if_neg c, if_neg c]
theorem del_self {H : Hp} {a : Addr} : del H a a = none := if_pos rfl
theorem del_ne {H : Hp} {a b : Addr} (h : b ≠ a) : del H a b = H b := if_neg h
theorem Gr.del {F Hm F4 H4 : Hp} {a : Addr} {o : HO} (g : Gr F (upd Hm a o) F4 H4) (hm : Hm a = none) (hf : F a = none) (ho : ∀ vs, o ≠ .tup vs := by exact fun _ z => nomatch z) : Gr F Hm F4 (DL.del H4 a) := by
  have f4 : F4 a = none := g.nu upd_same ho hf
  refine ⟨g.f, fun b x q => ?_, fun b x q => ?_, fun b hb q t => ?_⟩
  · have c := ne_of_none q hm
    rw [del_ne c]
    exact g.h b x (by rw [upd_ne c]; exact q)
  · rw [del_ne (ne_of_none q f4)]
    exact g.i b x q
  · have c : b ≠ a := fun z => hb (by rw [z]; exact hm)
    exact g.n b (by rw [upd_ne c]; exact hb) q fun vs z => t vs (by rw [upd_ne c] at z; exact z)
abbrev W0 : WX := fun _ _ _ _ => False
theorem Thn.ok0 {α : Type} {K : PySem.W.Frag} {ec : EC} {W : WX} {x : R α} {σ : L2.St} {F H : Hp} {P : α → Hp → Hp → Prop} {a : α} (h : x = DL.ok a) (k : ∀ F' H', Gr F H F' H' → P a F' H') : Thn K ec W x σ F H P := by
  subst h
  exact k
theorem noEr_ok {α : Type} {x : R α} {a : α} (h : noEr x = ok a) : x = ok a := by
  unfold noEr at h
  split at h
  · exact h
  · cases h
theorem lc_use {K : PySem.W.Frag} {ec : EC} {W : WX} {ι : EL} {g : Tg} {β : EB} {φ : EX} {vs : List Nat} (hvs : vs = g.slots) {σ : L2.St} {H : Hp} {Q : VK} (h : tL K ec W (lComp ι g β φ) σ H Q) :
    tLc (tIX K ec W ι) (tgT K g) (tT K ec W0 β) (tD K ec W0 φ) vs σ H Q := by
  subst hvs
  obtain ⟨r, F, F0, B, S, q⟩ := h
  refine ⟨r, F, F0, B, S, (Thn.bind q).imp fun xs F1 H1 _ g1 h1 J hJ D hD => ?_⟩
  by_cases hlim : xs.length ≤ lim
  · rw [if_pos hlim] at h1
    match ec1 : noEr (compL g β φ (unSlots g.slots r) xs) with
    | none => rw [ec1] at h1; exact False.elim h1
    | some (.error _) =>
      exfalso
      unfold noEr at ec1
      split at ec1
      · cases ec1
      · cases ec1
    | some (.ok ys) =>
      rw [ec1] at h1
      have hc : compL g β φ (unSlots g.slots r) xs = ok ys := noEr_ok ec1
      have S1 := SR.wipe g.slots (S.grow g1)
      obtain ⟨G, Y, w, hG, hY⟩ := hJ
      refine lc_it w (fun i Hc => ∃ done rest us F2 Hm, i ≤ xs.length ∧ compL g β φ (unSlots g.slots r) (xs.drop i) = ok rest ∧ done ++ rest = ys ∧ done.length ≤ i ∧ Hc = upd Hm D (.lst us) ∧ Hm D = none ∧ RepL K F2 done us ∧ Gr F1 H1 F2 Hm)
        ⟨[], ys, [], F1, H1, Nat.zero_le _, hc, rfl, Nat.le_refl _, rfl, hD, rfl, Gr.refl g1.i⟩ ?_ ?_ ?_
      · rintro i Hc hi ⟨done, rest, us, F2, Hm, _, _, _, _, rfl, hm, _, g2⟩
        exact hG _ (g2.h.trans (Gr.own g2.i hm _).h)
      · rintro i x Hc H' hi ⟨done, rest, us, F2, Hm, _, er, ed, hl, rfl, hm, hu, g2⟩ y
        have go := Gr.own g2.i hm (.lst us)
        obtain ⟨d, hd⟩ : ∃ d, xs[i]? = some d := ⟨xs[i], List.getElem?_eq_getElem hi⟩
        have hdrop : xs.drop i = d :: xs.drop (i + 1) := by
          rw [List.drop_eq_getElem_cons hi]
          congr 1
          have := List.getElem?_eq_getElem hi
          rw [hd] at this
          exact (Option.some.inj this).symm
        obtain ⟨F3, g3, r3⟩ := hY i d _ x H' F2 hd (g2.h.trans go.h) g2.f go.i y
        have S3 := (S1.grow g2).grow (go.trans g3)
        rw [hdrop] at er
        unfold compL at er
        split at er
        · cases er
        · rename_i r1 hput
          obtain ⟨k, ek, er1⟩ := rb_eq_ok er
          refine put_ok S3 r3 hput fun σ2 S4 hw => ⟨by rw [hw, wipe_wipe], ⟨r1, F3, F0, B, S4, Thn.ok0 ek fun F4 H4 g4 => ?_⟩⟩
          have f2D : F2 D = none := g2.i.free hm
          cases k with
          | true =>
            rw [if_pos rfl] at er1
            obtain ⟨z, ez, er2⟩ := rb_eq_ok er1
            obtain ⟨rest', er3, er4⟩ := rb_eq_ok er2
            have e5 : rest = z :: rest' := by
              have e6 : ok (z :: rest') = ok rest := er4
              unfold ok at e6
              simpa using e6.symm
            refine iteT ⟨r1, F4, F0, B, S4.grow g4, Thn.ok0 ez fun F5 H5 g5 v rv => ?_⟩
            have g6 : Gr F2 (upd Hm D (.lst us)) F5 H5 := (g3.trans g4).trans g5
            have hD5 : H5 D = some (.lst us) := g6.h _ _ upd_same
            refine ⟨us, hD5, ?_, done ++ [z], rest', us ++ [v], F5, DL.del H5 D, hi, er3, by rw [← ed, e5]; simp, by rw [List.length_append]; simpa using hl, ?_, del_self, (hu.mono g6.f).append ⟨v, [], rfl, rv, rfl⟩, g2.trans (g6.del hm f2D)⟩
            · rw [hu.length]
              exact Nat.lt_of_lt_of_le (Nat.lt_of_le_of_lt hl hi) (lim_line hlim)
            · funext b
              unfold upd DL.del
              by_cases c : b = D
              · rw [if_pos c, if_pos c]
              · rw [if_neg c, if_neg c, if_neg c]
          | false =>
            rw [if_neg (by simp)] at er1
            have g6 : Gr F2 (upd Hm D (.lst us)) F4 H4 := g3.trans g4
            have hD5 : H4 D = some (.lst us) := g6.h _ _ upd_same
            exact iteF ⟨done, rest, us, F4, DL.del H4 D, hi, er1, ed, Nat.le_succ_of_le hl, (upd_del hD5).symm, del_self, hu.mono g6.f, g2.trans (g6.del hm f2D)⟩
      · rintro Hc ⟨done, rest, us, F2, Hm, _, er, ed, hl, rfl, hm, hu, g2⟩
        rw [List.drop_length] at er
        have e5 : rest = [] := by
          have e6 : ok ([] : List DL.D) = ok rest := er
          unfold ok at e6
          simpa using e6.symm
        rw [e5, List.append_nil] at ed
        subst ed
        exact h1 F2 Hm g2 D us hm hu
  · rw [if_neg hlim] at h1
    exact False.elim h1
section
variable {X : Cx} {ec : EC} {W : WX} {elt tg iter : Expr} {ifs : List Expr} {scope : Scope} {own : List (Str × Nat)} {pos : Pos} {ι : EL} {g : Tg} {β : EB} {φ : EX}
theorem dl_comp (hc : X.calm = true) (hN : X.N.Nodup) (hi : DIX X ec W tg iter ι) (ok : BlkOk X.N X.env.scope scope own) (hv : own.map (·.2) = g.slots)
    (hg : ∀ (s : Shared) (H : Hp) (C : Addr) (cl : List (Str × Addr)) (fp : List Addr), PG (X.blk s H scope (compEnvC scope cl C X.env) fp) tg (tgT X.K g)) (ht : ∀ (s : Shared) (H : Hp) (C : Addr) (cl : List (Str × Addr)) (fp : List Addr), PTs (X.blk s H scope (compEnvC scope cl C X.env) fp) ifs (tT X.K ec W0 β))
    (he : ∀ (s : Shared) (H : Hp) (C : Addr) (cl : List (Str × Addr)) (fp : List Addr), DE (X.blk s H scope (compEnvC scope cl C X.env) fp) ec W0 elt φ) (hs : ∀ x, foldedSetIterable iter X.env x = pure x := by intro _; rfl) :
    DLi X ec W (.ListComp elt [⟨tg, iter, ifs, 0⟩] scope pos) (lComp ι g β φ) := peImp (pe_lc hc hN hi ok hg ht he hs) fun _ _ _ h => lc_use hv h
theorem dts_nil : PTs X [] (tT X.K ec W0 bYes) := ⟨fun pins s σ H Q I ⟨r, F, F0, B, S, q⟩ => pts_nil.run pins s σ H Q I (Thn.ok (a := true) S.sub q)⟩
theorem dts_one {c : Expr} {β : EB} (h : DT X ec W0 c β) : PTs X [c] (tT X.K ec W0 β) := pts_one h
end
end DL
/-! Statements; a def's body; a def. -/
namespace DL
open PySem PySem.Spec PyProof.Rows L2

/-- what is wanted behind a block that does o -/
def Aft (K : PySem.W.Frag) (ec : EC) (W : WX) (F0 B F : Hp) (o : Option Out) (Dn : Ends) : Prop := match o with
  | none => False
  | some (.nx r) => ∀ σ' F' H', Same F F' → SR K F0 B r σ' H' F' → Dn.nx σ' H'
  | some (.bk r) => ∀ σ' F' H', Same F F' → SR K F0 B r σ' H' F' → Dn.bk σ' H'
  | some (.ct r) => ∀ σ' F' H', Same F F' → SR K F0 B r σ' H' F' → Dn.ct σ' H'
  | some (.rt d) => ∀ v F' H', Same F F' → Gr F0 B F' H' → Rep K F' d v → Dn.rt v H'
  | some (.er e r) => ∀ dx σ' F' H', Same F F' → SR K F0 B r σ' H' F' → ErrOk K F' H' e dx → W (.ref (ec e.cls)) dx σ' H'
  | some (.ro i r) => ∀ v σ' F' H', Same F F' → SR K F0 B r σ' H' F' → σ'[i]? = some (some v) → Dn.rt v H'
def tS (K : PySem.W.Frag) (ec : EC) (W : WX) (b : SX) : TS := fun Dn σ H => ∃ r F F0 B, SR K F0 B r σ H F ∧ Aft K ec W F0 B F (b r) Dn
theorem psImp {X : Cx} {e : Stmt} {t t' : TS} (h : PS X e t) (f : ∀ D σ H, t' D σ H → t D σ H) : PS X e t' := ⟨fun pins s σ H D I q => h.run pins s σ H D I (f D σ H q)⟩
theorem pssImp {X : Cx} {e : List Stmt} {t t' : TS} (h : PSs X e t) (f : ∀ D σ H, t' D σ H → t D σ H) : PSs X e t' := ⟨fun pins s σ H D I q => h.run pins s σ H D I (f D σ H q)⟩
abbrev DS (X : Cx) (ec : EC) (W : WX) (st : Stmt) (b : SX) : Prop := PS X st (tS X.K ec W b)
abbrev DSs (X : Cx) (ec : EC) (W : WX) (st : List Stmt) (b : SX) : Prop := PSs X st (tS X.K ec W b)
section
variable {K : PySem.W.Frag} {ec : EC} {W : WX} {F0 B F F1 H : Hp} {Dn : Ends} {r : Env} {σ : L2.St}
theorem Aft.mono {o : Option Out} (e : Same F F1) (h : Aft K ec W F0 B F o Dn) : Aft K ec W F0 B F1 o Dn := by
  match o with
  | none => exact h
  | some (.nx r) => exact fun σ' F' H' q => h σ' F' H' (e.trans q)
  | some (.bk r) => exact fun σ' F' H' q => h σ' F' H' (e.trans q)
  | some (.ct r) => exact fun σ' F' H' q => h σ' F' H' (e.trans q)
  | some (.rt d) => exact fun v F' H' q => h v F' H' (e.trans q)
  | some (.er x r) => exact fun dx σ' F' H' q => h dx σ' F' H' (e.trans q)
  | some (.ro i r) => exact fun v σ' F' H' q => h v σ' F' H' (e.trans q)
theorem Aft.so {α : Type} {x : R α} {f : α → Option Out} (S : SR K F0 B r σ H F) (h : Aft K ec W F0 B F (so x r f) Dn) : Thn K ec W x σ F H fun a F' H' => Aft K ec W F0 B F' (f a) Dn := by
  match x with
  | none => exact h
  | some (.error e) => exact fun dx F' H' g q => h dx σ F' H' g.f (S.grow g) q
  | some (.ok a) => exact fun F' H' g => Aft.mono g.f (show Aft K ec W F0 B F (f a) Dn from h)
end
section
variable {X : Cx} {ec : EC} {W : WX} {st : Stmt} {sts rest es els : List Stmt} {e c tg iter : Expr} {pos : Pos} {a b : SX} {φ ψ : EX} {β : EB} {ι : EL}
theorem dss_nil : DSs X ec W [] sNx := pssImp pss_nil fun D σ H ⟨r, F, F0, B, S, q⟩ => q σ F H (Same.refl F) S
theorem seq_use {K : PySem.W.Frag} {D : Ends} {σ : L2.St} {H : Hp} (h : tS K ec W (sSeq a b) D σ H) : tSeq (tS K ec W a) (tS K ec W b) D σ H := by
  obtain ⟨r, F, F0, B, S, q⟩ := h
  refine ⟨r, F, F0, B, S, ?_⟩
  have q' : Aft K ec W F0 B F (match a r with | some (.nx r1) => b r1 | o => o) D := q
  revert q'
  match a r with
  | none => exact fun z => z
  | some (.nx r1) => exact fun z σ' F' H' q S' => ⟨r1, F', F0, B, S', Aft.mono q z⟩
  | some (.bk r1) => exact fun z => z
  | some (.ct r1) => exact fun z => z
  | some (.rt d) => exact fun z => z
  | some (.er x r1) => exact fun z => z
  | some (.ro i r1) => exact fun z => z
theorem dss_cons (h1 : DS X ec W st a) (h2 : DSs X ec W rest b) : DSs X ec W (st :: rest) (sSeq a b) := pssImp (pss_cons h1 h2) fun _ _ _ h => seq_use h
theorem dss_one (h : DS X ec W st a) : DSs X ec W [st] a := pss_one h
/-- a step of the data alone -/
theorem dss_freeze (i : Nat) (h : DSs X ec W sts b) : DSs X ec W sts (sSeq (sFreeze i) b) := pssImp h fun D σ H ⟨r, F, F0, B, S, q⟩ => by
  have q' : Aft X.K ec W F0 B F (b (frz i r)) D := q
  unfold frz at q'
  split at q'
  · rename_i xs hx
    obtain ⟨F', sf, S'⟩ := S.freeze hx
    exact ⟨_, F', F0, B, S', Aft.mono sf q'⟩
  · rename_i xss hx
    obtain ⟨F', sf, S'⟩ := S.freezeN hx
    exact ⟨_, F', F0, B, S', Aft.mono sf q'⟩
  · exact ⟨_, F, F0, B, S, q'⟩
theorem ds_pass : DS X ec W (.Pass pos) sNx := psImp ps_pass fun D σ H ⟨r, F, F0, B, S, q⟩ => q σ F H (Same.refl F) S
theorem ds_break : DS X ec W (.Break pos) sBk := psImp ps_break fun D σ H ⟨r, F, F0, B, S, q⟩ => q σ F H (Same.refl F) S
theorem ds_continue : DS X ec W (.Continue pos) sCt := psImp ps_continue fun D σ H ⟨r, F, F0, B, S, q⟩ => q σ F H (Same.refl F) S
theorem ds_doc {x j p} : DS X ec W (.Expr (.Constant (.str x) j p) pos) sNx := psImp ps_doc fun D σ H ⟨r, F, F0, B, S, q⟩ => q σ F H (Same.refl F) S
theorem ds_ret (h : DE X ec W e φ) : DS X ec W (.Return (some e) pos) (sRet φ) := psImp (ps_ret h) fun D σ H ⟨r, F, F0, B, S, q⟩ =>
  ⟨r, F, F0, B, S, (Aft.so S q).imp fun d F1 H1 _ g k v rv => k v F1 H1 (Same.refl _) (S.grow g).gr rv⟩
theorem ds_retO {i : Nat} {x : Str} {xp : Pos} (hN : X.N[i]? = some x) (hv : Vis X.env.scope x) (hd : (x == ("__debug__" : Str)) = false := by decide) (hcd : (x == ("__classdict__" : Str)) = false := by decide) : DS X ec W (.Return (some (.Name x xp)) pos) (sRetO i) := psImp (ps_ret (pe_var hN hv hd hcd)) fun D σ H ⟨r, F, F0, B, S, q⟩ => by
  unfold sRetO at q
  split at q
  · rename_i xs hi
    obtain ⟨y, h1, p, vs, rfl, _⟩ := S.ok i _ hi
    exact ⟨.ref p, h1, q (.ref p) σ F H (Same.refl _) S h1⟩
  · exact False.elim q
theorem ds_expr (h : DE X ec W e φ) (hs : swapsWith e none pos.line X.env = pure false := by rfl) : DS X ec W (.Expr e pos) (sExpr φ) := psImp (ps_expr h hs) fun D σ H ⟨r, F, F0, B, S, q⟩ =>
  ⟨r, F, F0, B, S, (Aft.so S q).imp fun d F1 H1 _ g k v rv => k σ F1 H1 (Same.refl _) (S.grow g)⟩
theorem ds_if (hc : DT X ec W c β) (ha : DSs X ec W sts a) (hb : DSs X ec W els b) : DS X ec W (.If c sts els pos) (sIf β a b) := psImp (ps_if hc ha hb) fun D σ H ⟨r, F, F0, B, S, q⟩ =>
  ⟨r, F, F0, B, S, (Aft.so S q).imp fun k F1 H1 _ g h1 => by
    cases k with
    | true => exact iteT ⟨r, F1, F0, B, S.grow g, h1⟩
    | false => exact iteF ⟨r, F1, F0, B, S.grow g, h1⟩⟩
theorem set_use {K : PySem.W.Frag} {i : Nat} {D : Ends} {σ : L2.St} {H : Hp} (h : tS K ec W (sSet i φ) D σ H) : tAsg (tD K ec W φ) (gName i) D σ H := by
  obtain ⟨r, F, F0, B, S, q⟩ := h
  exact ⟨r, F, F0, B, S, (Aft.so S q).imp fun d F1 H1 _ g k v rv => k _ F1 H1 (Same.refl _) ((S.grow g).set rv)⟩
theorem own_use {K : PySem.W.Frag} {i : Nat} {D : Ends} {σ : L2.St} {H : Hp} (h : tS K ec W (sOwn i ι) D σ H) : tAsg (tL K ec W ι) (gName i) D σ H := by
  obtain ⟨r, F, F0, B, S, q⟩ := h
  exact ⟨r, F, F0, B, S, (Aft.so S q).imp fun d F1 H1 _ g k p vs hp hv => k _ F1 _ (Same.refl _) ((S.grow g).setOwn hp hv)⟩
theorem ds_set {i : Nat} {x : Str} {pos' : Pos} (hN : X.N.Nodup) (hi : X.N[i]? = some x) (hx : Loc X.env.scope x) (he : DE X ec W e φ) (hs : swapsWith e (some (.Name x pos')) pos.line X.env = pure false := by rfl)
    (hf : X.fn x = true ∨ X.env.scope.names.lookup x = some .local := by first | exact .inl rfl | exact .inr rfl | assumption) : DS X ec W (.Assign [.Name x pos'] e pos) (sSet i φ) := psImp (ps_set hN hi hx he hs hf) fun _ _ _ h => set_use h
theorem ds_own {i : Nat} {x : Str} {pos' : Pos} (hN : X.N.Nodup) (hi : X.N[i]? = some x) (hx : Loc X.env.scope x) (he : DLi X ec W e ι) (hs : swapsWith e (some (.Name x pos')) pos.line X.env = pure false := by rfl)
    (hf : X.fn x = true ∨ X.env.scope.names.lookup x = some .local := by first | exact .inl rfl | exact .inr rfl | assumption) : DS X ec W (.Assign [.Name x pos'] e pos) (sOwn i ι) := psImp (ps_set hN hi hx he hs hf) fun _ _ _ h => own_use h
/-- x = [.. for .. in ..] -/
theorem ds_ownC {i : Nat} {y : Str} {py : Pos} {elt tg iter : Expr} {ifs : List Expr} {scope : Scope} {own : List (Str × Nat)} {spos : Pos} {g : Tg} (hc : X.calm = true) (hN : X.N.Nodup) (hy : X.N[i]? = some y) (hyl : X.env.scope.names.lookup y = some .local)
    (hsw : swapsWith (.ListComp elt [⟨tg, iter, ifs, 0⟩] scope pos) (some (.Name y py)) spos.line X.env = pure true) (hi : DIX X ec W tg iter ι) (okB : BlkOk X.N X.env.scope scope own) (hv : own.map (·.2) = g.slots)
    (hg : ∀ (s : Shared) (H : Hp) (C : Addr) (cl : List (Str × Addr)) (fp : List Addr), PG (X.blk s H scope (compEnvC scope cl C X.env) fp) tg (tgT X.K g)) (ht : ∀ (s : Shared) (H : Hp) (C : Addr) (cl : List (Str × Addr)) (fp : List Addr), PTs (X.blk s H scope (compEnvC scope cl C X.env) fp) ifs (tT X.K ec W0 β))
    (he : ∀ (s : Shared) (H : Hp) (C : Addr) (cl : List (Str × Addr)) (fp : List Addr), DE (X.blk s H scope (compEnvC scope cl C X.env) fp) ec W0 elt φ) (hs : ∀ x, foldedSetIterable iter X.env x = pure x := by intro _; rfl) :
    DS X ec W (.Assign [.Name y py] (.ListComp elt [⟨tg, iter, ifs, 0⟩] scope pos) spos) (sOwn i (lComp ι g β φ)) := psImp (ps_setLc hc hN hy hyl hsw hi okB hg ht he hs) fun D σ H h => by
  have h' := own_use h
  exact lc_use hv h'
/-- the same, the list a datum at once -/
theorem ds_setC {i : Nat} {y : Str} {py : Pos} {elt tg iter : Expr} {ifs : List Expr} {scope : Scope} {own : List (Str × Nat)} {spos : Pos} {g : Tg} (hc : X.calm = true) (hN : X.N.Nodup) (hy : X.N[i]? = some y) (hyl : X.env.scope.names.lookup y = some .local)
    (hsw : swapsWith (.ListComp elt [⟨tg, iter, ifs, 0⟩] scope pos) (some (.Name y py)) spos.line X.env = pure true) (hi : DIX X ec W tg iter ι) (okB : BlkOk X.N X.env.scope scope own) (hv : own.map (·.2) = g.slots)
    (hg : ∀ (s : Shared) (H : Hp) (C : Addr) (cl : List (Str × Addr)) (fp : List Addr), PG (X.blk s H scope (compEnvC scope cl C X.env) fp) tg (tgT X.K g)) (ht : ∀ (s : Shared) (H : Hp) (C : Addr) (cl : List (Str × Addr)) (fp : List Addr), PTs (X.blk s H scope (compEnvC scope cl C X.env) fp) ifs (tT X.K ec W0 β))
    (he : ∀ (s : Shared) (H : Hp) (C : Addr) (cl : List (Str × Addr)) (fp : List Addr), DE (X.blk s H scope (compEnvC scope cl C X.env) fp) ec W0 elt φ) (hs : ∀ x, foldedSetIterable iter X.env x = pure x := by intro _; rfl) :
    DS X ec W (.Assign [.Name y py] (.ListComp elt [⟨tg, iter, ifs, 0⟩] scope pos) spos) (sSet i (vL (lComp ι g β φ))) := psImp (ds_ownC (ι := ι) (φ := φ) (β := β) (W := W) hc hN hy hyl hsw hi okB hv hg ht he hs) fun D σ H ⟨r, F, F0, B, S, q⟩ => by
  refine ⟨r, F, F0, B, S, ?_⟩
  have q' : Aft X.K ec W F0 B F (so (rb (lComp ι g β φ r) fun xs => ok (PyData.list xs)) r fun x => some (.nx (r.set i (.d x)))) D := q
  show Aft X.K ec W F0 B F (so (lComp ι g β φ r) r fun xs => some (.nx (r.set i (.own xs)))) D
  revert q'
  match lComp ι g β φ r with
  | none => exact fun z => z
  | some (.error _) => exact fun z => z
  | some (.ok xs) =>
    intro z σ' F' H' sf S'
    by_cases hl : i < r.length
    · have hi' : (r.set i (.own xs))[i]? = some (.own xs) := List.getElem?_set_self hl
      obtain ⟨F2, s2, S2⟩ := S'.freeze hi'
      have e : (r.set i (.own xs)).set i (.d (.list xs)) = r.set i (.d (.list xs)) := by rw [List.set_set]
      rw [e] at S2
      exact z σ' F2 H' (sf.trans s2) S2
    · have e1 : r.set i (.own xs) = r := List.set_eq_of_length_le (by omega)
      have e2 : r.set i (Slot.d (.list xs)) = r := List.set_eq_of_length_le (by omega)
      rw [e1] at S'
      exact z σ' F' H' sf (by rw [e2]; exact S')
/-- a, b = e -/
theorem ds_put {g : Tg} (he : DE X ec W e φ) (hg : PG X tg (tgT X.K g)) (hs : swapsWithSole [tg] e pos.line X.env = pure false := by rfl) (hw : swappedStores [tg] e X.env = pure none := by rfl)
    (h1 : (assignEach [tg] X.env).map (·.2) = [assign tg X.env] := by rfl) : DS X ec W (.Assign [tg] e pos) (sPut g φ) := psImp (ps_asg he hg hs hw h1) fun D σ H ⟨r, F, F0, B, S, q⟩ => by
  refine ⟨r, F, F0, B, S, (Aft.so S q).imp fun d F1 H1 _ g1 k v rv => ?_⟩
  match ep : g.put d r with
  | none => rw [ep] at k; exact False.elim k
  | some r1 =>
    rw [ep] at k
    exact put_ok (S.grow g1) rv ep fun σ2 S2 _ => k σ2 F1 H1 (Same.refl _) S2
theorem ds_par {i j : Nat} {x y : Str} {e2 : Expr} {px py pt : Pos} {kt k2 pt2} (hc : X.calm = true) (hN : X.N.Nodup) (hi : X.N[i]? = some x) (hj : X.N[j]? = some y) (hij : i ≠ j)
    (ha : DA X ec W [e, e2] (vArgs [φ, ψ])) (h : ∀ {ta : TA}, PA X [e, e2] ta → PS X (.Assign [.Tuple [.Name x px, .Name y py] kt pt] (.Tuple [e, e2] k2 pt2) pos) (tPar i j ta)) :
    DS X ec W (.Assign [.Tuple [.Name x px, .Name y py] kt pt] (.Tuple [e, e2] k2 pt2) pos) (sPar i j φ ψ) := psImp (h ha) fun D σ H ⟨r, F, F0, B, S, q⟩ => by
  refine ⟨r, F, F0, B, S, (Aft.so S q).imp fun ds F1 H1 _ g k vs rs => ?_⟩
  match ds with
  | [] => exact False.elim k
  | [_] => exact False.elim k
  | d1 :: d2 :: [] =>
    obtain ⟨v, r1, e1, r2, v2, r3, e3, r4, r5⟩ := rs
    have e6 : r3 = [] := r5
    subst e6 e3 e1
    exact ⟨v, v2, rfl, k _ F1 H1 (Same.refl _) (((S.grow g).set r2).set r4)⟩
  | _ :: _ :: _ :: _ => exact False.elim k
/-- own.append(x) -/
theorem ds_app {i : Nat} {x : Str} {xp apos cpos : Pos} (hN : X.N[i]? = some x) (hv : Vis X.env.scope x) (ha : DE X ec W e φ) (hd : (x == ("__debug__" : Str)) = false := by decide) (hcd : (x == ("__classdict__" : Str)) = false := by decide)
    (hs : swapsWith (.Call (.Attribute (.Name x xp) "append" apos) [e] [] cpos) none pos.line X.env = pure false := by rfl)
    (hbase : attributeBase (.Name x xp) "append" X.env (eval (.Name x xp) X.env) = eval (.Name x xp) X.env := by rfl)
    (hfew : ((backTo cpos (starEach [e] X.env)).all (fun x => !x.1) && (backToKw cpos (keywordEach [] X.env)).all (fun x => x.1.isSome)
      && decide ([e].length + ([] : List Keyword).length + (if ([] : List Keyword).isEmpty then 0 else 1) < 30)) = true := by rfl)
    (hline : (apos.endLine == cpos.line) = true := by rfl) (hst : starEach [e] X.env = (false, eval e X.env) :: starEach [] X.env := by rfl) (hplain : (backTo cpos (starEach [] X.env)).any (·.1) = false := by rfl) :
    DS X ec W (.Expr (.Call (.Attribute (.Name x xp) "append" apos) [e] [] cpos) pos) (sApp i φ) :=
  psImp (ps_expr (pe_bm PySem.F.plainAttrs_list PySem.F.slot_list_append PySem.F.type_list_append mt_append (pe_var hN hv hd hcd) (pa_cons ha pa_nil hst) hbase hfew hline hst hplain) hs) fun D σ H ⟨r, F, F0, B, S, q⟩ => by
    unfold sApp at q
    split at q
    · rename_i xs hi
      obtain ⟨y, h1, p, vs, rfl, h2, h3, h4, h5⟩ := S.ok i _ hi
      refine ⟨.ref p, h1, .inl ⟨rfl, _, .inl (.inl h2)⟩, r, F, F0, B, S, (Aft.so S q).imp fun d F1 H1 _ g k v rv => ?_⟩
      by_cases hl : xs.length < lim
      · rw [if_pos hl] at k
        refine ⟨p, vs, v, rfl, rfl, g.h _ _ h2, by rw [h5.length]; exact lim_lt hl, ?_⟩
        exact k σ F1 _ (Same.refl _) ((S.grow g).write hi h1 ((h5.mono g.f).append ⟨v, [], rfl, rv, rfl⟩))
      · rw [if_neg hl] at k
        exact False.elim k
    · exact False.elim q
/-- own[k] = x -/
theorem ds_setix {i : Nat} {x : Str} {xp tp : Pos} {k : Expr} (hN : X.N[i]? = some x) (hv : Vis X.env.scope x) (hk : DX X ec W k ψ) (ha : DE X ec W e φ)
    (h : ∀ {te to ti : TE}, PE X e te → PE X (.Name x xp) to → PE X k ti → PS X (.Assign [.Subscript (.Name x xp) k tp] e pos) (tAsg te (gSub to ti rSetL))) (hd : (x == ("__debug__" : Str)) = false := by decide) (hcd : (x == ("__classdict__" : Str)) = false := by decide) :
    DS X ec W (.Assign [.Subscript (.Name x xp) k tp] e pos) (sSetIx i ψ φ) := psImp (h ha (pe_var hN hv hd hcd) hk) fun D σ H ⟨r, F, F0, B, S, q⟩ => by
  unfold sSetIx at q
  split at q
  · rename_i xs hi
    obtain ⟨y, h1, p, vs, rfl, h2, h3, h4, h5⟩ := S.ok i _ hi
    refine ⟨r, F, F0, B, S, (Aft.so S q).imp fun d F1 H1 _ g1 k1 v rv => ⟨.ref p, h1, r, F1, F0, B, S.grow g1, (Aft.so (S.grow g1) k1).imp fun j F2 H2 ej g2 k2 u ru => ?_⟩⟩
    split at k2
    · rename_i m
      split at k2
      · rename_i n hn
        have h5' := (h5.mono g1.f).mono g2.f
        refine ⟨p, vs, m, n, rfl, ru, g2.h _ _ (g1.h _ _ h2), by rw [h5'.length]; exact hn, ?_⟩
        exact k2 σ F2 _ (Same.refl _) (((S.grow g1).grow g2).write hi h1 (RepL.set (rv.mono g2.f) n h5'))
      · exact False.elim k2
    · exact False.elim k2
  · exact False.elim q
/-! ### loops -/
theorem loop_use {K : PySem.W.Frag} {g : Tg} {J : It} {F0 B : Hp} {D : Ends} {xs : List DL.D} {Fb : Hp} (hJ : IterOk K Fb Fb J xs) {σ : L2.St} {H : Hp} {r : Env} (S : SR K F0 B r σ H Fb) (h : Aft K ec W F0 B Fb (loopF g b xs r) D) :
    ∃ Wv : Nat → Nat → L2.St → Hp → Prop, (∃ m, Wv 0 m σ H) ∧ ∀ i m σ H, Wv i m σ H →
      (J.stop i H ∧ D.nx σ H) ∨ (J.go i H ∧ ∃ N : L2.St → Hp → Prop, (∀ σ' H', N σ' H' → ∃ m', m' < m ∧ Wv (i + 1) m' σ' H') ∧ ∀ x H', J.yld i H x H' → tgT K g x σ H' fun σ2 H2 => tS K ec W b { D with nx := N, ct := N, bk := D.nx } σ2 H2) := by
  obtain ⟨G, Y, w, hG, hY⟩ := hJ
  refine for_it w (fun i σ H => ∃ r F, i ≤ xs.length ∧ Same Fb F ∧ SR K F0 B r σ H F ∧ Aft K ec W F0 B F (loopF g b (xs.drop i) r) D) ⟨r, Fb, Nat.zero_le _, Same.refl _, S, h⟩ ?_ ?_ ?_
  · rintro i σ H _ ⟨r, F, _, sf, S, _⟩
    exact hG _ (sf.trans S.gr.i)
  · rintro i x σ H H' hi ⟨r, F, _, sf, S, h⟩ y
    obtain ⟨d, hd⟩ : ∃ d, xs[i]? = some d := ⟨xs[i], List.getElem?_eq_getElem hi⟩
    have hdrop : xs.drop i = d :: xs.drop (i + 1) := by
      rw [List.drop_eq_getElem_cons hi]
      congr 1
      have := List.getElem?_eq_getElem hi
      rw [hd] at this
      exact (Option.some.inj this).symm
    obtain ⟨F3, g3, r3⟩ := hY i d _ x H' F hd (sf.trans S.gr.i) sf S.gr.i y
    have S3 := S.grow g3
    rw [hdrop] at h
    unfold loopF at h
    split at h
    · exact False.elim h
    · rename_i r1 hput
      refine put_ok S3 r3 hput fun σ2 S4 _ => ⟨r1, F3, F0, B, S4, ?_⟩
      have sf3 := sf.trans g3.f
      have h3 := Aft.mono g3.f h
      revert h3
      match b r1 with
      | none => exact fun z => z
      | some (.nx r2) => exact fun z σ' F' H' q S' => ⟨r2, F', hi, sf3.trans q, S', Aft.mono q z⟩
      | some (.ct r2) => exact fun z σ' F' H' q S' => ⟨r2, F', hi, sf3.trans q, S', Aft.mono q z⟩
      | some (.bk r2) => exact fun z => z
      | some (.rt d) => exact fun z => z
      | some (.er e r2) => exact fun z => z
      | some (.ro i r2) => exact fun z => z
  · rintro σ H ⟨r, F, _, sf, S, h⟩
    rw [List.drop_length] at h
    exact h σ F H (Same.refl _) S
theorem ds_for {g : Tg} (hp : PassesOwn (model X.prog X.w) X.A X.env X.xe) (hc : X.calm = true) (hi : DI X ec W tg iter ι) (hg : PG X tg (tgT X.K g)) (hb : DSs X ec W sts b) (hs : ∀ x, foldedSetIterable iter X.env x = pure x := by intro _; rfl) : DS X ec W (.For tg iter sts [] pos) (sFor ι g b) :=
  psImp (ps_for hp hc hi hg hb hs) fun D σ H ⟨r, F, F0, B, S, q⟩ => ⟨r, F, F0, B, S, (Aft.so S q).imp fun xs F1 H1 _ g1 k J hJ => loop_use hJ (S.grow g1) k⟩
/-- for .. in own: y = e -/
theorem ds_forSet {i j : Nat} {x y : Str} {xp yp apos : Pos} {g : Tg} (hp : PassesOwn (model X.prog X.w) X.A X.env X.xe) (hc : X.calm = true) (hi : DIX X ec W tg (.Name x xp) (iSeq (vRd i))) (hg : PG X tg (tgT X.K g)) (hN : X.N.Nodup) (hy : X.N[j]? = some y) (hyl : Loc X.env.scope y) (he : DE X ec W e φ)
    (hsw : swapsWith e (some (.Name y yp)) apos.line X.env = pure false := by rfl) (hf : X.fn y = true ∨ X.env.scope.names.lookup y = some .local := by first | exact .inl rfl | exact .inr rfl | assumption) (hs : ∀ z, foldedSetIterable (.Name x xp) X.env z = pure z := by intro _; rfl) :
    DS X ec W (.For tg (.Name x xp) [.Assign [.Name y yp] e apos] [] pos) (sForSet i g j φ) :=
  psImp (ps_for hp hc hi hg (pss_one (ps_set hN hy hyl he hsw hf)) hs) fun D σ H ⟨r, F, F0, B, S, q⟩ => by
    unfold sForSet at q
    split at q
    · rename_i xs hx
      have ei : iSeq (vRd i) r = ok xs := by
        show rb (vRd i r) _ = _
        unfold vRd
        rw [hx]
        rfl
      refine ⟨r, F, F0, B, S, Thn.ok0 ei fun F1 H1 g1 J hJ => ?_⟩
      obtain ⟨G, Y, w, hG, hY⟩ := hJ
      refine for_it w (fun k σ H => ∃ r F, k ≤ xs.length ∧ Gr F1 H1 F H ∧ SR X.K F0 B r σ H F ∧ Aft X.K ec W F0 B F (loopF g (sSet j φ) (xs.drop k) r) D) ⟨r, F1, Nat.zero_le _, Gr.refl g1.i, S.grow g1, Aft.mono g1.f q⟩ ?_ ?_ ?_
      · rintro k σ H _ ⟨r, F, _, gr, S, _⟩
        exact hG _ gr.h
      · rintro k x σ H H' hk ⟨r, F, _, gr, S, h⟩ y
        have hdrop : ∃ d, xs[k]? = some d ∧ xs.drop k = d :: xs.drop (k + 1) := ⟨xs[k], List.getElem?_eq_getElem hk, List.drop_eq_getElem_cons hk⟩
        obtain ⟨d, hd, hdrop⟩ := hdrop
        obtain ⟨F3, g3, r3⟩ := hY k d _ x H' F hd gr.h gr.f S.gr.i y
        have S3 := S.grow g3
        rw [hdrop] at h
        unfold loopF at h
        split at h
        · exact False.elim h
        · rename_i r1 hput
          refine put_ok S3 r3 hput fun σ2 S4 _ => ?_
          have h3 : Aft X.K ec W F0 B F3 (match sSet j φ r1 with
            | some (.nx r2) => loopF g (sSet j φ) (xs.drop (k + 1)) r2
            | some (.ct r2) => loopF g (sSet j φ) (xs.drop (k + 1)) r2
            | some (.bk r2) => some (.nx r2)
            | o => o) D := Aft.mono g3.f h
          have h4 : Aft X.K ec W F0 B F3 (so (φ r1) r1 fun x => loopF g (sSet j φ) (xs.drop (k + 1)) (r1.set j (.d x))) D := by
            revert h3
            show Aft X.K ec W F0 B F3 (match so (φ r1) r1 fun x => some (.nx (r1.set j (.d x))) with
              | some (.nx r2) => loopF g (sSet j φ) (xs.drop (k + 1)) r2
              | some (.ct r2) => loopF g (sSet j φ) (xs.drop (k + 1)) r2
              | some (.bk r2) => some (.nx r2)
              | o => o) D → _
            match φ r1 with
            | none => exact fun z => z
            | some (.error _) => exact fun z => z
            | some (.ok x) => exact fun z => z
          exact ⟨r1, F3, F0, B, S4, (Aft.so S4 h4).imp fun d F4 H4 _ g4 k4 v rv => ⟨_, F4, hk, (gr.trans g3).trans g4, (S4.grow g4).set rv, k4⟩⟩
      · rintro σ H ⟨r, F, _, gr, S, h⟩
        rw [List.drop_length] at h
        exact h σ F H (Same.refl _) S
    · exact False.elim q
theorem ds_while (n : Nat) (hp : PassesOwn (model X.prog X.w) X.A X.env X.xe) (hc : DT X ec W c β) (hb : DSs X ec W sts b) : DS X ec W (.While c sts [] pos) (sWhile n β b) :=
  psImp (ps_while hp hc hb) fun D σ H ⟨r, F, F0, B, S, q⟩ => by
    refine ⟨fun m σ H => ∃ r F, SR X.K F0 B r σ H F ∧ Aft X.K ec W F0 B F (loopW β b m r) D, ⟨n, r, F, S, q⟩, ?_⟩
    rintro m σ H ⟨r, F, S, q⟩
    cases m with
    | zero => exact False.elim q
    | succ m =>
      refine ⟨r, F, F0, B, S, (Aft.so S q).imp fun k F1 H1 _ g1 h1 => ?_⟩
      cases k with
      | false => exact iteF (h1 σ F1 H1 (Same.refl _) (S.grow g1))
      | true =>
        refine iteT ⟨fun σ' H' => ∃ r F, SR X.K F0 B r σ' H' F ∧ Aft X.K ec W F0 B F (loopW β b m r) D, fun σ' H' h => ⟨m, Nat.lt_succ_self m, h⟩, r, F1, F0, B, S.grow g1, ?_⟩
        revert h1
        show Aft X.K ec W F0 B F1 (match b r with
          | some (.nx r2) => loopW β b m r2
          | some (.ct r2) => loopW β b m r2
          | some (.bk r2) => some (.nx r2)
          | o => o) D → _
        match b r with
        | none => exact fun z => z
        | some (.nx r2) => exact fun z σ' F' H' q S' => ⟨r2, F', S', Aft.mono q z⟩
        | some (.ct r2) => exact fun z σ' F' H' q S' => ⟨r2, F', S', Aft.mono q z⟩
        | some (.bk r2) => exact fun z => z
        | some (.rt d) => exact fun z => z
        | some (.er e r2) => exact fun z => z
        | some (.ro i r2) => exact fun z => z
end
/-! ### a def -/
theorem slots_rep {K : PySem.W.Frag} {F H : Hp} (e : Same F H) : ∀ {ds : List D} {vs : List V} (n : Nat), RepL K F ds vs → SR K F H (ds.map Slot.d ++ List.replicate n Slot.un) (vs.map some ++ List.replicate n none) H F := by
  intro ds vs n h
  have hl := h.length
  refine ⟨Gr.refl e, by rw [List.length_append, List.length_append, List.length_map, List.length_map, List.length_replicate, List.length_replicate, hl], fun i s q => ?_, fun i j s t y z a _ q _ _ _ f1 _ => ?_, ⟨[], fun u hu => absurd hu List.not_mem_nil, fun i xs q => ?_⟩⟩
  · by_cases c : i < ds.length
    · rw [List.getElem?_append_left (by rw [List.length_map]; exact c), List.getElem?_map] at q
      cases ed : ds[i]? with
      | none => rw [ed] at q; cases q
      | some d =>
        rw [ed] at q
        have es : s = .d d := (Option.some.inj q).symm
        subst es
        obtain ⟨v, h1, h2⟩ := h.get ed
        exact ⟨some v, by rw [List.getElem?_append_left (by rw [List.length_map, hl]; exact c), List.getElem?_map, h1]; rfl, v, rfl, h2⟩
    · have hlen : i < ds.length + n := by
        have := get_lt q
        rwa [List.length_append, List.length_map, List.length_replicate] at this
      rw [List.getElem?_append_right (by rw [List.length_map]; omega), List.getElem?_replicate] at q
      split at q
      · have es : s = .un := (Option.some.inj q).symm
        subst es
        refine ⟨none, ?_, trivial⟩
        rw [List.getElem?_append_right (by rw [List.length_map, hl]; omega), List.getElem?_replicate, if_pos (by rw [List.length_map, hl]; omega)]
      · cases q
  · by_cases c : i < ds.length
    · rw [List.getElem?_append_left (by rw [List.length_map]; exact c), List.getElem?_map] at q
      cases ed : ds[i]? with
      | none => rw [ed] at q; cases q
      | some d =>
        rw [ed] at q
        have es : s = .d d := (Option.some.inj q).symm
        subst es
        exact f1
    · rw [List.getElem?_append_right (by rw [List.length_map]; omega), List.getElem?_replicate] at q
      split at q
      · have es : s = .un := (Option.some.inj q).symm
        subst es
        exact f1
      · cases q
  · exfalso
    by_cases c : i < ds.length
    · rw [List.getElem?_append_left (by rw [List.length_map]; exact c), List.getElem?_map] at q
      cases ed : ds[i]? with
      | none => rw [ed] at q; cases q
      | some d =>
        rw [ed] at q
        cases q
    · rw [List.getElem?_append_right (by rw [List.length_map]; omega), List.getElem?_replicate] at q
      split at q
      · cases q
      · cases q
theorem fn_ok {P : Program} {w : World} {K : PySem.W.Frag} {mg : Str → Option Value} {base : Heap} {ec : EC} {x qual : Str} {st : Stmt} {f : Addr} {fd : FuncData} {N ps : List Str} {k n p : Nat} {b : SX} (F : Fun K x qual st f fd) (S : FnScope N ps (defScope st))
    (hn : N.length = n := by rfl) (hp : ps.length = p := by rfl)
    (body : ∀ (cdv : Value) (A : Around) (outer : List PySem.Env) (s : Shared) (H : Hp) (E : XK), Room k (A.deeper (envOfC qual (defScope st) s.heap.objs.size f cdv)) →
      DSs (cxOf (L2.CX P w) P w K mg base N qual (defScope st) f cdv A outer s H E) ec (fun c d _ H => E c d H) (defBody st) b) :
    FnOk P w K mg base (L2.CX P w) (k + 1) f fd ps (spD K ec p (runD n p b)) := by
  refine F.okX S (fun vs H Q E h => by rw [hp]; exact spD_len h) (fun cdv A outer s H vs Q E hr h => ⟨_, body cdv A outer s H E hr, ?_⟩)
  obtain ⟨ds, F, h1, sf, h2, h3⟩ := h
  refine ⟨slots n ds, F, F, H, ?_, ?_⟩
  · have e := slots_rep sf (n - ds.length) h2
    have e2 : L2.start N vs = vs.map some ++ List.replicate (n - ds.length) none := by
      unfold L2.start
      rw [hn, h2.length]
    rw [e2]
    exact e
  · unfold runD at h3
    rw [if_pos h1] at h3
    revert h3
    match b (slots n ds) with
    | none => exact fun z => z
    | some (.nx r) => exact fun z σ' F' H' sf S' => Thn.ok S'.gr.i (a := PyData.none) (Thn.grow S'.gr z) .non rfl
    | some (.rt d) => exact fun z v F' H' sf g rv => Thn.ok g.i (a := d) (Thn.grow g z) v rv
    | some (.bk r) => exact fun z => False.elim z
    | some (.ct r) => exact fun z => False.elim z
    | some (.er e r) => exact fun z dx σ' F' H' sf S' he => z dx F' H' S'.gr he
    | some (.ro i r) => exact fun z => False.elim z
/-- called with data ds it gives a new list of f ds, that nothing else knows -/
def spO (K : PySem.W.Frag) (ec : EC) (n : Nat) (f : List D → R (List D)) : Sp := fun vs H Q E => ∃ ds F, ds.length = n ∧ Same F H ∧ RepL K F ds vs ∧
  Thn K ec (fun c d _ H => E c d H) (f ds) [] F H fun xs F' H' => ∀ p us, H' p = some (.lst us) → F' p = none → H p = none → RepL K F' xs us → Q (.ref p) H'
theorem spO_len {K : PySem.W.Frag} {ec : EC} {n : Nat} {f : List D → R (List D)} {vs : List V} {H : Hp} {Q : VK} {E : XK} (h : spO K ec n f vs H Q E) : vs.length = n := by
  obtain ⟨ds, F, h1, _, h2, _⟩ := h
  rw [h2.length, h1]
theorem fn_okO {P : Program} {w : World} {K : PySem.W.Frag} {mg : Str → Option Value} {base : Heap} {ec : EC} {x qual : Str} {st : Stmt} {f : Addr} {fd : FuncData} {N ps : List Str} {k n p : Nat} {b : SX} (F : Fun K x qual st f fd) (S : FnScope N ps (defScope st))
    (hn : N.length = n := by rfl) (hp : ps.length = p := by rfl)
    (body : ∀ (cdv : Value) (A : Around) (outer : List PySem.Env) (s : Shared) (H : Hp) (E : XK), Room k (A.deeper (envOfC qual (defScope st) s.heap.objs.size f cdv)) →
      DSs (cxOf (L2.CX P w) P w K mg base N qual (defScope st) f cdv A outer s H E) ec (fun c d _ H => E c d H) (defBody st) b) :
    FnOk P w K mg base (L2.CX P w) (k + 1) f fd ps (spO K ec p (runO n p b)) := by
  refine F.okX S (fun vs H Q E h => by rw [hp]; exact spO_len h) (fun cdv A outer s H vs Q E hr h => ⟨_, body cdv A outer s H E hr, ?_⟩)
  obtain ⟨ds, F, h1, sf, h2, h3⟩ := h
  refine ⟨slots n ds, F, F, H, ?_, ?_⟩
  · have e := slots_rep sf (n - ds.length) h2
    have e2 : L2.start N vs = vs.map some ++ List.replicate (n - ds.length) none := by
      unfold L2.start
      rw [hn, h2.length]
    rw [e2]
    exact e
  · unfold runO at h3
    rw [if_pos h1] at h3
    revert h3
    match b (slots n ds) with
    | none => exact fun z => z
    | some (.nx r) => exact fun z => False.elim z
    | some (.rt d) => exact fun z => False.elim z
    | some (.bk r) => exact fun z => False.elim z
    | some (.ct r) => exact fun z => False.elim z
    | some (.er e r) => exact fun z dx σ' F' H' sf S' he => z dx F' H' S'.gr he
    | some (.ro i r) =>
      intro z v σ' F' H' sf' S' hv
      dsimp only at z
      cases hi : r[i]? with
      | none => rw [hi] at z; exact False.elim z
      | some s =>
        cases s with
        | own xs =>
          rw [hi] at z
          obtain ⟨a, us, e, h4, h5, h6, h7⟩ := S'.slot hi hv
          cases e
          have z' : Thn K ec (fun c d _ H => E c d H) (ok xs) [] F H fun xs F' H' => ∀ p us, H' p = some (.lst us) → F' p = none → H p = none → RepL K F' xs us → Q (.ref p) H' := z
          exact z' F' H' S'.gr a us h4 h5 h6 h7
        | _ => rw [hi] at z; exact False.elim z
/-! ### a def that stands behind the top, and what it gives -/
structure DOk (P : Program) (w : World) (K : PySem.W.Frag) (mg : Str → Option Value) (base : Heap) (ec : EC) (x : Str) (ps : List Str) (k p : Nat) (g : List D → R D) : Prop where
  ex : ∃ (f : Addr) (fd : FuncData), mg x = some (.ref f) ∧ PySem.W.keepIn K (.ref f) = true ∧ Binds K fd ps [] ∧ FnOk P w K mg base (L2.CX P w) k f fd ps (spD K ec p g) ∧ ∃ oc od sl, K.lookup f = some ⟨oc, od, .func fd, sl⟩
/-- a def as the top has made it -/
theorem Fun.at {K : PySem.W.Frag} {x qual : Str} {st : Stmt} {f : Addr} {fd : FuncData} (F : Fun K x qual st f fd) : ∃ oc od sl, K.lookup f = some ⟨oc, od, .func fd, sl⟩ := by
  obtain ⟨oc, od, _, _, _, _, _, _, sl, _, h, _⟩ := F.ex
  exact ⟨oc, od, sl, h⟩
structure DAt (K : PySem.W.Frag) (mg : Str → Option Value) (x : Str) (st : Stmt) (ps : List Str) : Prop where
  ex : ∃ (f : Addr) (fd : FuncData), mg x = some (.ref f) ∧ Fun K x x st f fd ∧ Binds K fd ps []
theorem DAt.ok {P : Program} {w : World} {K : PySem.W.Frag} {mg : Str → Option Value} {base : Heap} {ec : EC} {x : Str} {st : Stmt} {N ps : List Str} {k n p : Nat} {b : SX} (D : DAt K mg x st ps) (S : FnScope N ps (defScope st))
    (hn : N.length = n := by rfl) (hp : ps.length = p := by rfl)
    (body : ∀ (f : Addr) (cdv : Value) (A : Around) (outer : List PySem.Env) (s : Shared) (H : Hp) (E : XK), Room k (A.deeper (envOfC x (defScope st) s.heap.objs.size f cdv)) →
      DSs (cxOf (L2.CX P w) P w K mg base N x (defScope st) f cdv A outer s H E) ec (fun c d _ H => E c d H) (defBody st) b) :
    DOk P w K mg base ec x ps (k + 1) p (runD n p b) := by
  obtain ⟨f, fd, h1, h2, h3⟩ := D.ex
  exact ⟨f, fd, h1, h2.kp, h3, fn_ok h2 S hn hp (body f), Fun.at h2⟩
theorem DOk.fuel {P : Program} {w : World} {K : PySem.W.Frag} {mg : Str → Option Value} {base : Heap} {ec : EC} {x : Str} {ps : List Str} {k p : Nat} {st : Stmt} (D : DAt K mg x st ps) (hp : ps.length = p) : DOk P w K mg base ec x ps k p (fun _ => none) := by
  obtain ⟨f, fd, h1, h2, h3⟩ := D.ex
  refine ⟨f, fd, h1, h2.kp, h3, ⟨fun vs H Q E h => by rw [hp]; exact spD_len h, fun A outer s H args us vs Q E _ _ _ _ h => ?_⟩, Fun.at h2⟩
  obtain ⟨ds, F, _, _, _, h4⟩ := h
  exact False.elim h4
/-- the same of a def that gives a list of its own -/
structure DOkO (P : Program) (w : World) (K : PySem.W.Frag) (mg : Str → Option Value) (base : Heap) (ec : EC) (x : Str) (ps : List Str) (k p : Nat) (g : List D → R (List D)) : Prop where
  ex : ∃ (f : Addr) (fd : FuncData), mg x = some (.ref f) ∧ PySem.W.keepIn K (.ref f) = true ∧ Binds K fd ps [] ∧ FnOk P w K mg base (L2.CX P w) k f fd ps (spO K ec p g)
theorem DAt.okO {P : Program} {w : World} {K : PySem.W.Frag} {mg : Str → Option Value} {base : Heap} {ec : EC} {x : Str} {st : Stmt} {N ps : List Str} {k n p : Nat} {b : SX} (D : DAt K mg x st ps) (S : FnScope N ps (defScope st))
    (hn : N.length = n := by rfl) (hp : ps.length = p := by rfl)
    (body : ∀ (f : Addr) (cdv : Value) (A : Around) (outer : List PySem.Env) (s : Shared) (H : Hp) (E : XK), Room k (A.deeper (envOfC x (defScope st) s.heap.objs.size f cdv)) →
      DSs (cxOf (L2.CX P w) P w K mg base N x (defScope st) f cdv A outer s H E) ec (fun c d _ H => E c d H) (defBody st) b) :
    DOkO P w K mg base ec x ps (k + 1) p (runO n p b) := by
  obtain ⟨f, fd, h1, h2, h3⟩ := D.ex
  exact ⟨f, fd, h1, h2.kp, h3, fn_okO h2 S hn hp (body f)⟩
section
variable {X : Cx} {ec : EC} {W : WX} {e : Expr} {es : List Expr} {pos p : Pos}
theorem dl_callO {j k n : Nat} {ps : List Str} {g : List D → R (List D)} {x : Str} {as : List EX} (G : DOkO X.prog X.w X.K X.mg X.base ec x ps j n g) (hr : Room k X.A) (tk : Takes X W) (hjk : j ≤ k) (hg : Gl X x) (ha : DA X ec W (e :: es) (vArgs as)) (hn : as.length = n := by rfl) (hdb : (x == ("__debug__" : Str)) = false := by decide)
    (he : starEach (e :: es) X.env = (false, eval e X.env) :: starEach es X.env := by rfl) (hpl : (backTo pos (starEach es X.env)).any (·.1) = false := by rfl) : DLi X ec W (.Call (.Name x p) (e :: es) [] pos) (lCall g as) := by
  obtain ⟨f, fd, h1, h2, h3, h4⟩ := G.ex
  refine peImp (pe_callS h4 (hr.mono hjk) hg h1 h2 h3 (fun σ => passAt tk σ) ha hdb he hpl) fun σ H Q ⟨r, F, F0, B, S, q⟩ =>
    ⟨r, F, F0, B, S, (Thn.bind q).imp fun ds F1 H1 ex g1 k1 vs rs => ⟨ds, F1, by rw [vArgs_len ex]; exact hn, g1.i, rs, ?_⟩⟩
  revert k1
  match g ds with
  | none => exact fun z => z
  | some (.error _) => exact fun z => z
  | some (.ok xs) =>
    intro z F' H' g' p us hp fp hp0 ru
    have z' : Thn X.K ec W (ok xs) σ F1 H1 fun xs F' H' => ∀ p vs, H' p = none → RepL X.K F' xs vs → Q (.ref p) (upd H' p (.lst vs)) := z
    have g2 : Gr F1 H1 F' (DL.del H' p) := by
      refine ⟨g'.f, fun b o q => ?_, fun b o q => ?_, g'.n⟩
      · rw [del_ne (ne_of_none q hp0)]
        exact g'.h b o q
      · rw [del_ne (ne_of_none q fp)]
        exact g'.i b o q
    have z2 := z' F' (DL.del H' p) g2 p us del_self ru
    rw [upd_del hp] at z2
    exact z2
end
section
variable {X : Cx} {ec : EC} {W : WX} {e : Expr} {es : List Expr} {pos p : Pos}
theorem de_callD {j k n : Nat} {ps : List Str} {g : List D → R D} {x : Str} {as : List EX} (G : DOk X.prog X.w X.K X.mg X.base ec x ps j n g) (hr : Room k X.A) (tk : Takes X W) (hjk : j ≤ k) (hg : Gl X x) (ha : DA X ec W (e :: es) (vArgs as)) (hn : as.length = n := by rfl) (hdb : (x == ("__debug__" : Str)) = false := by decide)
    (he : starEach (e :: es) X.env = (false, eval e X.env) :: starEach es X.env := by rfl) (hpl : (backTo pos (starEach es X.env)).any (·.1) = false := by rfl) : DE X ec W (.Call (.Name x p) (e :: es) [] pos) (vCall g as) := by
  obtain ⟨f, fd, h1, h2, h3, h4, _⟩ := G.ex
  exact de_call h4 (hr.mono hjk) hg h1 h2 h3 (fun σ => passAt tk σ) ha hn hdb he hpl
end
/-- the built-ins that the text uses by their names -/
structure Bl (mg : Str → Option Value) : Prop where
  len : mg "len" = none
  range : mg "range" = none
  isinstance : mg "isinstance" = none
  int : mg "int" = none
  bool : mg "bool" = none
  str : mg "str" = none
  list : mg "list" = none
  tuple : mg "tuple" = none
  dict : mg "dict" = none
  set : mg "set" = none
  min : mg "min" = none
  max : mg "max" = none
  sum : mg "sum" = none
  all : mg "all" = none
  any : mg "any" = none
  sorted : mg "sorted" = none
  enumerate : mg "enumerate" = none
  zip : mg "zip" = none
/-! ### the law's own end -/
theorem ints_rep {K : PySem.W.Frag} {F : Hp} : ∀ (ns : List Int), RepL K F (ns.map PyData.int) (ns.map V.int)
  | [] => rfl
  | n :: ns => ⟨_, _, rfl, rfl, ints_rep ns⟩
/-- the promise where no error comes -/
def spOk (K : PySem.W.Frag) (n : Nat) (g : List D → R D) : Sp := fun vs H Q E => ∃ ds F d, ds.length = n ∧ Same F H ∧ RepL K F ds vs ∧ g ds = ok d ∧ ∀ v F' H', Gr F H F' H' → Rep K F' d v → Q v H'
theorem spOk_D {K : PySem.W.Frag} {ec : EC} {n : Nat} {g : List D → R D} {vs : List V} {H : Hp} {Q : VK} {E : XK} (h : spOk K n g vs H Q E) : spD K ec n g vs H Q E := by
  obtain ⟨ds, F, d, h1, h2, h3, h4, h5⟩ := h
  refine ⟨ds, F, h1, h2, h3, ?_⟩
  rw [h4]
  exact fun F' H' g' v rv => h5 v F' H' g' rv
theorem law_walk {l : PySem.W.OpenLaw} {q : Program} {loose : List Str} {XP : (Str → Option Value) → Heap → Prop} {YP : World → Heap → Prop} {d : DefRec} {K : Params → PySem.W.Frag} {n k : Nat} {x : Str} {g : List D → R D} (hn : l.most = some n) (hn2 : n ≤ sizeLine) (hdf : d.params.defaults = []) (hr : Room k callerA)
    (hg : ∀ ns : List Int, ns.length ≤ n → g [.list (ns.map PyData.int)] = ok (.bool true))
    (hY : ∀ (w : World) (h : Heap), YP w h → (K w.params).In h)
    (F : ∀ (w : World) (mg : Str → Option Value) (fa : Addr) (h : Heap), (K w.params).In h → h.Ns mainGlobals mg → mg d.name = some (.ref fa) →
      ∃ fd : FuncData, (∀ (s : Shared) (u : Value), BindsTo s fd ⟨[u], []⟩ [(x, u)]) ∧ ∀ base : Heap, (K w.params).In base → base.Ns mainGlobals mg → ∃ ec : EC, FnOk l.prog w (K w.params) mg base (L2.CX l.prog w) k fa fd [x] (spD (K w.params) ec 1 g)) :
    PySem.W.WalkO q loose XP YP l.row.toRowW d [] (fun f vs => PySem.call f vs) := by
  refine L2.walk_of (K := K) (CX := fun w => L2.CX l.prog w) (sp := fun w => spOk (K w.params) 1 g) (x := x) (k := k) hn hn2 hdf hr hY (fun w mg fa h h1 h2 h3 => ?_) (fun w H a ns h1 _ h2 => ?_) (fun w H s e s' h => ?_)
  · obtain ⟨fd, h4, h5⟩ := F w mg fa h h1 h2 h3
    refine ⟨fd, h4, fun base h6 h7 => ?_⟩
    obtain ⟨ec, h8⟩ := h5 base h6 h7
    exact h8.imp fun vs H Q E z => spOk_D z
  · exact ⟨[.list (ns.map PyData.int)], H, _, rfl, Same.refl H, ⟨_, _, rfl, ⟨a, _, rfl, h2, ints_rep ns⟩, rfl⟩, hg ns h1, fun v F' H' g' rv => rv⟩
  · obtain ⟨_, _, _, _, _, _, _, _, _, _, _, _, z⟩ := h
    exact z
end DL
/-! A set of tuples that hold ints and such tuples: how many there are. -/
namespace DL
open PySem PySem.Spec PyProof.Rows L2

mutual
def hD : D → Int
  | .int i => hashInt i
  | .tuple xs => reduceHash (Builtin.Tuple.tupleHashOf (hDs xs))
  | _ => 0
def hDs : List D → List Int
  | [] => []
  | x :: xs => hD x :: hDs xs
end
section
variable {P : Program} {w : World} {A : Around} {E : Value → Shared → Prop} {s : Shared}
/-- v is the datum d in the heap h -/
abbrev Is (h : Heap) (d : D) (v : Value) : Prop := ∃ as, Reads h v d as
abbrev IsAll (h : Heap) (ds : List D) (vs : List Value) : Prop := ∃ as, ReadsAll h vs ds as
theorem IsAll.cons {h : Heap} {d : D} {ds : List D} {vs : List Value} (x : IsAll h (d :: ds) vs) : ∃ v us, vs = v :: us ∧ Is h d v ∧ IsAll h ds us := by
  obtain ⟨as, r⟩ := x
  cases r with
  | cons r1 r2 => exact ⟨_, _, rfl, ⟨_, r1⟩, ⟨_, r2⟩⟩
theorem IsAll.nil {h : Heap} {vs : List Value} (x : IsAll h [] vs) : vs = [] := by
  obtain ⟨as, r⟩ := x
  cases r
  rfl
theorem Is.int {h : Heap} {i : Int} {v : Value} (x : Is h (.int i) v) : ∃ t, v = .int i t := by
  obtain ⟨as, r⟩ := x
  cases r with
  | int _ t => exact ⟨t, rfl⟩
theorem Is.tup {h : Heap} {ds : List D} {v : Value} (x : Is h (.tuple ds) v) : ∃ a o vs n, v = .ref a ∧ h.get? a = some o ∧ o.cls = .type "tuple" ∧ o.data = .seq vs n ∧ IsAll h ds vs.toList := by
  obtain ⟨as, r⟩ := x
  cases r with
  | tuple h1 h2 h3 h4 => exact ⟨_, _, _, _, rfl, h1, h2, h3, ⟨_, h4⟩⟩
theorem deepI_cases {n : Nat} {d : D} (h : deepI n d = true) : (∃ i, d = .int i) ∨ ∃ m xs, n = m + 1 ∧ d = .tuple xs ∧ ∀ x ∈ xs, deepI m x = true := by
  cases d with
  | int i => exact .inl ⟨i, rfl⟩
  | tuple xs =>
    cases n with
    | zero => cases h
    | succ m =>
      refine .inr ⟨m, xs, rfl, rfl, fun x hx => ?_⟩
      have h' : xs.all (deepI m) = true := h
      exact List.all_eq_true.mp h' x hx
  | _ => cases n <;> cases h
/-- a walk over the items of a tuple: nothing is found -/
theorem each_item {α : Type} {f : Value → Option α × PUnit → Sem (ForInStep (Option α × PUnit))} {ds : List D} {vs : Array Value} {p : D → Prop} (hp : ∀ d ∈ ds, p d) (hi : IsAll s.heap ds vs.toList)
    (step : ∀ (d : D) (v : Value) (Q : ForInStep (Option α × PUnit) → Shared → Prop), p d → Is s.heap d v → Q (.yield (none, ⟨⟩)) s → wpAny (model P w) A (f v (none, ⟨⟩)) Q E s) {Q : Option α × PUnit → Shared → Prop} (h : Q (none, ⟨⟩) s) :
    wpAny (model P w) A (forIn vs (none, ⟨⟩) f) Q E s := by
  rw [← Array.forIn_toList]
  refine wpAny_forIn_list _ (fun left r s' => r = (none, ⟨⟩) ∧ s' = s ∧ ∃ es, (∀ d ∈ es, p d) ∧ IsAll s.heap es left) _ ?_ ?_ _ _ ⟨rfl, rfl, ds, hp, hi⟩
  · rintro v left r s' ⟨rfl, rfl, es, h1, h2⟩
    cases es with
    | nil => exact absurd h2.nil (by simp)
    | cons d es =>
      obtain ⟨v', us, e, h3, h4⟩ := h2.cons
      cases e
      exact step d v _ (h1 d List.mem_cons_self) h3 ⟨rfl, rfl, es, fun x hx => h1 x (List.mem_cons_of_mem _ hx), h4⟩
  · rintro r s' ⟨rfl, rfl, _⟩
    exact h
theorem quiet_eq : ∀ (n : Nat) {d : D} {v : Value} {Q : Bool → Shared → Prop}, deepI n d = true → Is s.heap d v → ∀ f, n < f → Q true s → wpAny (model P w) A (eqIsQuiet f v) Q E s := by
  intro n
  induction n with
  | zero =>
    intro d v Q hd hv f hf hq
    rcases deepI_cases hd with ⟨i, rfl⟩ | ⟨m, xs, hm, _⟩
    · obtain ⟨t, rfl⟩ := hv.int
      cases f <;> exact wpAny_pure hq
    · cases hm
  | succ n ih =>
    intro d v Q hd hv f hf hq
    rcases deepI_cases hd with ⟨i, rfl⟩ | ⟨m, xs, hm, rfl, hx⟩
    · obtain ⟨t, rfl⟩ := hv.int
      cases f <;> exact wpAny_pure hq
    · obtain rfl : n = m := by omega
      obtain ⟨a, o, vs, k, rfl, h1, h2, h3, h4⟩ := hv.tup
      have hT : s.TypeIs (.ref a) "tuple" := ⟨o, h1, h2⟩
      cases f with
      | zero => omega
      | succ f =>
        unfold eqIsQuiet
        refine wpAny_bind (wpAny_specialOf hT F.slot_tuple_eq.lookup ?_)
        show wpAny _ _ (isInstance (.ref a) (.type "tuple") >>= _) _ _ s
        refine wpAny_bind (wpAny_isInstance hT isSubtype_tuple_tuple ?_)
        simp only [Bool.not_true, Bool.false_eq_true, if_false]
        show wpAny _ _ (seqItems? (.ref a) >>= _) _ _ s
        refine wpAny_bind (wpAny_seqItems h1 h3 ?_)
        refine wpAny_bind (each_item (p := fun d => deepI n d = true) hx h4 (fun d v Q' hd' hv' hq' => ?_) ?_)
        · refine wpAny_bind (ih hd' hv' f (by omega) ?_)
          simp only [Bool.not_true, Bool.false_eq_true, if_false]
          exact wpAny_pure hq'
        · exact wpAny_pure hq
theorem quiet_cls : ∀ (n : Nat) {d : D} {v : Value} {Q : Bool → Shared → Prop}, deepI n d = true → Is s.heap d v → ∀ f, n < f → Q false s → wpAny (model P w) A (ofAClassStatement f v) Q E s := by
  intro n
  induction n with
  | zero =>
    intro d v Q hd hv f hf hq
    rcases deepI_cases hd with ⟨i, rfl⟩ | ⟨m, xs, hm, _⟩
    · obtain ⟨t, rfl⟩ := hv.int
      cases f <;> exact wpAny_pure hq
    · cases hm
  | succ n ih =>
    intro d v Q hd hv f hf hq
    rcases deepI_cases hd with ⟨i, rfl⟩ | ⟨m, xs, hm, rfl, hx⟩
    · obtain ⟨t, rfl⟩ := hv.int
      cases f <;> exact wpAny_pure hq
    · obtain rfl : n = m := by omega
      obtain ⟨a, o, vs, k, rfl, h1, h2, h3, h4⟩ := hv.tup
      have hT : s.TypeIs (.ref a) "tuple" := ⟨o, h1, h2⟩
      cases f with
      | zero => omega
      | succ f =>
        unfold ofAClassStatement
        refine wpAny_bind (wpAny_typeOf hT ?_)
        dsimp only
        have e : (("tuple" : String) == "tuple") = true := by decide
        simp only [e, if_true, Bool.not_true, Bool.false_eq_true, if_false]
        try refine wpAny_bind (wpAny_pure ?_)
        try simp only [Bool.not_true, Bool.false_eq_true, if_false]
        show wpAny _ _ (seqItems? (.ref a) >>= _) _ _ s
        refine wpAny_bind (wpAny_seqItems h1 h3 (wpAny_bind ?_))
        refine each_item (p := fun d => deepI n d = true) hx h4 (fun d v Q' hd' hv' hq' => ?_) ?_
        · refine wpAny_bind (ih hd' hv' f (by omega) ?_)
          simp only [Bool.false_eq_true, if_false]
          exact wpAny_pure hq'
        · exact wpAny_pure hq
theorem by_value : ∀ (n : Nat) {d : D} {v : Value} {Q : Bool → Shared → Prop}, deepI n d = true → Is s.heap d v → ∀ f, n < f → Q true s → wpAny (model P w) A (hashByValue f v) Q E s := by
  intro n
  induction n with
  | zero =>
    intro d v Q hd hv f hf hq
    rcases deepI_cases hd with ⟨i, rfl⟩ | ⟨m, xs, hm, _⟩
    · obtain ⟨t, rfl⟩ := hv.int
      cases f <;> exact wpAny_pure hq
    · cases hm
  | succ n ih =>
    intro d v Q hd hv f hf hq
    rcases deepI_cases hd with ⟨i, rfl⟩ | ⟨m, xs, hm, rfl, hx⟩
    · obtain ⟨t, rfl⟩ := hv.int
      cases f <;> exact wpAny_pure hq
    · obtain rfl : n = m := by omega
      obtain ⟨a, o, vs, k, rfl, h1, h2, h3, h4⟩ := hv.tup
      have hT : s.TypeIs (.ref a) "tuple" := ⟨o, h1, h2⟩
      cases f with
      | zero => omega
      | succ f =>
        unfold hashByValue
        refine wpAny_bind (wpAny_specialOf hT F.slot_tuple_hash.lookup ?_)
        show wpAny _ _ (seqItems? (.ref a) >>= _) _ _ s
        refine wpAny_bind (wpAny_seqItems h1 h3 (wpAny_bind ?_))
        refine each_item (p := fun d => deepI n d = true) hx h4 (fun d v Q' hd' hv' hq' => ?_) ?_
        · refine wpAny_bind (ih hd' hv' f (by omega) ?_)
          simp only [Bool.not_true, Bool.false_eq_true, if_false]
          exact wpAny_pure hq'
        · exact wpAny_pure hq
/-- a search among such shows nothing -/
theorem unseen {d : D} {a : Addr} {ys : List Value} {Q : Bool → Shared → Prop} (hd : deepI 3 d = true) (hv : Is s.heap d (.ref a)) (hy : ∀ y ∈ ys, ∃ c b, y = .ref b ∧ deepI 3 c = true ∧ Is s.heap c y) (h : Q false s) : wpAny (model P w) A (searchCouldBeSeen (.ref a) ys) Q E s := by
  unfold searchCouldBeSeen
  refine wpAny_bind (wpAny_forIn_list _ (fun left r s' => r.1 = none ∧ s' = s ∧ ∀ y ∈ left, ∃ c b, y = .ref b ∧ deepI 3 c = true ∧ Is s.heap c y) _ ?_ ?_ _ _ ⟨rfl, rfl, hy⟩)
  · rintro y left r s' ⟨hr, rfl, hall⟩
    obtain ⟨c, b, rfl, h1, h2⟩ := hall y List.mem_cons_self
    have go : ∀ u ∈ left, ∃ c b, u = .ref b ∧ deepI 3 c = true ∧ Is s'.heap c u := fun u hu => hall u (List.mem_cons_of_mem _ hu)
    dsimp only
    by_cases hab : (a == b || (carriedByValue (.ref a) && carriedByValue (.ref b))) = true
    · exact wp_if_pos hab (wpAny_pure ⟨rfl, rfl, go⟩)
    · refine wp_if_neg hab ?_
      refine wpAny_bind (quiet_eq 3 hd hv 8 (by decide) ?_)
      simp only [Bool.not_true, Bool.false_eq_true, if_false]
      refine wpAny_bind (quiet_eq 3 h1 h2 8 (by decide) ?_)
      simp only [Bool.not_true, Bool.false_eq_true, if_false]
      refine wpAny_bind (quiet_cls 3 hd hv 8 (by decide) ?_)
      simp only [Bool.false_eq_true, if_false]
      refine wpAny_bind (quiet_cls 3 h1 h2 8 (by decide) ?_)
      simp only [Bool.false_eq_true, if_false]
      exact wpAny_pure ⟨rfl, rfl, go⟩
  · rintro ⟨r1, r2⟩ s' ⟨hr, rfl, _⟩
    simp only at hr
    subst hr
    exact wpAny_pure h
/-! ### the hash -/
theorem hash_of : ∀ (n : Nat) {d : D} {v : Value} {A : Around} {s : Shared} {Q : Int → Shared → Prop}, deepI n d = true → Is s.heap d v → A.units + 8 * n < cLine → (∀ tk, Q (hD d) { s with toks := tk }) → wpAny (model P w) A (pyHash v) Q E s := by
  intro n
  induction n with
  | zero =>
    intro d v A s Q hd hv hu hq
    rcases deepI_cases hd with ⟨i, rfl⟩ | ⟨m, xs, hm, _⟩
    · obtain ⟨t, rfl⟩ := hv.int
      exact wpAny_pyHash_int (hq _)
    · cases hm
  | succ n ih =>
    intro d v A s Q hd hv hu hq
    rcases deepI_cases hd with ⟨i, rfl⟩ | ⟨m, xs, hm, rfl, hx⟩
    · obtain ⟨t, rfl⟩ := hv.int
      exact wpAny_pyHash_int (hq _)
    · obtain rfl : n = m := by omega
      obtain ⟨a, o, vs, k, rfl, h1, h2, h3, h4⟩ := hv.tup
      have hT : s.TypeIs (.ref a) "tuple" := ⟨o, h1, h2⟩
      unfold pyHash
      first | unfold pyHashByItsType | skip
      first | refine wpAny_bind (wpAny_cRoomFor_or (.inr (by omega)) ?_) | skip
      refine wpAny_bind (wpAny_specialOf hT F.slot_tuple_hash.lookup ?_)
      show wpAny _ _ (if (some (Value.builtin "tuple.__hash__") == some Value.none) = true then _ else _) Q E s
      rw [if_neg (by rw [beq_builtin_none]; exact Bool.false_ne_true)]
      refine wpAny_bind (wpAny_specialOf hT F.slot_tuple_hash.lookup ?_)
      show wpAny _ _ (callSpecialIfBoundUnlessNone? (.ref a) "__hash__" _ >>= _) Q E s
      refine wpAny_bind (wpAny_callSpecialIfBoundUnlessNone?_slot hT F.slot_tuple_hash (wpAny_call_entry F.slot_tuple_hash hT F.entry_tuple_hash ?_ (F.args_tuple_hash_1 _)))
      show wpAny _ _ (Builtin.Tuple.tupleItemsOf (.ref a) >>= _) _ _ s
      refine wpAny_bind (wpAny_tupleItemsOf h1 h3 (wpAny_bind ?_))
      rw [← Array.forIn_toList]
      refine wpAny_forIn_list _ (fun left b s' => (∃ tk, s' = { s with toks := tk }) ∧ ∃ done es, (∀ d ∈ es, deepI n d = true) ∧ IsAll s.heap es left ∧ b.toList = done ∧ done ++ hDs es = hDs xs) _ ?_ ?_ _ _ ⟨⟨s.toks, rfl⟩, [], xs, hx, h4, rfl, rfl⟩
      · rintro y left b s' ⟨⟨tk, rfl⟩, done, es, g1, g2, g3, g4⟩
        cases es with
        | nil => exact absurd g2.nil (by simp)
        | cons d es =>
          obtain ⟨v', us, e, g5, g6⟩ := g2.cons
          cases e
          refine wpAny_bind (ih (s := { s with toks := tk }) (g1 d List.mem_cons_self) g5 (by show A.units + 1 + 8 * n < cLine; omega) fun tk' => ?_)
          first
            | exact wpAny_pure ⟨⟨tk', rfl⟩, done ++ [hD d], es, fun x hx => g1 x (List.mem_cons_of_mem _ hx), g6, by simp [g3], by rw [← g4]; simp [hDs]⟩
            | exact wpAny_bind (wpAny_pure (wpAny_pure ⟨⟨tk', rfl⟩, done ++ [hD d], es, fun x hx => g1 x (List.mem_cons_of_mem _ hx), g6, by simp [g3], by rw [← g4]; simp [hDs]⟩))
      · rintro b s' ⟨⟨tk, rfl⟩, done, es, g1, g2, g3, g4⟩
        cases es with
        | cons d es =>
          obtain ⟨_, _, e, _⟩ := g2.cons
          cases e
        | nil =>
          have g5 : b.toList = hDs xs := by
            rw [g3, ← g4]
            simp [hDs]
          show wpAny _ _ (retInt (Builtin.Tuple.tupleHashOf b.toList)) _ _ _
          rw [g5]
          refine wpAny_ret_mkInt ?_
          show wpAny _ _ (if (decide (-(2 : Int) ^ 63 ≤ Builtin.Tuple.tupleHashOf (hDs xs)) && decide (Builtin.Tuple.tupleHashOf (hDs xs) < 2 ^ 63)) = true then _ else _) Q E _
          have hq' : ∀ tk, Q (reduceHash (Builtin.Tuple.tupleHashOf (hDs xs))) { s with toks := tk } := hq
          unfold reduceHash at hq'
          split
          · rename_i hr
            rw [if_pos hr] at hq'
            exact wpAny_pure (hq' _)
          · rename_i hr
            rw [if_neg hr] at hq'
            exact wpAny_bind (wpAny_rule (wpAny_pure (hq' _)))
/-- == -/
theorem deepI_lay : ∀ (n : Nat) {d : D}, deepI n d = true → PyData.canLay0 d = true ∧ d.depth ≤ n := by
  intro n
  induction n with
  | zero =>
    intro d hd
    rcases deepI_cases hd with ⟨i, rfl⟩ | ⟨m, xs, hm, _⟩
    · exact ⟨by simp [PyData.canLay0], by simp [PyData.depth]⟩
    · cases hm
  | succ n ih =>
    intro d hd
    rcases deepI_cases hd with ⟨i, rfl⟩ | ⟨m, xs, hm, rfl, hx⟩
    · exact ⟨by simp [PyData.canLay0], by simp [PyData.depth]⟩
    · obtain rfl : n = m := by omega
      have all : ∀ l : List D, (∀ x ∈ l, deepI n x = true) → PyData.canLayAll0 l = true ∧ PyData.depthAll l ≤ n := by
        intro l
        induction l with
        | nil => intro _; exact ⟨by simp [PyData.canLayAll0], by simp [PyData.depthAll]⟩
        | cons x l ihl =>
          intro h
          have h1 := ih (h x List.mem_cons_self)
          have h2 := ihl fun y hy => h y (List.mem_cons_of_mem _ hy)
          exact ⟨by simp [PyData.canLayAll0, h1.1, h2.1], by simp only [PyData.depthAll]; omega⟩
      have h1 := all xs hx
      exact ⟨by simp only [PyData.canLay0]; exact h1.1, by simp only [PyData.depth]; omega⟩
theorem same_of {d e : D} {u v : Value} {Q : Bool → Shared → Prop} (hd : deepI 3 d = true) (he : deepI 3 e = true) (hu : Is s.heap d u) (hv : Is s.heap e v) (hr : A.units + 8 < cLine) (h : Q (PyData.eqv d e) s) : wpAny (model P w) A (eqBool u v) Q E s := by
  obtain ⟨as, r1⟩ := hu
  obtain ⟨bs, r2⟩ := hv
  have h1 := deepI_lay 3 hd
  have h2 := deepI_lay 3 he
  exact SeqAt.eqBoolOverData P w A E s u v d e as bs Q r1 r2 h1.1 h2.1 (by
    have : min d.depth e.depth ≤ d.depth := Nat.min_le_left _ _
    omega) h
end
/-- such data are equal just if they are the same -/
theorem eqv_same : ∀ (n : Nat) {d e : D}, deepI n d = true → deepI n e = true → (PyData.eqv d e = true ↔ d = e) := by
  intro n
  induction n with
  | zero =>
    intro d e hd he
    rcases deepI_cases hd with ⟨i, rfl⟩ | ⟨m, xs, hm, _⟩
    · rcases deepI_cases he with ⟨j, rfl⟩ | ⟨m, xs, hm, _⟩
      · simp [PyData.eqv]
      · cases hm
    · cases hm
  | succ n ih =>
    intro d e hd he
    rcases deepI_cases hd with ⟨i, rfl⟩ | ⟨m, xs, hm, rfl, hx⟩
    · rcases deepI_cases he with ⟨j, rfl⟩ | ⟨m, xs, hm, rfl, _⟩
      · simp [PyData.eqv]
      · simp [PyData.eqv]
    · rcases deepI_cases he with ⟨j, rfl⟩ | ⟨m2, ys, hm2, rfl, hy⟩
      · simp [PyData.eqv]
      · obtain rfl : n = m := by omega
        obtain rfl : n = m2 := by omega
        have all : ∀ l k : List D, (∀ x ∈ l, deepI n x = true) → (∀ x ∈ k, deepI n x = true) → (PyData.eqvAll l k = true ↔ l = k) := by
          intro l
          induction l with
          | nil =>
            intro k _ _
            cases k <;> simp [PyData.eqvAll]
          | cons x l ihl =>
            intro k h1 h2
            cases k with
            | nil => simp [PyData.eqvAll]
            | cons y k =>
              have a1 := ih (h1 x List.mem_cons_self) (h2 y List.mem_cons_self)
              have a2 := ihl k (fun z hz => h1 z (List.mem_cons_of_mem _ hz)) fun z hz => h2 z (List.mem_cons_of_mem _ hz)
              simp only [PyData.eqvAll, Bool.and_eq_true, a1, a2, List.cons.injEq]
        have h := all xs ys hx hy
        simp only [PyData.eqv, h, PyData.tuple.injEq]
end DL
/-! The set's table, over such tuples. -/
namespace DL
open PySem PySem.Spec PyProof.Rows L2

/-- at a stands the set of the tuples L, each once -/
structure GS (h0 h : Heap) (a : Addr) (L : List (Addr × D)) (en : Array (Int × Value)) (ep : Nat) (tb : SetTable) : Prop where
  ob : ∃ o, h.get? a = some o ∧ o.ExactSet ∧ o.data = .set en ep tb
  rows : en.toList = L.map fun p => (hD p.2, Value.ref p.1)
  tab : TabOk tb (L.map fun p => hD p.2)
  nd : (L.map (·.2)).Nodup
  elt0 : ∀ p ∈ L, deepI 3 p.2 = true ∧ Is h0 p.2 (.ref p.1)
  base : ∀ b o, h0.get? b = some o → h.get? b = some o
  new : h0.get? a = none
  plain : tb.plain = true
  room : L.length * 5 < tb.mask * 3
  few : L.length ≤ 60
/-- the c-th place that a search for the hash z looks at -/
abbrev stepN (tb : SetTable) (z : Int) (c : Nat) : SetTable.Probe := nth tb.mask (tb.probeStart z) c
section
variable {P : Program} {w : World} {A : Around} {E : Value → Shared → Prop} {s : Shared} {h0 : Heap} {a : Addr} {L : List (Addr × D)} {en : Array (Int × Value)} {ep : Nat} {tb : SetTable}
theorem GS.size {h : Heap} (R : GS h0 h a L en ep tb) : en.size = L.length := by
  rw [← Array.length_toList, R.rows, List.length_map]
theorem GS.placed {h : Heap} (R : GS h0 h a L en ep tb) : tb.place.size = L.length := by
  rw [R.tab.sz, List.length_map]
theorem GS.fits {h : Heap} (R : GS h0 h a L en ep tb) : tb.fits en.size = true := by
  have h1 := R.placed
  have h2 := R.size
  have h3 := R.room
  unfold SetTable.fits SetTable.fill
  rw [R.tab.dm, Bool.and_eq_true, beq_iff_eq, decide_eq_true_eq]
  show tb.place.size = en.size ∧ tb.place.size + 0 ≤ tb.mask
  omega
theorem GS.entry {h : Heap} (R : GS h0 h a L en ep tb) {i : Nat} {p : Addr × D} (e : L[i]? = some p) : en[i]? = some (hD p.2, Value.ref p.1) := by
  rw [← Array.getElem?_toList, R.rows, List.getElem?_map, e]
  rfl
theorem GS.elt {h : Heap} (R : GS h0 h a L en ep tb) : ∀ p ∈ L, deepI 3 p.2 = true ∧ Is h p.2 (.ref p.1) := fun p hp => by
  obtain ⟨h1, as, h2⟩ := R.elt0 p hp
  exact ⟨h1, as, Reads.keeps R.base h2⟩
theorem GS.whole {h : Heap} (R : GS h0 h a L en ep tb) : ¬ tb.gaveWay = true := by
  unfold SetTable.gaveWay
  rw [mask_odd R.tab.mok]
  decide
theorem step_dummy (tb : SetTable) (z : Int) (c : Nat) : (stepN tb z c).dummy = none := by
  have go : ∀ (n : Nat) (p : SetTable.Probe), p.dummy = none → (nth tb.mask p n).dummy = none := by
    intro n
    induction n with
    | zero => exact fun p h => h
    | succ n ih =>
      refine fun p h => ih (adv tb.mask p) ?_
      unfold adv
      split <;> exact h
  exact go c _ rfl
/-- one look of the search, from the c-th place on: the first entry of this hash before the empty place K, or K -/
theorem look {h : Heap} (R : GS h0 h a L en ep tb) (z : Int) {K c : Nat} (hKf : K < 10 * SetTable.turns tb.mask) (hK : way tb.mask z K ∉ tb.place.toList) (hKb : ∀ j, j < K → way tb.mask z j ∈ tb.place.toList) (hc : c ≤ K) :
    (∃ (m i : Nat) (p : Addr × D), c ≤ m ∧ m < K ∧ L[i]? = some p ∧ hD p.2 = z ∧ tb.place.toList[i]? = some (way tb.mask z m) ∧
      (∀ (m' i' : Nat) (p' : Addr × D), c ≤ m' → m' < m → L[i']? = some p' → tb.place.toList[i']? = some (way tb.mask z m') → hD p'.2 ≠ z) ∧
      tb.probe (fun i => (en[i]?.map (·.1)).getD 0) z (stepN tb z c) = some (.candidate (way tb.mask z m) i (stepN tb z (m + 1)))) ∨
    ((∀ (m' i' : Nat) (p' : Addr × D), c ≤ m' → m' < K → L[i']? = some p' → tb.place.toList[i']? = some (way tb.mask z m') → hD p'.2 ≠ z) ∧
      tb.probe (fun i => (en[i]?.map (·.1)).getD 0) z (stepN tb z c) = some (.empty (way tb.mask z K) none)) := by
  have on : ∀ q, nth tb.mask (stepN tb z c) q = stepN tb z (c + q) := fun q => (nth_add tb.mask c _ q).symm
  have onj : ∀ q, (nth tb.mask (stepN tb z c) q).j = way tb.mask z (c + q) := fun q => congrArg SetTable.Probe.j (on q)
  have hash : ∀ {i : Nat} {p : Addr × D}, L[i]? = some p → (en[i]?.map (·.1)).getD 0 = hD p.2 := fun e => by rw [R.entry e]; rfl
  have there : ∀ {i j : Nat}, tb.place.toList[i]? = some j → ∃ p, L[i]? = some p := fun {i j} e => by
    have h1 := (List.getElem?_eq_some_iff.mp e).1
    rw [Array.length_toList, R.placed] at h1
    exact ⟨_, List.getElem?_eq_getElem h1⟩
  have got := go_spec tb R.tab.ris R.tab.dm (fun i => (en[i]?.map (·.1)).getD 0) z (10 * SetTable.turns tb.mask) (K - c) (stepN tb z c) (step_dummy tb z c) (by omega)
    (fun q hq => by rw [onj]; exact hKb _ (by omega)) (by rw [onj, Nat.add_sub_cancel' hc]; exact hK)
  rcases got with ⟨q, i, h1, h2, h3, h4, h5⟩ | ⟨h4, h5⟩
  · rw [onj] at h2
    obtain ⟨p, hp⟩ := there h2
    refine .inl ⟨c + q, i, p, Nat.le_add_right c q, by omega, hp, (hash hp).symm.trans h3, h2, fun m' i' p' g1 g2 g3 g4 g5 => ?_, ?_⟩
    · refine h4 (m' - c) i' (by omega) ?_ ((hash g3).trans g5)
      rw [onj, Nat.add_sub_cancel' g1]
      exact g4
    · have e : stepN tb z (c + q + 1) = nth tb.mask (stepN tb z c) (q + 1) := (on (q + 1)).symm
      rw [e, ← onj q]
      exact h5
  · refine .inr ⟨fun m' i' p' g1 g2 g3 g4 g5 => ?_, ?_⟩
    · refine h4 (m' - c) i' (by omega) ?_ ((hash g3).trans g5)
      rw [onj, Nat.add_sub_cancel' g1]
      exact g4
    · rw [onj, Nat.add_sub_cancel' hc] at h5
      exact h5
/-- the search for the tuple k, which stands at x -/
theorem seek (R : GS h0 s.heap a L en ep tb) {x : Addr} {k : D} (hk : deepI 3 k = true) (hx : Is s.heap k (.ref x)) (hu : A.units + 8 < cLine) {K : Nat} (hKf : K < 10 * SetTable.turns tb.mask)
    (hK : way tb.mask (hD k) K ∉ tb.place.toList) (hKb : ∀ j, j < K → way tb.mask (hD k) j ∈ tb.place.toList) {Q : SetFound → Shared → Prop}
    (hin : k ∈ L.map (·.2) → Q (.there none) s) (hout : k ∉ L.map (·.2) → Q (.free (way tb.mask (hD k) K) false) s) :
    ∀ (f c : Nat) (st : Option SetTable.Probe), st.getD (tb.probeStart (hD k)) = stepN tb (hD k) c → c ≤ K → K < f + c →
      (∀ (i : Nat) (p : Addr × D), L[i]? = some p → p.2 = k → ∃ m, c ≤ m ∧ m < K ∧ tb.place.toList[i]? = some (way tb.mask (hD k) m)) → wpAny (model P w) A (setSearchFrom a (.ref x) (hD k) true f st) Q E s := by
  obtain ⟨o, ho, hex, hd⟩ := R.ob
  intro f
  induction f with
  | zero => exact fun c st _ h1 h2 => by omega
  | succ f ih =>
    intro c st hst hc hf hre
    rw [setSearchFrom_succ]
    refine wpAny_bind (wpAny_setState_of ho hd R.fits ?_)
    dsimp only
    refine wp_if_neg R.whole ?_
    try refine wpAny_bind (wpAny_pure ?_)
    rw [hst]
    rcases look R (hD k) hKf hK hKb hc with ⟨m, i, p, h1, h2, h3, h4, h5, h6, h7⟩ | ⟨h6, h7⟩
    · rw [h7]
      dsimp only
      have hp := R.elt p (List.mem_of_getElem? h3)
      have body : wpAny (model P w) A (searchRest a (.ref x) (hD k) true f en tb (way tb.mask (hD k) m) i (stepN tb (hD k) (m + 1))) Q E s := by
        unfold searchRest
        rw [R.entry h3]
        dsimp only
        refine wpAny_bind (wpAny_holding (same_of hp.1 hk hp.2 hx hu ?_))
        refine wpAny_bind (wpAny_setState_of ho hd R.fits ?_)
        dsimp only
        by_cases e : p.2 = k
        · have e' : PyData.eqv p.2 k = true := (eqv_same 3 hp.1 hk).mpr e
          exact wp_if_pos (by simp [e']) (wpAny_pure (hin (List.mem_map.mpr ⟨p, List.mem_of_getElem? h3, e⟩)))
        · have e' : PyData.eqv p.2 k = false := by
            cases q : PyData.eqv p.2 k with
            | false => rfl
            | true => exact absurd ((eqv_same 3 hp.1 hk).mp q) e
          refine wp_if_neg (by simp [e']) ?_
          try refine wpAny_bind (wpAny_pure ?_)
          rw [sameMem]
          dsimp only
          have live : tb.slot (way tb.mask (hD k) m) = .live i := slot_live R.tab.ris h5
          simp only [if_true, live, R.entry h3]
          refine wpAny_bind (wpAny_isSame_ref_self (wpAny_bind (wpAny_pure ?_)))
          simp only [if_true]
          refine wp_if_neg (by simp [e']) (ih (m + 1) _ rfl h2 (by omega) fun i0 p0 g1 g2 => ?_)
          obtain ⟨m0, g3, g4, g5⟩ := hre i0 p0 g1 g2
          refine ⟨m0, ?_, g4, g5⟩
          rcases Nat.lt_trichotomy m0 m with y | y | y
          · exact absurd (by rw [g2]) (h6 m0 i0 p0 g3 y g1 g5)
          · exfalso
            rw [y] at g5
            have l2 := slot_live R.tab.ris g5
            rw [live] at l2
            injection l2 with l2
            rw [← l2, h3] at g1
            exact e (by rw [Option.some.inj g1]; exact g2)
          · exact y
      by_cases hl : tb.led = true
      · refine wp_if_neg (by simp [hl]) ?_
        try refine wpAny_bind (wpAny_pure ?_)
        exact body
      · refine wp_if_pos (by simp [hl]) (wpAny_bind (unseen hk hx (fun y hy => ?_) ?_))
        · obtain ⟨e, he, ee⟩ := List.mem_map.mp hy
          have he1 : e ∈ en ∧ e.1 = hD k := by simpa using he
          have he2 : e ∈ en.toList := by simpa using he1.1
          rw [R.rows] at he2
          obtain ⟨p2, hp2, e2⟩ := List.mem_map.mp he2
          refine ⟨p2.2, p2.1, by rw [← ee, ← e2], (R.elt p2 hp2).1, ?_⟩
          rw [← ee, ← e2]
          exact (R.elt p2 hp2).2
        · refine wp_if_neg (by decide) ?_
          try refine wpAny_bind (wpAny_pure ?_)
          exact body
    · rw [h7]
      dsimp only
      refine wpAny_pure (hout fun hm => ?_)
      obtain ⟨p0, g0, e0⟩ := List.mem_map.mp hm
      obtain ⟨i0, g1⟩ := List.mem_iff_getElem?.mp g0
      obtain ⟨m0, g3, g4, g5⟩ := hre i0 p0 g1 e0
      exact h6 m0 i0 p0 g3 g4 g1 g5 (by rw [e0])
theorem found (R : GS h0 s.heap a L en ep tb) {x : Addr} {k : D} (hk : deepI 3 k = true) (hx : Is s.heap k (.ref x)) (hu : A.units + 8 < cLine) {Q : SetFound → Shared → Prop} (hin : k ∈ L.map (·.2) → Q (.there none) s)
    (hout : ∀ K, k ∉ L.map (·.2) → way tb.mask (hD k) K ∉ tb.place.toList → (∀ j, j < K → way tb.mask (hD k) j ∈ tb.place.toList) → Q (.free (way tb.mask (hD k) K) false) s) : wpAny (model P w) A (setSearch a (.ref x) (hD k) true) Q E s := by
  have hr := R.room
  obtain ⟨K, hKf, hK, hKb⟩ := R.tab.first (by rw [List.length_map]; omega) (hD k)
  have few : 10 * SetTable.turns tb.mask ≤ 1420 := by
    unfold SetTable.turns
    rcases R.tab.mok with e | e | e <;> omega
  unfold setSearch
  refine seek R hk hx hu hKf hK hKb hin (fun hn => hout K hn hK hKb) 100000 0 none rfl (Nat.zero_le _) (by omega) fun i p hp e => ?_
  have hi : i < tb.place.toList.length := by
    have h1 := (List.getElem?_eq_some_iff.mp hp).1
    rw [Array.length_toList, R.placed]
    exact h1
  have hj := List.getElem?_eq_getElem hi
  obtain ⟨m, h1, h2⟩ := R.tab.before (h := hD k) (i := i) hK (by rw [List.getElem?_map, hp, ← e]; rfl) hj
  exact ⟨m, Nat.zero_le _, h1, by rw [hj, h2]⟩

/-! ### the table laid anew, and one element more -/
abbrev rw1 (p : Addr × D) : Int × Value := (hD p.2, Value.ref p.1)
/-- the rows that are picked by their numbers -/
theorem pick_rows {L : List (Addr × D)} {en : Array (Int × Value)} (hr : en.toList = L.map rw1) {nums : Array Nat} (hp : nums.toList.Perm (List.range L.length)) :
    ∃ M : List (Addr × D), (nums.filterMap (en[·]?)).toList = M.map rw1 ∧ M.Perm L ∧ M.map (fun p => hD p.2) = nums.toList.map fun i => (en.map (·.1)).getD i 0 := by
  have at_ : ∀ i, en[i]? = (L[i]?).map rw1 := fun i => by rw [← Array.getElem?_toList, hr, List.getElem?_map]
  refine ⟨nums.toList.filterMap (L[·]?), ?_, ?_, ?_⟩
  · rw [Array.toList_filterMap, List.map_filterMap]
    exact congrArg (fun f => List.filterMap f nums.toList) (funext at_)
  · have h1 := hp.filterMap (L[·]?)
    have h2 : ∀ (M : List (Addr × D)), (List.range M.length).filterMap (M[·]?) = M := by
      intro M
      have h3 : ∀ n, n ≤ M.length → (List.range n).filterMap (M[·]?) = M.take n := by
        intro n
        induction n with
        | zero => exact fun _ => rfl
        | succ n ih =>
          intro hn
          rw [List.range_succ, List.filterMap_append, ih (Nat.le_of_succ_le hn), List.take_succ, List.getElem?_eq_getElem hn, List.filterMap_cons_some (List.getElem?_eq_getElem hn)]
          rfl
      rw [h3 _ (Nat.le_refl _), List.take_length]
    rw [h2] at h1
    exact h1
  · have h1 : ∀ l : List Nat, (∀ i ∈ l, i < L.length) → (l.filterMap (L[·]?)).map (fun p => hD p.2) = l.map fun i => (en.map (·.1)).getD i 0 := by
      intro l
      induction l with
      | nil => exact fun _ => rfl
      | cons i l ih =>
        intro hl
        have hi := hl i List.mem_cons_self
        have e1 : (en.map (·.1)).getD i 0 = hD (L[i]).2 := by
          have e2 : (en.map (·.1))[i]? = some (hD (L[i]).2) := by
            rw [Array.getElem?_map, at_, List.getElem?_eq_getElem hi]
            rfl
          rw [Array.getD_eq_getD_getElem?, e2]
          rfl
        rw [List.filterMap_cons_some (List.getElem?_eq_getElem hi), List.map_cons, List.map_cons, ih fun j hj => hl j (List.mem_cons_of_mem _ hj), e1]
    exact h1 _ fun i hi => List.mem_range.mp (hp.mem_iff.mp hi)
theorem rows_len {L : List (Addr × D)} {en : Array (Int × Value)} (hr : en.toList = L.map rw1) : en.size = L.length := by
  rw [← Array.length_toList, hr, List.length_map]
theorem off_base {h : Heap} (hb : ∀ b o, h0.get? b = some o → h.get? b = some o) (hn : h0.get? a = none) {h' : Heap} (sb : Heap.SameBut a h h') : ∀ b o, h0.get? b = some o → h'.get? b = some o := fun b o e => by
  rw [sb.2 b fun z => by rw [z, hn] at e; cases e]
  exact hb b o e
/-- laid anew, larger -/
theorem relay {o : Obj} (ho : s.heap.get? a = some o) (hex : o.ExactSet) (hd : o.data = .set en ep tb) (hr : en.toList = L.map rw1) (hsz : tb.place.size = en.size) (hdm : tb.dummies = #[]) (hfl : en.size ≤ tb.mask)
    (nd : (L.map (·.2)).Nodup) (elt : ∀ p ∈ L, deepI 3 p.2 = true ∧ Is h0 p.2 (.ref p.1)) (hb : ∀ b o, h0.get? b = some o → s.heap.get? b = some o) (hn : h0.get? a = none) (pl : tb.plain = true) (few : L.length ≤ 60)
    {goal M : Nat} (hw : SetTable.sizeAbove goal - 1 = M) (hM : MaskOk M) (hw2 : SetTable.sizeAbove goal ≤ 128) (hfit : L.length * 5 < M * 3) {Q : Unit → Shared → Prop}
    (hQ : ∀ h' L' en' ep' tb', Heap.SameBut a s.heap h' → GS h0 h' a L' en' ep' tb' → L'.Perm L → Q () { s with heap := h' }) : wpAny (model P w) A (setRelay a goal) Q E s := by
  have hsl := rows_len hr
  have fit : tb.fits en.size = true := by
    unfold SetTable.fits SetTable.fill
    rw [hdm, Bool.and_eq_true, beq_iff_eq, decide_eq_true_eq]
    show tb.place.size = en.size ∧ tb.place.size + 0 ≤ tb.mask
    omega
  obtain ⟨tb', nums, e, hp, T, em, _, ep', _⟩ := relaid_ok tb (hs := en.map (·.1)) (wanted := goal) hw hM (by rw [Array.size_map, hsl]; omega)
  rw [Array.size_map, hsl] at hp
  obtain ⟨N, r1, r2, r3⟩ := pick_rows hr hp
  rw [← r3] at T
  have hs2 : (nums.filterMap (en[·]?)).size = en.size := by rw [rows_len r1, r2.length_eq, hsl]
  rw [setRelay_eq]
  refine wpAny_bind (wpAny_setState_of ho hd fit ?_)
  dsimp only
  refine wp_if_neg (by rw [sizeLine_eq]; omega) ?_
  try refine wpAny_bind (wpAny_pure ?_)
  rw [e]
  dsimp only
  refine wpAny_bind (wp_if_neg (by rw [hs2]; simp) ?_)
  try refine wpAny_bind (wpAny_pure ?_)
  refine wpAny_pure ?_
  dsimp only
  refine wpAny_storeSet_of ho hd ?_ (by rw [hs2, hsl, sizeLine_eq]; omega)
  have sb : Heap.SameBut a s.heap (s.heap.update a (Obj.putSet (nums.filterMap (en[·]?)) tb')) := Heap.SameBut.update ..
  refine hQ _ N _ (ep + 1) tb' sb ⟨⟨_, store_at ho hd, ⟨hex.1, hex.2.1, hex.2.2⟩, rfl⟩, r1, T, (r2.map (·.2)).nodup_iff.mpr nd, fun p hpm => elt p (r2.mem_iff.mp hpm), off_base hb hn sb, hn, by rw [ep']; exact pl, ?_, by rw [r2.length_eq]; exact few⟩ r2
  rw [r2.length_eq, em]
  exact hfit
/-- one element more, where it isn't there yet -/
theorem grow (R : GS h0 s.heap a L en ep tb) {x : Addr} {k : D} (hk : deepI 3 k = true) (hx : Is h0 k (.ref x)) (hu : A.units + 8 < cLine) (few : L.length < 60) {Q : Bool → Shared → Prop}
    (hQ : ∀ b h' L' en' ep' tb', Heap.SameBut a s.heap h' → GS h0 h' a L' en' ep' tb' → (k ∈ L.map (·.2) → L' = L) → (k ∉ L.map (·.2) → L'.Perm ((x, k) :: L)) → Q b { s with heap := h' }) :
    wpAny (model P w) A (setAddHashed a (.ref x) (hD k)) Q E s := by
  obtain ⟨o, ho, hex, hd⟩ := R.ob
  have hsl := R.size
  have hroom := R.room
  have hx' : Is s.heap k (.ref x) := hx.imp fun as r => Reads.keeps R.base r
  unfold setAddHashed
  refine wpAny_holding ?_
  rw [show (100000 : Nat) = 99999 + 1 from rfl, setAddHashedIn_succ]
  refine wpAny_bind (wpAny_setState_of ho hd R.fits ?_)
  dsimp only
  refine wp_if_neg (by simp [byScan, Value.scannable]) ?_
  try refine wpAny_bind (wpAny_pure ?_)
  refine wpAny_bind (found R hk hx' hu (fun hm => ?_) fun K hm hK hb => ?_)
  · dsimp only
    exact wpAny_pure (hQ false s.heap L en ep tb (Heap.SameBut.refl a s.heap) R (fun _ => rfl) fun z => absurd hm z)
  dsimp only
  refine wpAny_bind (wpAny_setState_of ho hd R.fits ?_)
  dsimp only
  obtain ⟨q1, q2, q3, q4, q5, q6, q7, q8, q9⟩ := R.tab.put hK hb
  have pl1 : (tb.put (way tb.mask (hD k) K)).1.plain = true := by rw [q6]; exact R.plain
  generalize hpt : tb.put (way tb.mask (hD k) K) = pt at q1 q3 q4 q5 q6 q7 q8 q9 pl1 ⊢
  obtain ⟨t1, p⟩ := pt
  dsimp only at q1 q3 q4 q5 q6 q7 q8 q9 pl1 ⊢
  subst q1
  first
    | (refine wpAny_bind ?_; refine wp_if_pos pl1 ?_; refine by_value 3 hk hx' 8 (by decide) ?_)
    | refine wp_if_pos pl1 (wpAny_bind (by_value 3 hk hx' 8 (by decide) ?_))
  simp only [if_true]
  generalize hpp : SetTable.below tb.place (way tb.mask (hD k) K) = p at q2 q3 ⊢
  have hin : (SetTable.insertAt en p (hD k, Value.ref x)).toList = (L.take p ++ (x, k) :: L.drop p).map rw1 := by
    rw [SetTable.toList_insertAt, R.rows, List.map_append, List.map_cons, List.map_take, List.map_drop]
  have pm := L2.put_perm L p (x, k)
  have hlen : (L.take p ++ (x, k) :: L.drop p).length = L.length + 1 := pm.length_eq
  have hhs : (L.take p ++ (x, k) :: L.drop p).map (fun p => hD p.2) = (L.map fun p => hD p.2).take p ++ hD k :: (L.map fun p => hD p.2).drop p := by
    rw [List.map_append, List.map_cons, List.map_take, List.map_drop]
  rw [← hhs] at q3
  have nd1 : ((L.take p ++ (x, k) :: L.drop p).map (·.2)).Nodup := by
    refine (pm.map (·.2)).nodup_iff.mpr ?_
    rw [List.map_cons]
    exact List.nodup_cons.mpr ⟨hm, R.nd⟩
  have hes := rows_len hin
  rw [hlen] at hes
  have elt1 : ∀ q ∈ L.take p ++ (x, k) :: L.drop p, deepI 3 q.2 = true ∧ Is h0 q.2 (.ref q.1) := fun q hq => by
    rcases List.mem_cons.mp (pm.mem_iff.mp hq) with e | hq
    · rw [e]; exact ⟨hk, hx⟩
    · exact R.elt0 q hq
  generalize SetTable.insertAt en p (hD k, Value.ref x) = en1 at hin hes ⊢
  generalize L.take p ++ (x, k) :: L.drop p = L1 at pm hlen q3 nd1 hin elt1
  refine wpAny_bind (wpAny_storeSet_of ho hd ?_ (by rw [hes, sizeLine_eq]; omega))
  have sb : Heap.SameBut a s.heap (s.heap.update a (Obj.putSet en1 t1)) := Heap.SameBut.update ..
  have ho1 := store_at (es' := en1) (t' := t1) ho hd
  have hb1 := off_base R.base R.new sb
  generalize s.heap.update a (Obj.putSet en1 t1) = h1 at sb ho1 hb1 ⊢
  have full : t1.tooFull = decide ((L.length + 1) * 5 ≥ tb.mask * 3) := by
    unfold SetTable.tooFull
    rw [q9, q4, List.length_map]
  by_cases hf : t1.tooFull = true
  · first
      | (refine wpAny_bind ?_; refine wp_if_pos (by simp [hf]) ?_)
      | (refine wp_if_pos (by simp [hf]) ?_; refine wpAny_bind ?_)
    have hfull : (L.length + 1) * 5 ≥ tb.mask * 3 := by rw [full, decide_eq_true_eq] at hf; exact hf
    rw [hsl]
    have hsz1 : t1.place.size = en1.size := by
      have h := q3.sz
      rw [List.length_map, hlen] at h
      rw [h, hes]
    have two : (tb.mask = 7 ∧ L.length = 4) ∨ (tb.mask = 31 ∧ L.length = 18) := by
      rcases R.tab.mok with e | e | e <;> rw [e] at hfull hroom
      · exact .inl ⟨e, by omega⟩
      · exact .inr ⟨e, by omega⟩
      · omega
    have go : ∀ M, SetTable.sizeAbove (SetTable.grown (L.length + 1)) - 1 = M → MaskOk M → SetTable.sizeAbove (SetTable.grown (L.length + 1)) ≤ 128 → (L.length + 1) * 5 < M * 3 →
        wpAny (model P w) A (setRelay a (SetTable.grown (L.length + 1))) (fun _ s' => wpAny (model P w) A (pure true) Q E s') E { s with heap := h1 } := fun M y1 y2 y3 y4 => by
      refine relay (s := { s with heap := h1 }) ho1 ⟨hex.1, hex.2.1, hex.2.2⟩ rfl hin hsz1 q3.dm (by rw [hes, q4]; rcases two with ⟨e, e2⟩ | ⟨e, e2⟩ <;> omega) nd1 elt1 hb1 R.new pl1 (by rw [hlen]; exact few) y1 y2 y3 (by rw [hlen]; exact y4) ?_
      exact fun h2 L2 en2 ep2 tb2 sb2 R2 pm2 => wpAny_pure (hQ true h2 L2 en2 ep2 tb2 (sb.trans sb2) R2 (fun z => absurd z hm) fun _ => pm2.trans pm)
    rcases two with ⟨_, e2⟩ | ⟨_, e2⟩
    · exact go 31 (by rw [e2, size_20]) (.inr (.inl rfl)) (by rw [e2, size_20]; decide) (by omega)
    · exact go 127 (by rw [e2, size_76]) (.inr (.inr rfl)) (by rw [e2, size_76]; decide) (by omega)
  · first
      | refine wp_if_neg (by simp [hf]) ?_
      | (refine wpAny_bind ?_; refine wp_if_neg (by simp [hf]) ?_; refine wpAny_pure ?_)
    refine wpAny_pure (hQ true h1 L1 en1 (ep + 1) t1 sb ⟨⟨_, ho1, ⟨hex.1, hex.2.1, hex.2.2⟩, rfl⟩, hin, q3, nd1, elt1, hb1, R.new, pl1, ?_, by rw [hlen]; exact few⟩ (fun z => absurd z hm) fun _ => pm)
    rw [full, decide_eq_true_eq] at hf
    rw [hlen, q4]
    omega
/-! ### a tuple or a list that is walked: what the set has got -/
structure Got (ks : List (Addr × D)) (i : Nat) (L : List (Addr × D)) : Prop where
  sub : ∀ p ∈ L, p ∈ ks.take i
  all : ∀ p ∈ ks.take i, p.2 ∈ L.map (·.2)
  len : L.length ≤ i
theorem Got.start (ks : List (Addr × D)) : Got ks 0 [] := ⟨fun p h => (nomatch h), fun p h => (by simp at h), Nat.le_refl _⟩
theorem Got.next {ks L L' : List (Addr × D)} {i : Nat} {x : Addr × D} (g : Got ks i L) (h : ks[i]? = some x) (h1 : x.2 ∈ L.map (·.2) → L' = L) (h2 : x.2 ∉ L.map (·.2) → L'.Perm (x :: L)) : Got ks (i + 1) L' := by
  have e : ks.take (i + 1) = ks.take i ++ [x] := by
    rw [List.take_succ, h]
    rfl
  by_cases c : x.2 ∈ L.map (·.2)
  · rw [h1 c]
    refine ⟨fun p hp => by rw [e]; exact List.mem_append_left _ (g.sub p hp), fun p hp => ?_, Nat.le_succ_of_le g.len⟩
    rw [e] at hp
    rcases List.mem_append.mp hp with z | z
    · exact g.all p z
    · rw [List.mem_singleton.mp z]; exact c
  · have pm := h2 c
    refine ⟨fun p hp => ?_, fun p hp => ?_, by rw [pm.length_eq]; exact Nat.succ_le_succ g.len⟩
    · rw [e]
      rcases List.mem_cons.mp (pm.mem_iff.mp hp) with z | z
      · rw [z]; exact List.mem_append_right _ (List.mem_singleton.mpr rfl)
      · exact List.mem_append_left _ (g.sub p z)
    · rw [(pm.map (·.2)).mem_iff, List.map_cons]
      rw [e] at hp
      rcases List.mem_append.mp hp with z | z
      · exact List.mem_cons_of_mem _ (g.all p z)
      · rw [List.mem_singleton.mp z]; exact List.mem_cons_self
/-- how many -/
theorem unlike_mem : ∀ (xs seen : List D), (∀ z ∈ seen, deepI 3 z = true) → (∀ z ∈ xs, deepI 3 z = true) → seen.Nodup → (unlike seen xs).Nodup ∧ ∀ z, z ∈ unlike seen xs ↔ z ∈ seen ∨ z ∈ xs
  | [], seen, _, _, h => ⟨h, fun z => ⟨.inl, fun y => y.elim id fun y => (nomatch y)⟩⟩
  | x :: xs, seen, h1, h2, h => by
    have hx := h2 x List.mem_cons_self
    have h2' : ∀ z ∈ xs, deepI 3 z = true := fun z hz => h2 z (List.mem_cons_of_mem _ hz)
    have key : (seen.any fun z => PyData.eqv z x) = true ↔ x ∈ seen := by
      rw [List.any_eq_true]
      exact ⟨fun ⟨z, hz, e⟩ => ((eqv_same 3 (h1 z hz) hx).mp e) ▸ hz, fun hm => ⟨x, hm, (eqv_same 3 hx hx).mpr rfl⟩⟩
    unfold unlike
    split
    · rename_i c
      have hm := key.mp c
      obtain ⟨g1, g2⟩ := unlike_mem xs seen h1 h2' h
      exact ⟨g1, fun z => (g2 z).trans ⟨fun y => y.imp id (List.mem_cons_of_mem _), fun y => y.elim .inl fun y => (List.mem_cons.mp y).elim (fun e => .inl (e ▸ hm)) .inr⟩⟩
    · rename_i c
      have hm : x ∉ seen := fun y => c (key.mpr y)
      have h1' : ∀ z ∈ seen ++ [x], deepI 3 z = true := fun z hz => (List.mem_append.mp hz).elim (h1 z) fun y => by rw [List.mem_singleton.mp y]; exact hx
      have h' : (seen ++ [x]).Nodup := by
        rw [List.nodup_append]
        exact ⟨h, List.nodup_cons.mpr ⟨fun y => (nomatch y), List.nodup_nil⟩, fun z hz y hy e => hm (by rw [List.mem_singleton.mp hy] at e; exact e ▸ hz)⟩
      obtain ⟨g1, g2⟩ := unlike_mem xs (seen ++ [x]) h1' h2' h'
      refine ⟨g1, fun z => (g2 z).trans ?_⟩
      rw [List.mem_append, List.mem_singleton, List.mem_cons, or_assoc]
theorem Got.count {ks L : List (Addr × D)} (g : Got ks ks.length L) (nd : (L.map (·.2)).Nodup) (hk : ∀ p ∈ ks, deepI 3 p.2 = true) : L.length = (unlike [] (ks.map (·.2))).length := by
  obtain ⟨h1, h2⟩ := unlike_mem (ks.map (·.2)) [] (fun z hz => (nomatch hz)) (fun z hz => by obtain ⟨p, hp, e⟩ := List.mem_map.mp hz; rw [← e]; exact hk p hp) List.nodup_nil
  rw [← List.length_map (·.2)]
  refine ((List.perm_ext_iff_of_nodup nd h1).mpr fun z => ?_).length_eq
  rw [h2]
  have ga := g.all
  have gs := g.sub
  rw [List.take_length] at ga gs
  constructor
  · intro hz
    obtain ⟨p, hp, e⟩ := List.mem_map.mp hz
    exact .inr (List.mem_map.mpr ⟨p, gs p hp, e⟩)
  · rintro (hz | hz)
    · exact nomatch hz
    · obtain ⟨p, hp, e⟩ := List.mem_map.mp hz
      rw [← e]
      exact ga p hp
/-! ### set.update's loop -/
section
variable {P : Program} {w : World} {A : Around} {E : Value → Shared → Prop}
theorem GS.keep {h0 h h' : Heap} {a : Addr} {L : List (Addr × D)} {en : Array (Int × Value)} {ep : Nat} {tb : SetTable} (R : GS h0 h a L en ep tb) (ha : ∀ o, h.get? a = some o → h'.get? a = some o) (hb : ∀ b o, h0.get? b = some o → h'.get? b = some o) : GS h0 h' a L en ep tb := by
  obtain ⟨o, ho, r⟩ := R.ob
  exact ⟨⟨o, ha o ho, r⟩, R.rows, R.tab, R.nd, R.elt0, hb, R.new, R.plain, R.room, R.few⟩
theorem GS.fresh {h0 h : Heap} {a : Addr} {b : Bool} (ho : h.get? a = some { cls := .type "set", dict := none, data := .set #[] 0 (.fresh 0 0 b) }) (hb : ∀ b o, h0.get? b = some o → h.get? b = some o) (hn : h0.get? a = none) : GS h0 h a [] #[] 0 (.fresh 0 0 b) :=
  ⟨⟨_, ho, ⟨rfl, rfl, rfl⟩, rfl⟩, rfl, ⟨List.Pairwise.nil, rfl, rfl, .inl rfl, fun x hx => (nomatch hx), fun i h j hi => (by simp at hi)⟩, List.nodup_nil, fun p hp => (nomatch hp), hb, hn, rfl, (show 0 * 5 < 7 * 3 by decide), Nat.zero_le _⟩
theorem fill {I : Addr} {fp wr : List Addr} {G : Array GenState → Array GenState → Prop} {n : Nat} {Pv : Nat → Value → Prop} {St : Nat → Shared → Prop} {Z : Result → Shared → Prop}
    (W : WalksS P w A.in1 I fp wr G n Pv St) (S : Addr) (off : S ∉ fp) (ks : List (Addr × D)) (hn : n = ks.length) (few : ks.length ≤ 60) (hval : ∀ i v, Pv i v → ∃ p, ks[i]? = some p ∧ v = .ref p.1)
    (h0 : Heap) (hk : ∀ p ∈ ks, deepI 3 p.2 = true ∧ Is h0 p.2 (.ref p.1)) (hS0 : h0.get? S = none) (hw0 : ∀ b ∈ wr, h0.get? b = none) (hu : A.in1.units + 24 < cLine) :
    ∀ (m i : Nat) (s : Shared), n - i = m → i ≤ n → St i s → (∃ L en ep tb, GS h0 s.heap S L en ep tb ∧ Got ks i L) →
      (∀ s' L en ep tb, Moved (S :: wr) G s s' → GS h0 s'.heap S L en ep tb → Got ks n L → Z (.ok (.ret .none)) s') →
      codeAny (model P w) A (.builtin "set.update.loop" ⟨[.ref S, .ref I], []⟩) Z s := by
  have hSw : S ∉ wr := fun h => off (W.sub _ h)
  have wider : ∀ b ∈ wr, b ∈ S :: wr := fun b hb => List.mem_cons_of_mem _ hb
  have still : ∀ {s s' : Shared}, Moved wr G s s' → (∀ b o, h0.get? b = some o → s.heap.get? b = some o) → ∀ b o, h0.get? b = some o → s'.heap.get? b = some o := fun hm kp b o e =>
    hm.heap b o (fun hb => by rw [hw0 b hb] at e; cases e) (kp b o e)
  intro m
  induction m with
  | zero =>
    intro i s hm hi hst ⟨L, en, ep, tb, R, g⟩ hZ
    obtain rfl : i = n := by omega
    refine codeAny_builtin F.entry_set_update_loop ?_
    rw [Around.under_plainId F.plain_set_update_loop _]
    show wpAny _ A.in1 (pyNext (.ref I) >>= _) _ _ s
    refine wpAny_bind (W.done s _ _ hst fun s' mv => ?_)
    show wpAny _ A.in1 (ret Value.none) _ _ s'
    exact wpAny_pure (hZ s' L en ep tb (mv.mono wider) (R.keep (fun o e => mv.heap S o hSw e) (still mv R.base)) g)
  | succ m ih =>
    intro i s hm hi hst ⟨L, en, ep, tb, R, g⟩ hZ
    have hlt : i < n := by omega
    refine codeAny_builtin F.entry_set_update_loop ?_
    rw [Around.under_plainId F.plain_set_update_loop _]
    show wpAny _ A.in1 (pyNext (.ref I) >>= _) _ _ s
    refine wpAny_bind (W.item i s _ _ hlt hst fun v s' hP hst' mv => ?_)
    obtain ⟨p, hp, rfl⟩ := hval i v hP
    have R1 : GS h0 s'.heap S L en ep tb := R.keep (fun o e => mv.heap S o hSw e) (still mv R.base)
    obtain ⟨d1, d2⟩ := hk p (List.mem_of_getElem? hp)
    show wpAny _ A.in1 (holding [Value.ref p.1] (setAdd S (.ref p.1)) >>= _) _ _ s'
    refine wpAny_bind (wpAny_holding ?_)
    unfold setAdd
    refine wpAny_holding (wpAny_bind (wpAny_with_toks (Nat.le_refl s'.toks) (hash_of 3 d1 (d2.imp fun as r => Reads.keeps R1.base r) (by omega) fun tk htk => ?_)))
    refine grow (s := { s' with toks := tk }) R1 d1 d2 (by omega) (by have := g.len; omega) fun b h' L' en' ep' tb' sb R2 c1 c2 => ?_
    refine wpAny_pure ⟨plainId_quiet F.plain_set_update_loop _, ih (i + 1) _ (by omega) hlt (W.frame _ s' _ _ hst' htk fun b hb o e => ?_) ⟨L', en', ep', tb', R2, g.next hp c1 c2⟩ fun s'' L2 en2 ep2 tb2 mv2 R3 g2 => ?_⟩
    · rw [sb.2 b (fun h : b = S => off (by rw [← h]; exact hb))]; exact e
    · refine hZ s'' L2 en2 ep2 tb2 (Moved.trans W.gtrans ((mv.mono wider).then_heap htk fun b o hb e => ?_) mv2) R3 g2
      rw [sb.2 b (fun h : b = S => hb (by rw [h]; exact List.mem_cons_self))]; exact e

set_option maxHeartbeats 3200000 in
/-- set(..) of a tuple -/
theorem set_tuple {s : Shared} {l : Addr} {items : Array Value} (ks : List (Addr × D)) {Q : Value → Shared → Prop} (hh : A.handled = none) (hl : s.heap.IsTuple l items) (hit : items.toList = ks.map fun p => Value.ref p.1)
    (hk : ∀ p ∈ ks, deepI 3 p.2 = true ∧ Is s.heap p.2 (.ref p.1)) (few : ks.length ≤ 60) (hu : A.units + 60 < cLine)
    (h : ∀ (h' : Heap) (tk : Nat) L en ep tb, GS s.heap h' s.heap.objs.size L en ep tb → Got ks ks.length L → Q (.ref s.heap.objs.size) { s with heap := h', toks := tk }) : wpAny (model P w) A (call (.type "set") [.ref l]) Q E s := by
  have hisz : items.size = ks.length := by
    have q := congrArg List.length hit
    rw [Array.length_toList, List.length_map] at q
    exact q
  obtain ⟨c, tl, hmro⟩ := F.called_set.mro
  have hmade := F.called_set.made
  have hsub := F.called_set.sub
  refine wpAny_call (codeAny_of_tree ?_)
  show wpAny _ _ (callAny (.type "set") _) _ _ _
  refine wpAny_pure ⟨Code.quiet_builtin _ (by decide +kernel), codeAny_builtin F.entry_type_call ?_⟩
  rw [Around.under_plain (weight_type_call_type "set" [.ref l] []) rfl]
  have h1 := F.called_set.notType
  have h2 := F.called_set.canCreate
  have hct := F.typeCall_set_1 (.ref l)
  repeat (any_goals (first | assumption | wp_step))
  refine codeAny_mono (code_set_led1 (.ref l) (E := E) (Q₁ := fun obj s1 => obj = .ref s.heap.objs.size ∧ s1 = { s with heap := s.heap.push { cls := .type "set", dict := none, data := .set #[] 0 (.fresh 0 0 (!w.params.followText "set-order")) } }) ⟨rfl, rfl⟩) fun r s1 hr => ?_
  cases r with
  | error e => exact hr
  | ok fl =>
    cases fl with
    | ret obj =>
      obtain ⟨rfl, rfl⟩ := hr
      have hS : (s.heap.push { cls := .type "set", dict := none, data := .set #[] 0 (.fresh 0 0 (!w.params.followText "set-order")) }).get? s.heap.objs.size = some { cls := .type "set", dict := none, data := .set #[] 0 (.fresh 0 0 (!w.params.followText "set-order")) } := Heap.get?_push_size _ rfl
      have hT : Shared.TypeIs { s with heap := s.heap.push { cls := .type "set", dict := none, data := .set #[] 0 (.fresh 0 0 (!w.params.followText "set-order")) } } (.ref s.heap.objs.size) "set" := ⟨_, hS, rfl⟩
      have hli := F.called_set.init.lookup
      have hbi := F.called_set.init.bind (.ref s.heap.objs.size)
      repeat (any_goals (first | assumption | wp_step))
      refine codeAny_mono (codeAny_call_builtin (R := wants (fun r s2 => r = .none ∧ ∃ h' tk L en ep tb, s2 = { s with heap := h', toks := tk } ∧ GS s.heap h' s.heap.objs.size L en ep tb ∧ Got ks ks.length L) E) F.called_set.init.plain F.entry_set_init (check_set_init_1 hT ?_)) fun r2 s2 hr2 => ?_
      · obtain ⟨ol, hol, hcl, nl, hdl⟩ := hl
        obtain ⟨ocls, odict, odata, oslots⟩ := ol
        simp only at hcl hdl
        subst hcl; subst hdl
        have hol' : (s.heap.push { cls := .type "set", dict := none, data := .set #[] 0 (.fresh 0 0 (!w.params.followText "set-order")) }).get? l = some { cls := .type "tuple", dict := odict, data := .seq items nl, slots := oslots } := Heap.get?_push_of_some _ hol
        have hsls := F.sub_tuple_set
        have hslf := F.sub_tuple_frozenset
        have hne : (Value.type "tuple" == Value.type "dict") = false := by decide
        have hl1 : (s.heap.push { cls := .type "set", dict := none, data := .set #[] 0 (.fresh 0 0 (!w.params.followText "set-order")) }).IsTuple l items := ⟨_, hol', rfl, nl, rfl⟩
        unfold Builtin.«set.__init__» noKeywords Builtin.Frozenset.updateFrom
        generalize hPI : pyIter = PI
        wp_walk
        subst hPI
        refine wpAny_pyIter_tuple hl1 ?_
        refine wpAny_bind (wpAny_runValue ?_)
        have hlS : l < s.heap.objs.size := Heap.lt_size hol
        have hh3 : A.in1.in1.in1.handled = none := by simp [hh]
        have hz1 : (s.heap.push { cls := .type "set", dict := none, data := .set #[] 0 (.fresh 0 0 (!w.params.followText "set-order")) }).objs.size = s.heap.objs.size + 1 := Heap.size_push ..
        have hneI : l ≠ (s.heap.push { cls := .type "set", dict := none, data := .set #[] 0 (.fresh 0 0 (!w.params.followText "set-order")) }).objs.size := by
          rw [Heap.size_push]; exact Nat.ne_of_lt (Nat.lt_succ_of_lt hlS)
        have off : s.heap.objs.size ∉ [(s.heap.push { cls := .type "set", dict := none, data := .set #[] 0 (.fresh 0 0 (!w.params.followText "set-order")) }).objs.size, l] := by
          rw [Heap.size_push]; simp only [List.mem_cons, List.mem_singleton, List.not_mem_nil, or_false, not_or]
          exact ⟨Nat.ne_of_lt (Nat.lt_succ_self _), Nat.ne_of_gt hlS⟩
        have hval : ∀ (i : Nat) (v : Value), items[i]? = some v → ∃ p, ks[i]? = some p ∧ v = .ref p.1 := fun i v hv => by
          have q : items.toList[i]? = some v := by rw [Array.getElem?_toList]; exact hv
          rw [hit, List.getElem?_map] at q
          cases hq : ks[i]? with
          | none => rw [hq] at q; cases q
          | some p =>
            rw [hq] at q
            exact ⟨p, rfl, (Option.some.inj q).symm⟩
        have past : ∀ b, s.heap.objs.size ≤ b → s.heap.get? b = none := fun b hb => by
          cases q : s.heap.get? b with
          | none => rfl
          | some o => exact absurd (Nat.lt_of_lt_of_le (Heap.lt_size q) hb) (Nat.lt_irrefl _)
        refine fill ((Walks.tuple hh3 _ l hneI items).toS) s.heap.objs.size
          off ks hisz few hval s.heap hk (past _ (Nat.le_refl _)) (fun b hb => past b (by
            rw [List.mem_singleton.mp hb, Heap.size_push]
            exact Nat.le_succ _)) (by simp only [Around.in1_units]; omega) (items.size - 0) 0 _ (by omega) (Nat.zero_le _)
          ⟨⟨_, Heap.get?_push_size _ rfl, rfl, rfl⟩, (hl1.push _)⟩ ⟨[], #[], 0, _, GS.fresh (Heap.get?_push_of_some _ hS) (fun b o e => Heap.get?_push_of_some _ (Heap.get?_push_of_some _ e)) (past _ (Nat.le_refl _)), Got.start ks⟩ ?_
        intro s' L en ep tb hm R g
        obtain ⟨h', g2, d', tk', os'⟩ := s'
        have eg : g2 = s.gens := hm.gens
        have ed : d' = s.drawn := hm.drawn
        have eo : os' = s.os := hm.os
        subst eg; subst ed; subst eo
        show wpAny _ _ _ _ _ _
        refine wpAny_pure ?_
        show wpAny _ _ (ret Value.none) _ _ _
        rw [hisz] at g
        exact wpAny_pure ⟨rfl, h', tk', L, en, ep, tb, rfl, R, g⟩
      · cases r2 with
        | error e => exact hr2
        | ok fl2 =>
          cases fl2 with
          | ret r =>
            obtain ⟨rfl, h', tk, L, en, ep, tb, rfl, R, g⟩ := hr2
            repeat (any_goals (first | assumption | wp_step))
            exact h _ _ _ _ _ _ R g
          | _ => exact hr2.elim
    | _ => exact hr.elim

set_option maxHeartbeats 3200000 in
/-- set(..) of a list -/
theorem set_list {s : Shared} {l : Addr} {items : Array Value} (ks : List (Addr × D)) {Q : Value → Shared → Prop} (hh : A.handled = none) (hl : s.heap.IsList l items) (hit : items.toList = ks.map fun p => Value.ref p.1)
    (hk : ∀ p ∈ ks, deepI 3 p.2 = true ∧ Is s.heap p.2 (.ref p.1)) (few : ks.length ≤ 60) (hu : A.units + 60 < cLine)
    (h : ∀ (h' : Heap) (tk : Nat) L en ep tb, GS s.heap h' s.heap.objs.size L en ep tb → Got ks ks.length L → Q (.ref s.heap.objs.size) { s with heap := h', toks := tk }) : wpAny (model P w) A (call (.type "set") [.ref l]) Q E s := by
  have hisz : items.size = ks.length := by
    have q := congrArg List.length hit
    rw [Array.length_toList, List.length_map] at q
    exact q
  obtain ⟨c, tl, hmro⟩ := F.called_set.mro
  have hmade := F.called_set.made
  have hsub := F.called_set.sub
  refine wpAny_call (codeAny_of_tree ?_)
  show wpAny _ _ (callAny (.type "set") _) _ _ _
  refine wpAny_pure ⟨Code.quiet_builtin _ (by decide +kernel), codeAny_builtin F.entry_type_call ?_⟩
  rw [Around.under_plain (weight_type_call_type "set" [.ref l] []) rfl]
  have h1 := F.called_set.notType
  have h2 := F.called_set.canCreate
  have hct := F.typeCall_set_1 (.ref l)
  repeat (any_goals (first | assumption | wp_step))
  refine codeAny_mono (code_set_led1 (.ref l) (E := E) (Q₁ := fun obj s1 => obj = .ref s.heap.objs.size ∧ s1 = { s with heap := s.heap.push { cls := .type "set", dict := none, data := .set #[] 0 (.fresh 0 0 (!w.params.followText "set-order")) } }) ⟨rfl, rfl⟩) fun r s1 hr => ?_
  cases r with
  | error e => exact hr
  | ok fl =>
    cases fl with
    | ret obj =>
      obtain ⟨rfl, rfl⟩ := hr
      have hS : (s.heap.push { cls := .type "set", dict := none, data := .set #[] 0 (.fresh 0 0 (!w.params.followText "set-order")) }).get? s.heap.objs.size = some { cls := .type "set", dict := none, data := .set #[] 0 (.fresh 0 0 (!w.params.followText "set-order")) } := Heap.get?_push_size _ rfl
      have hT : Shared.TypeIs { s with heap := s.heap.push { cls := .type "set", dict := none, data := .set #[] 0 (.fresh 0 0 (!w.params.followText "set-order")) } } (.ref s.heap.objs.size) "set" := ⟨_, hS, rfl⟩
      have hli := F.called_set.init.lookup
      have hbi := F.called_set.init.bind (.ref s.heap.objs.size)
      repeat (any_goals (first | assumption | wp_step))
      refine codeAny_mono (codeAny_call_builtin (R := wants (fun r s2 => r = .none ∧ ∃ h' tk L en ep tb, s2 = { s with heap := h', toks := tk } ∧ GS s.heap h' s.heap.objs.size L en ep tb ∧ Got ks ks.length L) E) F.called_set.init.plain F.entry_set_init (check_set_init_1 hT ?_)) fun r2 s2 hr2 => ?_
      · obtain ⟨ol, hol, hcl, nl, hdl⟩ := hl
        obtain ⟨ocls, odict, odata, oslots⟩ := ol
        simp only at hcl hdl
        subst hcl; subst hdl
        have hol' : (s.heap.push { cls := .type "set", dict := none, data := .set #[] 0 (.fresh 0 0 (!w.params.followText "set-order")) }).get? l = some { cls := .type "list", dict := odict, data := .seq items nl, slots := oslots } := Heap.get?_push_of_some _ hol
        have hsls := F.sub_list_set
        have hslf := F.sub_list_frozenset
        have hne : (Value.type "list" == Value.type "dict") = false := by decide
        have hl1 : (s.heap.push { cls := .type "set", dict := none, data := .set #[] 0 (.fresh 0 0 (!w.params.followText "set-order")) }).IsList l items := ⟨_, hol', rfl, nl, rfl⟩
        unfold Builtin.«set.__init__» noKeywords Builtin.Frozenset.updateFrom
        generalize hPI : pyIter = PI
        wp_walk
        subst hPI
        refine wpAny_pyIter_list hl1 ?_
        refine wpAny_bind (wpAny_runValue ?_)
        have hlS : l < s.heap.objs.size := Heap.lt_size hol
        have hh3 : A.in1.in1.in1.handled = none := by simp [hh]
        have hz1 : (s.heap.push { cls := .type "set", dict := none, data := .set #[] 0 (.fresh 0 0 (!w.params.followText "set-order")) }).objs.size = s.heap.objs.size + 1 := Heap.size_push ..
        have hneI : l ≠ (s.heap.push { cls := .type "set", dict := none, data := .set #[] 0 (.fresh 0 0 (!w.params.followText "set-order")) }).objs.size := by
          rw [Heap.size_push]; exact Nat.ne_of_lt (Nat.lt_succ_of_lt hlS)
        have off : s.heap.objs.size ∉ [(s.heap.push { cls := .type "set", dict := none, data := .set #[] 0 (.fresh 0 0 (!w.params.followText "set-order")) }).objs.size, l] := by
          rw [Heap.size_push]; simp only [List.mem_cons, List.mem_singleton, List.not_mem_nil, or_false, not_or]
          exact ⟨Nat.ne_of_lt (Nat.lt_succ_self _), Nat.ne_of_gt hlS⟩
        have hval : ∀ (i : Nat) (v : Value), items[i]? = some v → ∃ p, ks[i]? = some p ∧ v = .ref p.1 := fun i v hv => by
          have q : items.toList[i]? = some v := by rw [Array.getElem?_toList]; exact hv
          rw [hit, List.getElem?_map] at q
          cases hq : ks[i]? with
          | none => rw [hq] at q; cases q
          | some p =>
            rw [hq] at q
            exact ⟨p, rfl, (Option.some.inj q).symm⟩
        have past : ∀ b, s.heap.objs.size ≤ b → s.heap.get? b = none := fun b hb => by
          cases q : s.heap.get? b with
          | none => rfl
          | some o => exact absurd (Nat.lt_of_lt_of_le (Heap.lt_size q) hb) (Nat.lt_irrefl _)
        refine fill ((Walks.list hh3 _ l hneI items).toS) s.heap.objs.size
          off ks hisz few hval s.heap hk (past _ (Nat.le_refl _)) (fun b hb => past b (by
            rw [List.mem_singleton.mp hb, Heap.size_push]
            exact Nat.le_succ _)) (by simp only [Around.in1_units]; omega) (items.size - 0) 0 _ (by omega) (Nat.zero_le _)
          ⟨⟨_, Heap.get?_push_size _ rfl, rfl, rfl⟩, (hl1.push _)⟩ ⟨[], #[], 0, _, GS.fresh (Heap.get?_push_of_some _ hS) (fun b o e => Heap.get?_push_of_some _ (Heap.get?_push_of_some _ e)) (past _ (Nat.le_refl _)), Got.start ks⟩ ?_
        intro s' L en ep tb hm R g
        obtain ⟨h', g2, d', tk', os'⟩ := s'
        have eg : g2 = s.gens := hm.gens
        have ed : d' = s.drawn := hm.drawn
        have eo : os' = s.os := hm.os
        subst eg; subst ed; subst eo
        show wpAny _ _ _ _ _ _
        refine wpAny_pure ?_
        show wpAny _ _ (ret Value.none) _ _ _
        rw [hisz] at g
        exact wpAny_pure ⟨rfl, h', tk', L, en, ep, tb, rfl, R, g⟩
      · cases r2 with
        | error e => exact hr2
        | ok fl2 =>
          cases fl2 with
          | ret r =>
            obtain ⟨rfl, h', tk, L, en, ep, tb, rfl, R, g⟩ := hr2
            repeat (any_goals (first | assumption | wp_step))
            exact h _ _ _ _ _ _ R g
          | _ => exact hr2.elim
    | _ => exact hr.elim
end
end
end DL
/-! Further rules. -/
namespace DL
open PySem PySem.Spec PyProof.Rows L2

theorem hu65 {k : Nat} {A : Around} {env : PySem.Env} (hr : Room k (A.deeper env)) : (A.deeper env).units + 65 < cLine := by
  have := hr.un
  omega
/-- the law's def is the one that the top has made -/
theorem law_same {P : Program} {w : World} {K : PySem.W.Frag} {mg : Str → Option Value} {base : Heap} {ec : EC} {x : Str} {ps : List Str} {k p : Nat} {g : List D → R D} {fa : Addr} {oc : Value} {od : Option Addr} {fd : FuncData} {sl : Array (Option Value)}
    (G : DOk P w K mg base ec x ps k p g) (lo : K.lookup fa = some ⟨oc, od, .func fd, sl⟩) (e : mg x = some (.ref fa)) : FnOk P w K mg base (L2.CX P w) k fa fd ps (spD K ec p g) := by
  obtain ⟨f, fd2, h1, h2, h3, h4, oc2, od2, sl2, h5⟩ := G.ex
  rw [h1] at e
  have e' : f = fa := by simpa using e
  subst e'
  rw [h5] at lo
  have e2 : fd2 = fd := by
    have := Option.some.inj lo
    simp only [Obj.mk.injEq, Data.func.injEq] at this
    exact this.2.2.1
  subst e2
  exact h4
section
variable {X : Cx} {ec : EC} {W : WX} {e b tg : Expr} {pos p p2 q : Pos} {φ ψ : EX}
theorem de_globI {x : Str} {i : Int} (hg : Gl X x) (hm : ∃ t, X.mg x = some (.int i t)) (hdb : (x == ("__debug__" : Str)) = false := by decide) : DE X ec W (.Name x pos) (vC (.int i)) := by
  obtain ⟨t, h⟩ := hm
  exact de_glob (v := .int i) hg h ⟨_, rfl⟩ rfl hdb
/-! ### list(range(..)) -/
theorem rgV_rng {K : PySem.W.Frag} {F : Hp} (a b : Int) : RepL K F (rng a (b - a).toNat) (rgV a b) := by
  unfold rng rgV
  generalize (b - a).toNat = n
  have : ∀ (l : List Nat), RepL K F (l.map fun (k : Nat) => PyData.int (a + k)) (l.map fun i => V.int (a + (i : Nat))) := by
    intro l
    induction l with
    | nil => rfl
    | cons x l ih => exact ⟨_, _, rfl, rfl, ih⟩
  exact this _
theorem small_ok {a b : Int} (h1 : small62 a = true) (h2 : small62 b = true) (h3 : (b - a).toNat ≤ lim) : RgOk a b := by
  unfold small62 at h1 h2
  simp only [Bool.and_eq_true, decide_eq_true_eq] at h1 h2
  exact ⟨h1.1, h1.2, h2.1, h2.2, h3⟩
theorem dl_range1 (hc : X.calm = true) (hg : Gl X "list") (hm : X.mg "list" = none) (hg2 : Gl X "range") (hm2 : X.mg "range" = none) (ha : DX X ec W e φ) (na : starEach [e] X.env = (false, eval e X.env) :: starEach [] X.env := by rfl)
    (nb : starEach [.Call (.Name "range" p2) [e] [] q] X.env = (false, eval (.Call (.Name "range" p2) [e] [] q) X.env) :: starEach [] X.env := by rfl) : DLi X ec W (.Call (.Name "list" p) [.Call (.Name "range" p2) [e] [] q] [] pos) (l1 lRange1 φ) :=
  peImp (pe_listRg hc hg hm (prg_1 hg2 hm2 ha na) nb) fun σ H Q ⟨r, F, F0, B, S, q⟩ => by
    refine ⟨r, F, F0, B, S, (Thn.bind q).imp fun x F1 H1 ex1 g1 h1 v rv => ?_⟩
    obtain ⟨xs, ex, k⟩ := h1.po
    unfold lRange1 at ex
    split at ex
    · rename_i j
      split at ex
      · rename_i hj
        cases ex
        refine ⟨j, rv, small_ok (by decide) hj.1 (by simpa using hj.2), fun q hq => k F1 H1 (Gr.refl g1.i) q _ hq ?_⟩
        have := rgV_rng (K := X.K) (F := F1) 0 j
        simpa using this
      · cases ex
    · cases ex
theorem dl_range2 (hc : X.calm = true) (hg : Gl X "list") (hm : X.mg "list" = none) (hg2 : Gl X "range") (hm2 : X.mg "range" = none) (ha : DX X ec W e φ) (hb : DX X ec W b ψ) (na : starEach [e, b] X.env = (false, eval e X.env) :: starEach [b] X.env := by rfl) (na2 : starEach [b] X.env = (false, eval b X.env) :: starEach [] X.env := by rfl)
    (hp : (backTo q (starEach [b] X.env)).any (·.1) = false := by rfl)
    (nb : starEach [.Call (.Name "range" p2) [e, b] [] q] X.env = (false, eval (.Call (.Name "range" p2) [e, b] [] q) X.env) :: starEach [] X.env := by rfl) : DLi X ec W (.Call (.Name "list" p) [.Call (.Name "range" p2) [e, b] [] q] [] pos) (l2 lRange2 φ ψ) :=
  peImp (pe_listRg hc hg hm (prg_2 hg2 hm2 ha hb na na2 hp) nb) fun σ H Q ⟨r, F, F0, B, S, q⟩ => by
    refine ⟨r, F, F0, B, S, (Thn.bind q).imp fun x F1 H1 ex1 g1 h1 v rv => ⟨r, F1, F0, B, S.grow g1, (Thn.bind h1).imp fun y F2 H2 ey g2 h2 u ru => ?_⟩⟩
    obtain ⟨xs, ex, k⟩ := h2.po
    unfold lRange2 at ex
    split at ex
    · rename_i i j
      split at ex
      · rename_i hj
        cases ex
        exact ⟨i, j, rv, ru, small_ok hj.1 hj.2.1 hj.2.2, fun q hq => k F2 H2 (Gr.refl g2.i) q _ hq (rgV_rng i j)⟩
      · cases ex
    · cases ex
/-! ### dicts that are only looked at -/
theorem de_dict0 : DE X ec W (.Dict [] [] pos) (vC (.dict [])) := peImp pe_dnewK fun σ H Q ⟨r, F, F0, B, S, q⟩ => fun p hp =>
  (show ∀ F' H', Gr F H F' H' → ∀ v, Rep X.K F' (.dict []) v → Q v H' from q) _ _ (Gr.new S.sub hp (.dK [])) _ ⟨p, rfl, .inl ⟨rfl, [], upd_same⟩⟩
theorem de_dict1 {i j : Int} {p3 : Pos} : DE X ec W (.Dict [some (.Constant (.int i) 0 p2)] [.Constant (.int j) 0 p3] pos) (vC (.dict [(.int i, .int j)])) := peImp (pe_disp (pps_cons pe_int pe_int pps_nil) rfl rfl (by simp) (show 1 ≤ 15 by decide)) fun σ H Q ⟨r, F, F0, B, S, q⟩ => fun p hp => by
  refine ⟨upd_same, [(.inl i, .int j)], rfl, (show 1 ≤ 15 by decide), ?_⟩
  rw [upd_upd]
  exact (show ∀ F' H', Gr F H F' H' → ∀ v, Rep X.K F' (.dict [(.int i, .int j)]) v → Q v H' from q) _ _ (Gr.new S.sub hp _) _ ⟨p, rfl, .inl ⟨rfl, _, upd_same⟩⟩
/-! ### len(set(..)) -/
theorem pairs_of {h : Heap} : ∀ {ds : List D} {its : List Value}, (∀ d ∈ ds, (match d with | .tuple _ => true | _ => false) = true ∧ deepI 3 d = true) → IsAll h ds its →
    ∃ ks : List (Addr × D), its = ks.map (fun p => Value.ref p.1) ∧ ks.map (·.2) = ds ∧ ∀ p ∈ ks, deepI 3 p.2 = true ∧ Is h p.2 (.ref p.1)
  | [], its, _, hi => ⟨[], by rw [hi.nil]; rfl, rfl, fun p hp => (nomatch hp)⟩
  | d :: ds, its, hd, hi => by
    obtain ⟨v, us, rfl, h1, h2⟩ := hi.cons
    obtain ⟨ks, e1, e2, e3⟩ := pairs_of (fun x hx => hd x (List.mem_cons_of_mem _ hx)) h2
    obtain ⟨t1, t2⟩ := hd d List.mem_cons_self
    cases d with
    | tuple xs =>
      obtain ⟨a, o, vs, n, rfl, r⟩ := h1.tup
      refine ⟨(a, .tuple xs) :: ks, by rw [e1]; rfl, by rw [← e2]; rfl, fun p hp => ?_⟩
      rcases List.mem_cons.mp hp with e | hp
      · rw [e]; exact ⟨t2, h1⟩
      · exact e3 p hp
    | _ => cases t1
theorem lay_all : ∀ {ds : List D}, (∀ d ∈ ds, deepI 3 d = true) → PyData.canLayAll0 ds = true
  | [], _ => rfl
  | d :: ds, h => by
    unfold PyData.canLayAll0
    rw [(deepI_lay 3 (h d List.mem_cons_self)).1, lay_all fun x hx => h x (List.mem_cons_of_mem _ hx)]
    rfl
theorem de_lenset (hu : X.A.units + 65 < cLine) (hg : Gl X "len") (hm : X.mg "len" = none) (hg2 : Gl X "set") (hm2 : X.mg "set" = none) (ha : DX X ec W e φ) (hc : X.calm = true := by rfl)
    (na : starEach [e] X.env = (false, eval e X.env) :: starEach [] X.env := by rfl) : DE X ec W (.Call (.Name "len" p) [.Call (.Name "set" p2) [e] [] q] [] pos) (v1 dLenSet φ) := by
  refine ⟨fun pins s σ H Q I h => ?_⟩
  obtain ⟨r, F, F0, B, S, h⟩ := h
  refine Call_ (ld_blt I hg hm boot_len ?_)
  refine PyProof.Rows.callWith_builtin1 (PyProof.Rows.args_cons ?_ rfl) rfl rfl
  refine Call_ (ld_blt I hg2 hm2 boot_set ?_)
  refine PyProof.Rows.callWith_type1 (PyProof.Rows.args_cons (thn (ha.run pins s σ H (fun x H1 => ∃ d F1 ds, Same F1 H1 ∧ RepX X.K F1 H1 d x ∧ seqOf d = some ds ∧ (∀ z ∈ ds, (match z with | .tuple _ => true | _ => false) = true ∧ deepI 3 z = true) ∧ ds.length ≤ 40 ∧ Q (.int ((unlike [] ds).length : Nat)) H1) I
    ⟨r, F, F0, B, S, (Thn.bind h).imp fun d F1 H1 _ g k v rv => ?_⟩) fun v s1 ⟨x, H1, I1, r1, q1⟩ => PyProof.Rows.args_nil ?_) na) na rfl
  · obtain ⟨y, ey, k⟩ := Thn.po k
    unfold dLenSet at ey
    split at ey
    · rename_i ds hs
      split at ey
      · rename_i c
        cases ey
        rw [Bool.and_eq_true, List.all_eq_true, decide_eq_true_eq] at c
        exact ⟨d, F1, ds, g.i, rv, hs, fun z hz => by have := c.1 z hz; rw [Bool.and_eq_true] at this; exact this, c.2, k F1 H1 (Gr.refl g.i) _ rfl⟩
      · cases ey
    · cases ey
  · obtain ⟨d, F1, ds, sm, rx, hs, hd, hn, q1⟩ := q1
    have lay := lay_all fun z hz => (hd z hz).2
    have fin : ∀ (its : List Value) (ks : List (Addr × D)) (h' : Heap) (tk : Nat) (L : List (Addr × D)) (en : Array (Int × Value)) (ep : Nat) (tb : SetTable), ks.map (·.2) = ds → (∀ p ∈ ks, deepI 3 p.2 = true ∧ Is s1.heap p.2 (.ref p.1)) →
        GS s1.heap h' s1.heap.objs.size L en ep tb → Got ks ks.length L → wpAny (model X.prog X.w) (X.A) (call (.builtin "len") [.ref s1.heap.objs.size]) (EP X pins σ Q) X.xe { s1 with heap := h', toks := tk } := by
      intro its ks h' tk L en ep tb e2 hk R g
      obtain ⟨o, ho, hex, hdt⟩ := R.ob
      have hc1 := g.count R.nd fun p hp => (hk p hp).1
      rw [e2] at hc1
      have hsz := R.size
      have I2 : Inv X pins σ H1 { s1 with heap := h', toks := tk } := I1.kept R.base
      exact call_len_set ho hex hdt R.fits (by have := R.few; omega) ⟨.int ((unlike [] ds).length : Nat), H1, I2.tok _, ⟨_, by rw [← hc1, hsz]⟩, q1⟩
    cases d with
    | list ds' =>
      cases hs
      obtain ⟨a, vs, rfl, h1, h2⟩ := rx
      cases r1
      obtain ⟨its, rv, pl, hz⟩ := I1.list h1
      obtain ⟨as, ra⟩ := Dp.readsAll I1 ds vs its ((h2.mono sm).dp lay) rv
      obtain ⟨ks, e1, e2, e3⟩ := pairs_of hd ⟨as, ra⟩
      have hl : ks.length = ds.length := by rw [← e2, List.length_map]
      refine set_list ks (I1.ok.hd hc) pl.isList (by simpa using e1) e3 (by omega) (by omega) fun h' tk L en ep tb R g => PyProof.Rows.args_nil ?_
      exact fin its ks h' tk L en ep tb e2 e3 R g
    | tuple ds' =>
      cases hs
      obtain ⟨a, vs, rfl, h1, h2⟩ := rx
      cases r1
      obtain ⟨its, rv, ⟨o, ho, hcl, n, hdt⟩, hz⟩ := I1.tuple (tupT sm h1)
      obtain ⟨as, ra⟩ := Dp.readsAll I1 ds vs its ((h2.mono sm).dp lay) rv
      obtain ⟨ks, e1, e2, e3⟩ := pairs_of hd ⟨as, ra⟩
      have hl : ks.length = ds.length := by rw [← e2, List.length_map]
      refine set_tuple ks (I1.ok.hd hc) ⟨o, ho, hcl, n, hdt⟩ (by simpa using e1) e3 (by omega) (by omega) fun h' tk L en ep tb R g => PyProof.Rows.args_nil ?_
      exact fin its ks h' tk L en ep tb e2 e3 R g
    | _ => cases hs
end
end DL
/-! Own errors: raise, try. -/
namespace DL
open PySem PySem.Spec PyProof.Rows L2

/-- an own class of errors without an __init__ of its own -/
def errF (K : PySem.W.Frag) (C : Addr) : Bool := PySem.W.excIn K C [.type "ValueError", .type "Exception", .type "BaseException", .type "object"] "ValueError.__new__" && (PySem.W.keepIn K (.ref C) && (decide (PySem.W.subIn K (.ref C) (.type "BaseException") = some true) && decide (PySem.W.typeIn K (.ref C) = some (.type "type"))))
structure ErrC (K : PySem.W.Frag) (mg : Str → Option Value) (ec : EC) (c : String) : Prop where
  g : mg (PySem.Str.ofString c) = some (.ref (ec c))
  f : errF K (ec c) = true
section
variable {X : Cx} {ec : EC} {W : WX}
theorem ds_raise {c : String} {m : Str} {j : Nat} {p p2 pos' pos : Pos} (hc : X.calm = true) (tk : Takes X W) (T : ErrC X.K X.mg ec c) (hg : Gl X (PySem.Str.ofString c)) (hdb : ((PySem.Str.ofString c) == ("__debug__" : Str)) = false := by decide +kernel) :
    DS X ec W (.Raise (some (.Call (.Name (PySem.Str.ofString c) p) [.Constant (.str m) j p2] [] pos')) none pos) (sErr c) := by
  have f := T.f
  unfold errF at f
  rw [Bool.and_eq_true, Bool.and_eq_true, Bool.and_eq_true, decide_eq_true_eq, decide_eq_true_eq] at f
  exact psImp (ps_raise hc tk (pmk_own PySem.F.excBase_ValueError f.1 T.g f.2.1 (raises_own f.2.2.1 f.2.2.2) hg hdb)) fun D σ H ⟨r, F, F0, B, S, q⟩ => q none σ F H (Same.refl _) S rfl
/-- the clauses -/
inductive HdsD (X : Cx) (ec : EC) (W : WX) : List ExceptHandler → List (String × SX) → Prop
  | nil : HdsD X ec W [] []
  | cons {c : String} {b₀ : Stmt} {suite : List Stmt} {np pos' : Pos} {hds : List ExceptHandler} {b : SX} {l : List (String × SX)} (hc : Names X (PySem.Str.ofString c) (.ref (ec c)))
      (hs : ∀ (a : Addr) (pn : List (Addr × Obj)), DSs (X.suite a pn) ec W (b₀ :: suite) b) (r : HdsD X ec W hds l) : HdsD X ec W (.ExceptHandler (some (.Name (PySem.Str.ofString c) np)) none (b₀ :: suite) pos' :: hds) ((c, b) :: l)
abbrev hdL (K : PySem.W.Frag) (ec : EC) (W : WX) (l : List (String × SX)) : List (Value × (Addr → Value → Option Addr → TS)) := l.map fun x => (.ref (ec x.1), fun _ _ _ => tS K ec W x.2)
theorem hds_ok {hds : List ExceptHandler} {l : List (String × SX)} (h : HdsD X ec W hds l) : HdsOk X hds (hdL X.K ec W l) := by
  induction h with
  | nil => exact .nil
  | cons hc hs r ih => exact .cons hc (fun a oe cls d pn _ _ => hs a _) ih
/-- what tab tells of the classes -/
def TabT (K : PySem.W.Frag) (ec : EC) (tab : List ((String × String) × Bool)) : Prop := ∀ a c b, tab.lookup (a, c) = some b → PySem.W.exmOne K (.ref (ec a)) (.ref (ec c)) = some b
theorem pick_use {tab : List ((String × String) × Bool)} (T : TabT X.K ec tab) {e : Err} {r : Env} {F0 B F : Hp} {D : Ends} : ∀ {l : List (String × SX)}, Aft X.K ec W F0 B F (pickH tab e r l) D →
    ∀ dx σ' F' H', Same F F' → SR X.K F0 B r σ' H' F' → ErrOk X.K F' H' e dx → wMany X.K W D (hdL X.K ec W l) (.ref (ec e.cls)) dx σ' H'
  | [], q, dx, σ', F', H', sf, S, he => q dx σ' F' H' sf S he
  | (c, b) :: l, q, dx, σ', F', H', sf, S, he => by
    unfold pickH at q
    cases hl : tab.lookup (e.cls, c) with
    | none => rw [hl] at q; exact False.elim q
    | some k =>
      rw [hl] at q
      refine ⟨k, T _ _ _ hl, fun hk a _ => ?_, fun hk => ?_⟩
      · subst hk
        exact ⟨r, F', F0, B, S, Aft.mono sf q⟩
      · subst hk
        exact pick_use T (Aft.mono sf q) dx σ' F' H' (Same.refl _) S he
theorem ds_try {body : List Stmt} {h₀ : ExceptHandler} {hds : List ExceptHandler} {pos : Pos} {a : SX} {l : List (String × SX)} {tab : List ((String × String) × Bool)} (hs : X.stack = X.env :: X.outer) (hf : X.env.frame = some X.env.locals) (tk : Takes X W) (T : TabT X.K ec tab)
    (hb : ∀ (W' : WX) (pn : List (Addr × Obj)) (xe : Value → Shared → Prop), Takes (X.tr pn xe) W' → PassesOwn (model X.prog X.w) X.A X.env xe → DSs (X.tr pn xe) ec W' body a) (hh : HdsD X ec W (h₀ :: hds) l) :
    DS X ec W (.Try body (h₀ :: hds) [] [] pos) (sTry tab a l) := psImp (ps_try_many hs hf tk (tb := fun W' => tS X.K ec W' a) hb (hds_ok hh)) fun D σ H ⟨r, F, F0, B, S, q⟩ => by
  refine ⟨r, F, F0, B, S, ?_⟩
  have q' : Aft X.K ec W F0 B F (match a r with | some (.er e r1) => pickH tab e r1 l | o => o) D := q
  revert q'
  match a r with
  | none => exact fun z => z
  | some (.nx r1) => exact fun z => z
  | some (.bk r1) => exact fun z => z
  | some (.ct r1) => exact fun z => z
  | some (.ro i r1) => exact fun z => z
  | some (.rt d) => exact fun z => z
  | some (.er e r1) => exact fun z => pick_use T z
end
/-- the classes' places by their names -/
def ecL (l : List (String × Addr)) : EC := fun y => (l.lookup y).getD 0
theorem tabT_nil {K : PySem.W.Frag} {ec : EC} : TabT K ec [] := fun _ _ _ h => nomatch h
theorem tabT_cons {K : PySem.W.Frag} {ec : EC} {a c : String} {b : Bool} {tab : List ((String × String) × Bool)} (h : PySem.W.exmOne K (.ref (ec a)) (.ref (ec c)) = some b) (T : TabT K ec tab) : TabT K ec (((a, c), b) :: tab) := fun a' c' b' e => by
  rw [List.lookup_cons] at e
  split at e
  · rename_i q
    have q' : (a', c') = (a, c) := by simpa using q
    cases q'
    cases e
    exact h
  · exact T _ _ _ e
end DL
/-! enumerate over a tuple or a list. -/
namespace DL
open PySem PySem.Spec PyProof.Rows L2
open AutoSeq1 (wpAny_loadPart')

theorem new_enumT (l : Addr) (items : Array Value) (n : Nat) (dct : Option Addr) (sl : Array (Option Value)) :
    Meets (Builtin.«enumerate.__new__» ⟨[.type "enumerate", .ref l], []⟩) (fun _ R s => s.heap.get? l = some { cls := .type "tuple", dict := dct, data := .seq items n, slots := sl } ∧
      R (.ok (.ret (.ref (s.heap.push { cls := .type "tuple_iterator", data := .fields #[.ref l, .int 0 0] }).objs.size)))
        { s with heap := (s.heap.push { cls := .type "tuple_iterator", data := .fields #[.ref l, .int 0 0] }).push { cls := .type "enumerate", data := .fields #[.none, .bool false, .ref s.heap.objs.size, rawInt 0, .none, .none] } }) :=
  .of_wp fun prog w A R s h => by
    obtain ⟨hp, g, d, tk, os⟩ := s; obtain ⟨hl, h⟩ := h
    have hsub := sub_enumerate
    have hL : Heap.IsTuple (Shared.heap ⟨hp, g, d, tk, os⟩) l items := ⟨_, hl, rfl, n, rfl⟩
    wp_walk using wpAny_loadPart' hl
    refine wpAny_stack_any fun st => wpAny_pure ?_
    split
    · rename_i c _ _ _ _ _
      cases (c == Value.type "enumerate")
      · wp_walk using wpAny_loadPart' hl, wpAny_pyIter_tuple hL
        exact ⟨_, rfl, h⟩
      · wp_walk using wpAny_loadPart' hl, wpAny_pyIter_tuple hL
        exact ⟨_, rfl, h⟩
    · wp_walk using wpAny_loadPart' hl, wpAny_pyIter_tuple hL
      exact ⟨_, rfl, h⟩
theorem call_enumT {prog : Program} {w : World} {A : Around} {E : Value → Shared → Prop} {s : Shared} {l : Addr} {items : Array Value} {Q : Value → Shared → Prop} (hL : s.heap.IsTuple l items)
    (h : ∀ h', IsEnum h' (s.heap.objs.size + 1) s.heap.objs.size 0 .none → h'.IsTupleIter s.heap.objs.size l 0 → h'.objs.size = s.heap.objs.size + 2 →
      (∀ b o, s.heap.get? b = some o → h'.get? b = some o) → Q (.ref (s.heap.objs.size + 1)) { s with heap := h' }) :
    wpAny (model prog w) A (call (.type "enumerate") [.ref l]) Q E s := by
  obtain ⟨⟨c, dct, dt, sl⟩, hl, hc, n, hd⟩ := hL
  replace hc : c = .type "tuple" := hc
  replace hd : dt = .seq items n := hd
  subst hc hd
  refine callType_new PySem.F.called_enumerate (by decide) (PySem.F.typeCall_enumerate_1 _) (PySem.F.newCall_enumerate_1 _) (fun obj => PySem.F.args_object_init_2 obj _) PySem.F.entry_enumerate_new
    (new_enumT l items n dct sl) ⟨hl, ?_⟩
  have hz : (s.heap.push { cls := .type "tuple_iterator", data := .fields #[.ref l, .int 0 0] }).objs.size = s.heap.objs.size + 1 := Heap.size_push ..
  show _ ∧ _
  rw [hz]
  have he : IsEnum ((s.heap.push { cls := .type "tuple_iterator", data := .fields #[.ref l, .int 0 0] }).push
      { cls := .type "enumerate", data := .fields #[.none, .bool false, .ref s.heap.objs.size, rawInt 0, .none, .none] }) (s.heap.objs.size + 1) s.heap.objs.size 0 .none := by
    have := Heap.get?_push_size (s.heap.push { cls := .type "tuple_iterator", data := .fields #[.ref l, .int 0 0] })
      (o := { cls := .type "enumerate", data := .fields #[.none, .bool false, .ref s.heap.objs.size, rawInt 0, .none, .none] }) rfl
    rw [hz] at this; exact this
  refine ⟨⟨_, he, rfl⟩, h _ he ⟨_, Heap.get?_push_of_some _ (Heap.get?_push_size _ rfl), rfl, rfl⟩ (by rw [Heap.size_push, hz]) fun b o x => Heap.get?_push_of_some _ (Heap.get?_push_of_some _ x)⟩
/-- the tuple at a, each item in a new pair -/
def ItE (K : PySem.W.Frag) (a : Addr) : It :=
  ⟨fun i H => ∃ (xs : List V) (x : V), SqT K H a xs ∧ xs[i]? = some x, fun i H v H' => ∃ T x, v = .ref T ∧ H T = none ∧ H' = upd H T (.tup [.int (i : Nat), x]) ∧ ∀ xs, SqT K H a xs → xs[i]? = some x, fun i H => ∃ xs : List V, SqT K H a xs ∧ xs.length = i⟩
theorem turn_enumT {P : Program} {w : World} {K : PySem.W.Frag} {elts : List Expr} {kk : Nat} {tpos : Pos} (a e it : Addr) (hai : a ≠ it) (hae : a ≠ e) :
    Turn P w K (.Tuple elts kk tpos) (ItE K a) [e, it] e (fun i h => (∃ old, IsEnum h e it ((i : Nat) : Int) old) ∧ h.IsTupleIter it a i ∧ e ≠ it) where
  mem := by simp
  obj := fun i h st b hb => by
    obtain ⟨⟨old, he⟩, ⟨o, ho, hc, hd⟩, _⟩ := st
    have e' : b = e ∨ b = it := by simpa using hb
    rcases e' with z | z
    · rw [z]; exact ⟨_, he, fun v q => nomatch q⟩
    · rw [z]; exact ⟨o, ho, fun v q => by rw [hd] at q; cases q⟩
  keep := fun i h h' st k => let ⟨⟨old, he⟩, hi, hne⟩ := st; ⟨⟨old, k e (by simp) _ he⟩, hi.at fun o q => k it (by simp) o q, hne⟩
  item := by
    intro X hP hw hK hc i pins s σ H E I hf st hg
    subst hP hw hK
    obtain ⟨⟨old, he⟩, hit, hne⟩ := st
    obtain ⟨xs, x, hq, hx⟩ := hg
    obtain ⟨its, rv, p, hz⟩ := I.tuple hq
    obtain ⟨u, hu, ru⟩ := rv.get hx
    have hel : e < s.heap.objs.size := Heap.lt_size he
    have hil : it < s.heap.objs.size := by obtain ⟨_, q, _⟩ := hit; exact Heap.lt_size q
    have hT : s.heap.IsTuple a its.toArray := p
    have hlt : i < its.toArray.size := by
      have := (List.getElem?_eq_some_iff.mp hu).1
      simpa using this
    refine wpAny_pyNext_enum_itemD (Draws.tuple (A := X.A.in1) (show X.A.in1.handled = none from I.ok.hd hc) it a hai its.toArray) he ⟨hit, hT⟩ hlt hne (by simp [hne, Ne.symm hae]) fun x' h' tk hPx ho hst hT2 hsz hk => ?_
    have hxu : x' = u := by
      have h1 : its.toArray[i]? = some x' := hPx
      have h2 : its.toArray[i]? = some u := by simpa using hu
      rw [h1] at h2
      exact Option.some.inj h2
    subst hxu
    refine ⟨_, rfl, wpAny_letOwnedTupleGo_enum (s := { s with heap := h', toks := tk + 1 }) ho fun h'' he' sb => ?_⟩
    have hT3 : h''.get? s.heap.objs.size = some { cls := .type "tuple", data := .seq #[.int i tk, x'] } := (sb.2 _ (Nat.ne_of_gt hel)).trans hT2
    have new : ObjOk X.prog X.w (upd H s.heap.objs.size (.tup [.int (i : Nat), x])) h'' s.heap.objs.size (.tup [.int (i : Nat), x]) :=
      ⟨by show 2 ≤ sizeLine; decide, [.int i tk, x'], .cons ⟨_, rfl⟩ (.cons ru .nil), ⟨_, hT3, rfl, _, rfl⟩⟩
    have I1 : Inv X pins σ (upd H s.heap.objs.size (.tup [.int (i : Nat), x])) { s with heap := h'', toks := tk + 1 } :=
      I.turnedNew (ch := [e, it]) (fun b ob hb q => (sb.2 b (fun z => hb (by simp [z]))).trans (hk b ob (fun z => hb (by simp [z])) (fun z => hb (by simp [z])) q)) hf (Nat.le_refl _) new
    refine ⟨.ref s.heap.objs.size, _, I1, rfl, ⟨_, x, rfl, I.hok.fresh (Nat.le_refl _), rfl, fun ys hy => by rw [I.tuple_inj hy hq]; exact hx⟩, ⟨⟨x', ?_⟩, hst.1.at fun o q => (sb.2 it (Ne.symm hne)).trans q, hne⟩, fun b hb => ?_⟩
    · have e1 : ((i + 1 : Nat) : Int) = (i : Int) + 1 := by omega
      rw [e1]; exact he'
    · have hb' : b < s.heap.objs.size := by
        have e' : b = e ∨ b = it := by simpa using hb
        rcases e' with z | z
        · rw [z]; exact hel
        · rw [z]; exact hil
      rw [upd_ne (Nat.ne_of_lt hb')]
      exact (hf b hb).1
  done := by
    intro X hP hw hK hc i pins s σ H E I hf st hg
    subst hP hw hK
    obtain ⟨⟨old, he⟩, hit, hne⟩ := st
    obtain ⟨xs, hq, hx⟩ := hg
    obtain ⟨its, rv, p, hz⟩ := I.tuple hq
    obtain ⟨f0, f1, f2, f3, f4, f5⟩ := hf it (by simp)
    have hl := rv.length
    have hT : s.heap.IsTuple a its.toArray := p
    have hn : its.toArray.size = i := by rw [List.size_toArray, ← hl, hx]
    subst hn
    exact wpAny_pyNext_enum_endD (Draws.tuple (A := X.A.in1) (show X.A.in1.handled = none from I.ok.hd hc) it a hai its.toArray) he ⟨hit, hT⟩ fun h' eb => ⟨rfl, I.turned (t' := s.toks) (fun b o hb q => eb b o hb q) f0 f1 f3 f4 f5⟩
  self := fun A i s Q E st h => let ⟨⟨_, he⟩, _⟩ := st; wpAny_pyIter_enum he h
theorem walk_enumT {K : PySem.W.Frag} {a : Addr} {xs : List V} : Walk (ItE K a) xs.length (fun H => SqT K H a xs) (YPair (fun i => some (.int (i : Nat))) (fun i => xs[i]?)) := by
  refine ⟨fun i _ hi q => ⟨xs, xs[i], q, by simp [hi]⟩, fun _ q => ⟨xs, q, rfl⟩, fun i H v H' _ q y => ?_⟩
  obtain ⟨T, x, h1, h2, h3, h4⟩ := y
  exact ⟨T, .int (i : Nat), x, h1, h2, h3, rfl, h4 xs q⟩
theorem enumL_at : ∀ (xs : List DL.D) (k i : Nat) (d : DL.D), (enumL k xs)[i]? = some d → ∃ x, xs[i]? = some x ∧ d = .tuple [.int ((k + i : Nat) : Int), x]
  | [], _, _, _, h => nomatch h
  | x :: xs, k, 0, d, h => ⟨x, rfl, by cases h; rfl⟩
  | x :: xs, k, i + 1, d, h => by
    obtain ⟨y, h1, h2⟩ := enumL_at xs (k + 1) i d h
    exact ⟨y, h1, by rw [h2, show k + 1 + i = k + (i + 1) by omega]⟩
theorem enumL_len : ∀ (xs : List DL.D) (k : Nat), (enumL k xs).length = xs.length
  | [], _ => rfl
  | x :: xs, k => by rw [enumL, List.length_cons, List.length_cons, enumL_len xs]
/-- pairs of a number and an item -/
theorem pair_use {K : PySem.W.Frag} {Bh Fb : Hp} {J : It} {xs : List DL.D} {vs : List V} {G : Hp → Prop} (w : Walk J vs.length G (YPair (fun i => some (.int (i : Nat))) (fun i => vs[i]?))) (hG : ∀ H, Same Bh H → G H) (hr : RepL K Fb xs vs) : IterOk K Bh Fb J (enumL 0 xs) := by
  refine ⟨G, _, (by rw [enumL_len, ← hr.length] at *; exact w), hG, fun i d H x H' F hd _ f e y => ?_⟩
  obtain ⟨T, p, q, rfl, hT, rfl, hp, hq⟩ := y
  obtain ⟨z, hz, rfl⟩ := enumL_at xs 0 i d hd
  obtain ⟨v, h1, h2⟩ := hr.get hz
  have hq' : vs[i]? = some q := hq
  have hp' : some (V.int (i : Nat)) = some p := hp
  rw [h1] at hq'
  cases hq'
  cases hp'
  have g := Gr.new e hT (.tup [.int (i : Nat), q])
  refine ⟨_, g, T, _, rfl, upd_same, .int (i : Nat), [q], rfl, ?_, q, [], rfl, (h2.mono f).mono g.f, rfl⟩
  show V.int (i : Nat) = V.int ((0 + i : Nat) : Int)
  rw [Nat.zero_add]
def iEnumS (K : PySem.W.Frag) (ta : TA) : TI := fun σ H R => ta σ H fun vs H1 => ∃ a, vs = [.ref a] ∧ ((∃ xs, SqL K H1 a xs ∧ R (Ite K a) H1) ∨ ∃ xs, SqT K H1 a xs ∧ R (ItE K a) H1)
theorem pi_enumS {X : Cx} {e : Expr} {ta : TA} {p pos tpos : Pos} {elts : List Expr} {kk : Nat} (hg : Gl X "enumerate") (hm : X.mg "enumerate" = none) (ha : PA X [e] ta) (hs : starEach [e] X.env = [(false, eval e X.env)] := by rfl) :
    PI X (.Tuple elts kk tpos) (.Call (.Name "enumerate" p) [e] [] pos) (iEnumS X.K ta) := by
  refine ⟨fun pins s σ H R I h => ?_⟩
  refine Call_ (ld_blt I hg hm boot_enumerate (PyProof.Rows.callWith_type1 (thn (ha.run pos pins s σ H _ I h) fun us s1 ⟨vs, H1, I1, r1, q1⟩ => ?_) hs rfl))
  obtain ⟨a, ex, q⟩ := q1
  subst ex
  cases r1 with
  | cons r rr =>
    cases rr
    cases r
    have near : ∀ b, b ∈ [s1.heap.objs.size + 1, s1.heap.objs.size] → s1.heap.objs.size ≤ b := fun b hb => by
      have e' : b = s1.heap.objs.size + 1 ∨ b = s1.heap.objs.size := by simpa using hb
      rcases e' with z | z
      · rw [z]; exact Nat.le_add_right _ _
      · rw [z]; exact Nat.le_refl _
    rcases q with ⟨xs, hq, q⟩ | ⟨xs, hq, q⟩
    · obtain ⟨its, rv, p', hz⟩ := I1.list hq
      refine call_enumerate_list p'.isList fun h' he hit hsz hk => wpAny_pyIter_enum he ?_
      have I2 : Inv X pins σ H1 { s1 with heap := h' } := I1.kept (t' := s1.toks) hk
      exact ⟨s1.heap.objs.size + 1, [s1.heap.objs.size + 1, s1.heap.objs.size], _, _, H1, rfl, I2, turn_enum a (s1.heap.objs.size + 1) s1.heap.objs.size, ⟨⟨.none, he⟩, hit, Nat.succ_ne_self _⟩, fun b hb => I1.fpOk (near b hb) (I1.hok.fresh (near b hb)), q⟩
    · obtain ⟨its, rv, p', hz⟩ := I1.tuple hq
      have hT : s1.heap.IsTuple a its.toArray := p'
      have ha : a < s1.heap.objs.size := by obtain ⟨o, ho, _⟩ := hT; exact Heap.lt_size ho
      refine call_enumT hT fun h' he hit hsz hk => wpAny_pyIter_enum he ?_
      have I2 : Inv X pins σ H1 { s1 with heap := h' } := I1.kept (t' := s1.toks) hk
      exact ⟨s1.heap.objs.size + 1, [s1.heap.objs.size + 1, s1.heap.objs.size], _, _, H1, rfl, I2, turn_enumT a (s1.heap.objs.size + 1) s1.heap.objs.size (Nat.ne_of_lt ha) (Nat.ne_of_lt (Nat.lt_succ_of_lt ha)), ⟨⟨.none, he⟩, hit, Nat.succ_ne_self _⟩, fun b hb => I1.fpOk (near b hb) (I1.hok.fresh (near b hb)), q⟩
section
variable {X : Cx} {ec : EC} {W : WX} {e : Expr} {pos p tpos : Pos} {elts : List Expr} {kk : Nat} {φ : EX}
theorem pa1D (ha : DE X ec W e φ) (hs : starEach [e] X.env = (false, eval e X.env) :: starEach [] X.env := by rfl) : PA X [e] (fun σ H Q => ∃ r F F0 B, SR X.K F0 B r σ H F ∧ Thn X.K ec W (φ r) σ F H fun d F' H' => ∀ v, Rep X.K F' d v → Q [v] H') := paImp (pa_cons ha pa_nil hs) fun σ H Q ⟨r, F, F0, B, S, q⟩ => ⟨r, F, F0, B, S, q⟩
theorem di_enum (hg : Gl X "enumerate") (hm : X.mg "enumerate" = none) (ha : DE X ec W e φ) (hs : starEach [e] X.env = [(false, eval e X.env)] := by rfl) : DI X ec W (.Tuple elts kk tpos) (.Call (.Name "enumerate" p) [e] [] pos) (iEnumE φ) :=
  piImp (pi_enumS hg hm (pa1D ha hs) hs) fun σ H R ⟨r, F, F0, B, S, q⟩ => by
    refine ⟨r, F, F0, B, S, (Thn.bind q).imp fun x F1 H1 _ g1 h1 v rv => ?_⟩
    obtain ⟨xs, ex, k⟩ := h1.po
    have k' := k F1 H1 (Gr.refl g1.i)
    cases x with
    | list ys =>
      have ex' : enumL 0 ys = xs := Option.some.inj ex
      subst ex'
      obtain ⟨a, vs, rfl, h2, h3⟩ := rv
      exact ⟨a, rfl, .inl ⟨vs, g1.i.seq h2, k' _ (pair_use (walk_enum (xs := vs)) (fun H q => q.seq h2) h3)⟩⟩
    | tuple ys =>
      have ex' : enumL 0 ys = xs := Option.some.inj ex
      subst ex'
      obtain ⟨a, vs, rfl, h2, h3⟩ := rv
      exact ⟨a, rfl, .inr ⟨vs, tupT g1.i h2, k' _ (pair_use (walk_enumT (xs := vs)) (fun H q => tupT q h2) h3)⟩⟩
    | _ => cases ex
end
end DL
/-! max of a list; calls by names; range with a step. -/
namespace DL
open PySem PySem.Spec PyProof.Rows L2

theorem nums_rep {K : PySem.W.Frag} {F : Hp} : ∀ {xs : List DL.D} {ns : List Int} {vs : List V}, DL.numsOf xs = some ns → RepL K F xs vs → vs = ns.map V.int ∧ xs = ns.map PyData.int
  | [], ns, vs, h, r => by
    have h' : some ([] : List Int) = some ns := h
    cases h'
    have r' : vs = [] := r
    exact ⟨r', rfl⟩
  | x :: xs, ns, vs, h, r => by
    cases x with
    | int i =>
      obtain ⟨ms, e1, e2⟩ := Option.map_eq_some_iff.mp (show (DL.numsOf xs).map (i :: ·) = some ns from h)
      obtain ⟨v, t, rfl, h1, h2⟩ := r
      obtain ⟨g1, g2⟩ := nums_rep e1 h2
      have h1' : v = V.int i := h1
      subst e2
      exact ⟨by rw [h1', g1]; rfl, by rw [g2]; rfl⟩
    | _ => cases h
theorem fold_max : ∀ (ns : List Int) (n : Int), (ns.foldl max n = n ∨ ns.foldl max n ∈ ns) ∧ n ≤ ns.foldl max n ∧ ∀ y ∈ ns, y ≤ ns.foldl max n
  | [], n => ⟨.inl rfl, Int.le_refl _, fun y h => (nomatch h)⟩
  | x :: ns, n => by
    obtain ⟨h1, h2, h3⟩ := fold_max ns (max n x)
    rw [List.foldl_cons]
    refine ⟨?_, Int.le_trans (Int.le_max_left n x) h2, fun y hy => ?_⟩
    · rcases h1 with h1 | h1
      · rw [h1]
        by_cases c : n ≤ x
        · right; rw [Int.max_eq_right c]; exact List.mem_cons_self
        · left; exact Int.max_eq_left (by omega)
      · exact .inr (List.mem_cons_of_mem _ h1)
    · rcases List.mem_cons.mp hy with e | hy
      · rw [e]; exact Int.le_trans (Int.le_max_right n x) h2
      · exact h3 y hy
theorem b_maxL {K : PySem.W.Frag} : B1 K dMaxL (L2.rMax K) := by
  intro x d F H v Q hf e rx k
  unfold dMaxL at hf
  split at hf
  · rename_i xs
    split at hf
    · rename_i n ns hn
      cases hf
      obtain ⟨a, vs, rfl, h1, h2⟩ := rx
      obtain ⟨g1, _⟩ := nums_rep hn h2
      subst g1
      refine ⟨a, n :: ns, rfl, h1, Nat.succ_pos _, fun m hm hu => ?_⟩
      obtain ⟨f1, f2, f3⟩ := fold_max ns n
      have em : m = ns.foldl max n := by
        apply Int.le_antisymm
        · rcases List.mem_cons.mp hm with e | hm
          · rw [e]; exact f2
          · exact f3 m hm
        · rcases f1 with f1 | f1
          · rw [f1]; exact hu n List.mem_cons_self
          · exact hu _ (List.mem_cons_of_mem _ f1)
      rw [em]
      exact k _ F H (Gr.refl e) rfl
    · cases hf
  · cases hf
/-! ### max(.., default=..) -/
def rMaxDf (K : PySem.W.Frag) (d : Int) : List V → List V → Hp → VK → Prop := fun vs zs H Q => ∃ (a : Addr) (ns : List Int), vs = [V.ref a] ∧ zs = [V.int d] ∧ SqL K H a (ns.map V.int) ∧ Q (.int (match ns with | [] => d | n :: r => r.foldl max n)) H
theorem ints_reads {h : Heap} : ∀ {ns : List Int} {us : List Value}, Vals (ns.map V.int) us → ReadsAll h us (ns.map PyData.int) []
  | [], _, .nil => .nil
  | n :: ns, _, .cons r t => by
    obtain ⟨tk, rfl⟩ := r
    exact ReadsAll.cons (as := []) (bs := []) (Reads.int n tk) (ints_reads t)
theorem ints_depth : ∀ ns : List Int, PyData.depthAll (ns.map PyData.int) ≤ 1
  | [] => Nat.zero_le _
  | n :: ns => by
    have ih := ints_depth ns
    rw [List.map_cons]
    unfold PyData.depthAll
    have : (PyData.int n).depth ≤ 1 := by simp [PyData.depth]
    omega
theorem cr_maxDf {X : Cx} {d : Int} (hc : X.calm = true) (hu : X.A.units + 65 < cLine) : CallRK X (.builtin "max") [Str.ofString "default"] (rMaxDf X.K d) := by
  intro pins s σ H vs zs us ws Q I r rz h
  obtain ⟨a, ns, rfl, rfl, hs, q⟩ := h
  obtain rfl := Vals.ref1 r
  obtain ⟨its, rv, hl, _⟩ := I.list hs
  cases rz with
  | cons r1 r2 =>
    cases r2
    obtain ⟨tk, rfl⟩ := r1
    have hr : ReadsAll s.heap its.toArray.toList (ns.map PyData.int) [] := by simpa using ints_reads (h := s.heap) rv
    have isI : ∀ x ∈ ns.map PyData.int, ∃ i, x = .int i := fun x hx => by
      obtain ⟨i, _, e⟩ := List.mem_map.mp hx
      exact ⟨i, e.symm⟩
    have ha : PySem.W.AlikeAll (ns.map PyData.int) := ⟨fun x hx y hy => by
      obtain ⟨i, rfl⟩ := isI x hx
      obtain ⟨j, rfl⟩ := isI y hy
      rfl, fun x hx => by
      obtain ⟨i, rfl⟩ := isI x hx
      simp⟩
    have hd : PyData.depthAll (ns.map PyData.int) ≤ 1 := by
      exact ints_depth ns
    refine PySem.W.max_list_default (I.ok.hd hc) hl.isList hr ha (by omega) (fun e h' tk' hk => ?_) fun y ys i v h' tk' bs e hv hrd hk => ?_
    · have en : ns = [] := by cases ns with | nil => rfl | cons => cases e
      subst en
      exact ⟨.int d, H, I.kept hk, ⟨_, rfl⟩, q⟩
    · cases ns with
      | nil => cases e
      | cons n r =>
        have e1 : y = .int n := by cases e; rfl
        have e2 : ys = r.map PyData.int := by cases e; rfl
        subst e1 e2
        rw [PySem.W.maxD_ints] at hrd
        cases hrd with
        | int _ t => exact ⟨.int _, H, I.kept hk, ⟨t, rfl⟩, q⟩
section
variable {X : Cx} {ec : EC} {W : WX} {e : Expr} {pos p p2 kpos : Pos} {φ : EX}
theorem de_maxdef {d : Int} {j : Nat} (hc : X.calm = true) (hu : X.A.units + 65 < cLine) (hg : Gl X "max") (hm : X.mg "max" = none) (ha : DX X ec W e φ)
    (hb : bootBuiltins "max" = some (.builtin "max") := by decide +kernel) (hs : starEach [e] X.env = (false, eval e X.env) :: starEach [] X.env := by rfl)
    (he : backTo pos (starEach [e] X.env) = (false, eval e X.env) :: backTo pos (starEach [] X.env) := by rfl) (hpl : (backTo pos (starEach [e] X.env)).any (·.1) = false := by rfl)
    (hall : (backToKw pos (keywordEach [⟨some "default", .Constant (.int d) j p2, kpos⟩] X.env)).all (·.1.isSome) = true := by rfl) (hnone : (backToKw pos (keywordEach [⟨some "default", .Constant (.int d) j p2, kpos⟩] X.env)).any (·.1.isNone) = false := by rfl)
    (hks : (backToKw pos (keywordEach [⟨some "default", .Constant (.int d) j p2, kpos⟩] X.env)).filterMap (·.1) = [Str.ofString "default"] := by rfl) :
    DE X ec W (.Call (.Name "max" p) [e] [⟨some "default", .Constant (.int d) j p2, kpos⟩] pos) (v1 (dMaxD d) φ) :=
  peImp (pe_callBK (cr_maxDf (d := d) hc hu) hg hm hb (pa1 ha hs) (pk_cons pe_int pk_nil) (by decide) (by decide) he hpl hall hnone hks) fun σ H Q ⟨r, F, F0, B, S, q⟩ => by
    refine ⟨r, F, F0, B, S, (Thn.bind q).imp fun x F1 H1 _ g1 h1 v rv => ?_⟩
    obtain ⟨y, ey, k⟩ := h1.po
    unfold dMaxD at ey
    split at ey
    · rename_i xs
      obtain ⟨a, vs, rfl, h4, h5⟩ := rv
      split at ey
      · rename_i hn
        cases ey
        obtain ⟨g2, _⟩ := nums_rep hn h5
        subst g2
        exact ⟨a, [], rfl, rfl, h4, k F1 H1 (Gr.refl g1.i) _ rfl⟩
      · rename_i n ns hn
        cases ey
        obtain ⟨g2, _⟩ := nums_rep hn h5
        subst g2
        exact ⟨a, n :: ns, rfl, rfl, h4, k F1 H1 (Gr.refl g1.i) _ rfl⟩
      · cases ey
    · cases ey
/-! ### calls by names -/
structure DKw (K : PySem.W.Frag) (mg : Str → Option Value) (x : Str) (ps ks : List Str) (is : List Nat) : Prop where
  ex : ∃ (f : Addr) (fd : FuncData), mg x = some (.ref f) ∧ (∀ (s : Shared) (ws : List Value), ws.length = ks.length → BindsTo s fd ⟨[], ks.zip ws⟩ (ps.zip (is.map fun i => ws.getD i .none))) ∧ ∃ oc od sl, K.lookup f = some ⟨oc, od, .func fd, sl⟩
theorem rep_at {K : PySem.W.Frag} {F : Hp} : ∀ {ds : List DL.D} {vs : List V}, RepL K F ds vs → ∀ i, i < ds.length → Rep K F (ds.getD i .none) (vs.getD i .non)
  | [], _, _, _, h => absurd h (Nat.not_lt_zero _)
  | d :: ds, _, ⟨v, t, rfl, h1, h2⟩, 0, _ => h1
  | d :: ds, _, ⟨v, t, rfl, h1, h2⟩, i + 1, h => rep_at h2 i (Nat.lt_of_succ_lt_succ h)
theorem rep_perm {K : PySem.W.Frag} {F : Hp} {ds : List DL.D} {vs : List V} (r : RepL K F ds vs) : ∀ (is : List Nat), (∀ i ∈ is, i < ds.length) → RepL K F (is.map fun i => ds.getD i .none) (is.map fun i => vs.getD i .non)
  | [], _ => rfl
  | i :: is, h => ⟨_, _, rfl, rep_at r i (h i List.mem_cons_self), rep_perm r is fun j hj => h j (List.mem_cons_of_mem _ hj)⟩
theorem vals_at : ∀ {vs : List V} {us : List Value}, Vals vs us → ∀ i, i < vs.length → RelV (vs.getD i .non) (us.getD i .none)
  | _, _, .nil, _, h => absurd h (Nat.not_lt_zero _)
  | _, _, .cons r _, 0, _ => r
  | _, _, .cons _ t, i + 1, h => vals_at t i (Nat.lt_of_succ_lt_succ h)
theorem vals_perm {vs : List V} {us : List Value} (r : Vals vs us) : ∀ (is : List Nat), (∀ i ∈ is, i < vs.length) → Vals (is.map fun i => vs.getD i .non) (is.map fun i => us.getD i .none)
  | [], _ => .nil
  | i :: is, h => .cons (vals_at r i (h i List.mem_cons_self)) (vals_perm r is fun j hj => h j (List.mem_cons_of_mem _ hj))
/-- values of keywords -/
def DPK (X : Cx) (ec : EC) (W : WX) (kws : List Keyword) (as : List EX) : Prop := PK X kws (tAs X.K ec W (vArgs as))
theorem dk_nil : DPK X ec W [] [] := ⟨fun pos pins s σ H Q I h => pk_nil.run pos pins s σ H Q I (by
  obtain ⟨r, F, F0, B, S, q⟩ := h
  exact Thn.ok S.sub q [] rfl)⟩
theorem dk_cons {nm : Option Str} {kws : List Keyword} {as : List EX} (ha : DE X ec W e φ) (hr : DPK X ec W kws as) : DPK X ec W (⟨nm, e, kpos⟩ :: kws) (φ :: as) :=
  ⟨fun pos pins s σ H Q I h => (pk_cons (nm := nm) (kpos := kpos) ha hr).run pos pins s σ H Q I (by
    obtain ⟨r, F, F0, B, S, q⟩ := h
    exact ⟨r, F, F0, B, S, (Thn.bind q).imp fun x F1 H1 _ g1 h1 v rv => ⟨r, F1, F0, B, S.grow g1, (Thn.bind h1).imp fun xs F2 H2 _ g2 h2 vs rs =>
      Thn.ok g2.i h2 (v :: vs) ⟨v, vs, rfl, rv.mono g2.f, rs⟩⟩⟩)⟩
theorem de_callK {j k n : Nat} {ps ks : List Str} {is : List Nat} {g : List DL.D → R DL.D} {x : Str} {kws : List Keyword} {as : List EX} (G : DOk X.prog X.w X.K X.mg X.base ec x ps j n g) (B : DKw X.K X.mg x ps ks is) (hr : Room k X.A) (tk : Takes X W) (hjk : j ≤ k) (hg : Gl X x) (hkw : DPK X ec W kws as)
    (hn : is.length = n := by rfl) (hin : ∀ i ∈ is, i < as.length := by decide) (hlen : ks.length = as.length := by rfl) (hdb : (x == ("__debug__" : Str)) = false := by decide)
    (hall : (backToKw pos (keywordEach kws X.env)).all (·.1.isSome) = true := by rfl) (hks : (backToKw pos (keywordEach kws X.env)).filterMap (·.1) = ks := by rfl)
    (hpl : ((backTo pos (starEach [] X.env)).any (·.1) || (backToKw pos (keywordEach kws X.env)).any (·.1.isNone)) = false := by rfl) :
    DE X ec W (.Call (.Name x p) [] kws pos) (vCallK g is as) := by
  refine ⟨fun pins s σ H Q I h => ?_⟩
  obtain ⟨f, fd, h1, h2, h3, h4, oc, od, sl, h5⟩ := G.ex
  obtain ⟨f', fd', h1', h3', oc', od', sl', h5'⟩ := B.ex
  rw [h1] at h1'
  have ef : f = f' := by simpa using h1'
  subst ef
  rw [h5] at h5'
  have ed : fd = fd' := by
    have := Option.some.inj h5'
    simp only [Obj.mk.injEq, Data.func.injEq] at this
    exact this.2.2.1
  subst ed
  obtain ⟨r, F, F0, Bh, S, q⟩ := h
  refine wpAny_Call_Name_kw (ld_glob I hg h1 ?_ hdb)
  refine PySem.W.callWith_of hpl (PySem.W.keeps_K h2) (evalArgs_kw2_nil hall (thn (hkw.run pos pins s σ H (fun vs H1 => ∃ ds F1, ds.length = as.length ∧ Same F1 H1 ∧ RepL X.K F1 ds vs ∧ Thn X.K ec W (g (is.map fun i => ds.getD i .none)) σ F1 H1 fun d F' H' => ∀ v, Rep X.K F' d v → Q v H') I
    ⟨r, F, F0, Bh, S, (Thn.bind q).imp fun ds F1 H1 ex g1 k vs rs => ⟨ds, F1, vArgs_len ex, g1.i, rs, k⟩⟩) fun us s1 ⟨vs, H1, I1, r1, ds, F1, hl, sf, rs, k⟩ => ⟨I1.kIn, ?_⟩))
  rw [hks]
  have hvl : vs.length = ds.length := rs.length
  have r2 := vals_perm r1 is fun i hi => by rw [hvl, hl]; exact hin i hi
  have hus : us.length = ks.length := by rw [← r1.length, hvl, hl, hlen]
  have hq : spD X.K ec n g (is.map fun i => vs.getD i .non) H1 Q (WE W σ) := by
    refine ⟨is.map fun i => ds.getD i .none, F1, by rw [List.length_map]; exact hn, sf, rep_perm rs is fun i hi => by rw [hl]; exact hin i hi, ?_⟩
    revert k
    match g (is.map fun i => ds.getD i .none) with
    | none => exact fun z => z
    | some (.error _) => exact fun z => z
    | some (.ok k) => exact fun z => z
  refine wpAny_call (codeAny_mono (h4.run X.A X.stack s1 H1 ⟨[], ks.zip us⟩ _ _ Q (WE W σ) (hr.mono hjk) I1.env0 (h3' s1 us hus) r2 hq) fun rr s' hq' => ?_)
  cases rr with
  | error e => exact passAt tk σ pins H1 s1 e s' I1 hq'
  | ok fl =>
    cases fl with
    | ret u => exact I1.after hq'
    | next => exact False.elim hq'
    | brk => exact False.elim hq'
    | cont => exact False.elim hq'
/-! ### range with a step -/
theorem iter_rngC {K : PySem.W.Frag} {Bh Fb : Hp} {lo c : Int} {n : Nat} : IterOk K Bh Fb (Itc lo c n) ((List.range n).map fun (k : Nat) => PyData.int (lo + (k : Nat) * c)) := by
  refine ⟨fun _ => True, YFn fun i => .int (lo + (i : Nat) * c), by rw [List.length_map, List.length_range]; exact walk_rangeC, fun _ _ => trivial, fun i d H x H' F hd _ f e y => ?_⟩
  obtain ⟨rfl, rfl⟩ := y
  rw [List.getElem?_map] at hd
  cases eq : (List.range n)[i]? with
  | none => rw [eq] at hd; cases hd
  | some k =>
    rw [eq] at hd
    obtain ⟨h3, h4⟩ := List.getElem?_eq_some_iff.mp eq
    have hk : k = i := by simpa using h4.symm
    subst hk
    cases hd
    exact ⟨F, Gr.refl e, rfl⟩
theorem small_up {j c : Int} (h0 : 0 ≤ j) (h1 : j ≤ 16777216) (h2 : 1 ≤ c) (h3 : c ≤ 16777216) : Builtin.Range.small 0 j c = true := by
  have hq : 0 ≤ (j + c - 1) / c := Int.ediv_nonneg (by omega) (by omega)
  have hq2 : (j + c - 1) / c ≤ 33554432 := Int.le_trans (Int.ediv_le_self _ (by omega)) (by omega)
  have hm1 : 0 ≤ (j + c - 1) / c * c := Int.mul_nonneg hq (by omega)
  have hm2 : (j + c - 1) / c * c ≤ j + c - 1 := Int.ediv_mul_le _ (by omega)
  unfold Builtin.Range.small
  rw [PyProof.Rows.rangeSize_pos h2 h0]
  simp only [Builtin.Range.rangeFitsLong, Bool.and_eq_true, Bool.or_eq_true, decide_eq_true_eq, beq_iff_eq]
  refine ⟨by omega, .inr ?_⟩
  rw [if_pos (by omega), Bool.and_eq_true, decide_eq_true_eq, decide_eq_true_eq]
  omega
theorem di_range3 {tg b c : Expr} {ψ χ : EX} (hg : Gl X "range") (hm : X.mg "range" = none) (ha : DA X ec W [e, b, c] (vArgs [φ, ψ, χ]))
    (hs : starEach [e, b, c] X.env = (false, eval e X.env) :: starEach [b, c] X.env := by rfl) (hpl : (backTo pos (starEach [b, c] X.env)).any (·.1) = false := by rfl) : DI X ec W tg (.Call (.Name "range" p) [e, b, c] [] pos) (iRange3 φ ψ χ) :=
  piImp (pi_range3 hg hm ha hs hpl) fun σ H R ⟨r, F, F0, B, S, q⟩ => by
    refine ⟨r, F, F0, B, S, (Thn.bind q).imp fun ds F1 H1 _ g1 h1 vs rs => ?_⟩
    match ds with
    | [] => exact False.elim h1
    | [_] => exact False.elim h1
    | [_, _] => exact False.elim h1
    | _ :: _ :: _ :: _ :: _ => exact False.elim h1
    | [x, y, z] =>
      obtain ⟨xs, ex, k⟩ := Thn.po h1
      unfold rng3 at ex
      split at ex
      · rename_i i j c' _
        split at ex
        · rename_i hc
          cases ex
          obtain ⟨rfl, hj0, hj1, hc1, hc2⟩ := hc
          obtain ⟨u1, t1, rfl, e1, u2, t2, rfl, e2, u3, t3, rfl, e3, e4⟩ := rs
          have e4' : t3 = [] := e4
          subst e4'
          have e1' : u1 = V.int 0 := e1
          have e2' : u2 = V.int j := e2
          have e3' : u3 = V.int c' := e3
          subst e1' e2' e3'
          refine ⟨0, j, c', ((j + c' - 1) / c').toNat, rfl, ⟨by omega, by omega, ?_, ?_⟩, k F1 H1 (Gr.refl g1.i) _ ?_⟩
          · exact small_up hj0 hj1 hc1 hc2
          · rw [PyProof.Rows.rangeSize_pos hc1 hj0]
            have : 0 ≤ (j + c' - 1) / c' := Int.ediv_nonneg (by omega) (by omega)
            omega
          · exact iter_rngC
        · cases ex
      · cases ex
end
end DL
/-! sorted(..) of integers, of pairs of integers: any number of them. -/
namespace DL
open PySem PySem.Spec PyProof.Rows L2

theorem ms_int {ns ms : List Int} (hp : ms.Perm ns) (hs : ms.Pairwise (· ≤ ·)) : ns.mergeSort (fun i j => decide (i ≤ j)) = ms := by
  have h1 : (ns.mergeSort fun i j => decide (i ≤ j)).Pairwise (fun i j => decide (i ≤ j) = true) := List.pairwise_mergeSort (fun a b c h1 h2 => by
    have := of_decide_eq_true h1
    have := of_decide_eq_true h2
    exact decide_eq_true (by omega)) (fun a b => by
    rcases Int.le_total a b with h | h
    · rw [decide_eq_true h, Bool.true_or]
    · rw [decide_eq_true h, Bool.or_true]) ns
  refine List.Perm.eq_of_pairwise (le := (· ≤ ·)) (fun a b _ _ x y => Int.le_antisymm x y) (h1.imp fun h => of_decide_eq_true h) hs ((List.mergeSort_perm ns _).trans hp.symm)
theorem prLe_iff {p q : Int × Int} : prLe p q = true ↔ p.1 < q.1 ∨ (p.1 = q.1 ∧ p.2 ≤ q.2) := by
  unfold prLe
  rw [Bool.or_eq_true, Bool.and_eq_true, decide_eq_true_iff, decide_eq_true_iff, decide_eq_true_iff]
theorem ms_pr {ns ms : List (Int × Int)} (hp : ms.Perm ns) (hs : ms.Pairwise (fun x y => prLe x y = true)) : ns.mergeSort prLe = ms := by
  have h1 : (ns.mergeSort prLe).Pairwise (fun x y => prLe x y = true) := List.pairwise_mergeSort (fun a b c h1 h2 => by
    have := prLe_iff.mp h1
    have := prLe_iff.mp h2
    exact prLe_iff.mpr (by omega)) (fun a b => by
    rw [Bool.or_eq_true, prLe_iff, prLe_iff]
    omega) ns
  refine List.Perm.eq_of_pairwise (le := fun x y => prLe x y = true) (fun a b _ _ x y => ?_) h1 hs ((List.mergeSort_perm ns _).trans hp.symm)
  have x' := prLe_iff.mp x
  have y' := prLe_iff.mp y
  have e1 : a.1 = b.1 := by omega
  have e2 : a.2 = b.2 := by omega
  exact Prod.ext e1 e2
theorem b_sortI {K : PySem.W.Frag} : B1L K lSortI (rSortedI K) := by
  intro x xs F H v Q ex e r k
  unfold lSortI at ex
  split at ex
  · rename_i ds
    split at ex
    · rename_i ns hn
      cases ex
      obtain ⟨a, vs, rfl, h, rl⟩ := r
      obtain ⟨e1, e2⟩ := nums_rep hn rl
      refine ⟨a, ns, rfl, by rw [← e1]; exact h, fun ns' p hp hs hq => ?_⟩
      refine k p _ hq ?_
      rw [ms_int hp hs]
      exact ints_rep ns'
    · cases ex
  · cases ex

/-- sorted(xs), pairs of ints that may be read, any number of them -/
def rSortedQ (K : PySem.W.Frag) : List V → Hp → VK → Prop := fun vs H Q => ∃ (a : Addr) (l : List (V × (Int × Int))), vs = [V.ref a] ∧ SqL K H a (l.map (·.1)) ∧ (∀ e ∈ l, ∃ t, e.1 = V.ref t ∧ SqT K H t [.int e.2.1, .int e.2.2]) ∧
  ∀ (l' : List (V × (Int × Int))) (p : Addr), l'.Perm l → l'.Pairwise (fun x y => prLe x.2 y.2 = true) → H p = none → Q (.ref p) (upd H p (.lst (l'.map (·.1))))
theorem isPair_fun {h : Heap} {v : Value} {i j i' j' : Int} (p : Srt.IsPair h v i j) (q : Srt.IsPair h v i' j') : (i', j') = (i, j) := by
  obtain ⟨a, o, t, u, n, rfl, h1, h2, h3⟩ := p
  obtain ⟨a', o', t', u', n', e, g1, g2, g3⟩ := q
  cases e
  rw [h1] at g1
  cases g1
  rw [h3] at g3
  cases g3
  rfl
theorem tup_at {h : Heap} {a : Addr} {its : Array Value} (t : IsTup h a its) : ∃ o n, h.get? a = some o ∧ o.cls = .type "tuple" ∧ o.data = .seq its n := by
  obtain ⟨o, h1, h2, n, h3⟩ := t
  exact ⟨o, n, h1, h2, h3⟩
open Classical in
noncomputable def kOf (h : Heap) (v : Value) : Int × Int := if x : ∃ p : Int × Int, Srt.IsPair h v p.1 p.2 then x.choose else (0, 0)
theorem kOf_eq {h : Heap} {v : Value} {i j : Int} (p : Srt.IsPair h v i j) : kOf h v = (i, j) := by
  have x : ∃ p : Int × Int, Srt.IsPair h v p.1 p.2 := ⟨(i, j), p⟩
  unfold kOf
  rw [dif_pos x]
  exact isPair_fun p x.choose_spec
theorem zip_back {h : Heap} : ∀ {l : List (V × (Int × Int))} {us : List Value}, Vals (l.map (·.1)) us → (∀ e ∈ l, ∃ t, e.1 = V.ref t ∧ Srt.IsPair h (.ref t) e.2.1 e.2.2) →
    l = us.map (fun u => (backV u, kOf h u)) ∧ ∀ u ∈ us, Srt.IsPair h u (kOf h u).1 (kOf h u).2
  | [], _, .nil, _ => ⟨rfl, fun u hu => nomatch hu⟩
  | e :: l, _ :: us, .cons r rs, g => by
    obtain ⟨t, e1, e2⟩ := g e List.mem_cons_self
    obtain ⟨g1, g2⟩ := zip_back rs fun x m => g x (List.mem_cons_of_mem _ m)
    have r' : RelV e.1 _ := r
    rw [e1] at r'
    obtain rfl : _ = Value.ref t := r'
    have ek := kOf_eq e2
    refine ⟨?_, fun u hu => ?_⟩
    · rw [List.map_cons, ← g1, ek]
      obtain ⟨x, y, z⟩ := e
      cases e1
      rfl
    · rcases List.mem_cons.mp hu with rfl | hu
      · rw [ek]
        exact e2
      · exact g2 u hu
section
variable {X : Cx}
theorem cr_sortedQ : CallR X (.builtin "sorted") (rSortedQ X.K) := by
  intro pins s σ H vs us Q I r h
  obtain ⟨a, l, rfl, hs, hx, q⟩ := h
  obtain ⟨its, rv, hl, hz⟩ := I.list hs
  obtain ⟨u, rfl, ru⟩ := vals1 r
  obtain rfl : u = Value.ref a := ru
  obtain ⟨e1, hp⟩ := zip_back (h := s.heap) rv fun e m => by
    obtain ⟨t, e1, ht⟩ := hx e m
    obtain ⟨its2, r2, hT, _⟩ := I.tuple ht
    obtain ⟨o, n, ho, hc, hd⟩ := tup_at hT
    obtain ⟨u1, u2, rfl, ri, rj⟩ := vals2 r2
    obtain ⟨t1, rfl⟩ := ri
    obtain ⟨t2, rfl⟩ := rj
    exact ⟨t, e1, t, o, t1, t2, n, rfl, ho, hc, hd⟩
  refine SrtO.sorted_pairsO (k := kOf s.heap) hl.isList (by rw [← rv.length]; exact hz) hp fun h' d out h1 h2 kp hd hn => ?_
  have h3 : ∀ u ∈ out, ∃ a, u = Value.ref a := fun u hu => by
    obtain ⟨a, o, t, u, n, e, _⟩ := hp _ (h2.perm.mem_iff.mp hu)
    exact ⟨a, e⟩
  obtain ⟨n, hn⟩ := hn
  have em : (out.map fun u => (backV u, kOf s.heap u)).map (·.1) = out.map backV := by rw [List.map_map]; rfl
  have hlen : (out.map backV).length ≤ sizeLine := by
    have := h2.perm.length_eq
    have := rv.length
    rw [List.length_map] at *
    omega
  refine ⟨.ref d, upd H d (.lst (out.map backV)), I.laid (t' := s.toks) kp hd ⟨hlen, out, n, vals_back h3, hn⟩, rfl, ?_⟩
  rw [← em]
  refine q _ d ?_ ?_ (I.hok.fresh hd)
  · rw [e1]
    exact h2.perm.map _
  · refine List.pairwise_map.mpr (h1.imp fun {x y} h => ?_)
    have := SrtO.lexB_no.mp h
    exact prLe_iff.mpr (by dsimp only; omega)
end
theorem prs_rep {K : PySem.W.Frag} {F : Hp} : ∀ {xs : List DL.D} {ps : List (Int × Int)} {vs : List V}, prsOf xs = some ps → RepL K F xs vs → ∃ l : List (V × (Int × Int)), l.map (·.1) = vs ∧ l.map (·.2) = ps ∧ ∀ e ∈ l, Rep K F (prD e.2) e.1
  | [], ps, vs, h, r => by
    have h' : some ([] : List (Int × Int)) = some ps := h
    cases h'
    have r' : vs = [] := r
    exact ⟨[], r'.symm, rfl, fun e m => nomatch m⟩
  | x :: xs, ps, vs, h, r => by
    unfold prsOf at h
    split at h
    · rename_i e
      cases e
    · rename_i i j ys e
      cases e
      obtain ⟨ms, e1, e2⟩ := Option.map_eq_some_iff.mp h
      obtain ⟨v, t, rfl, h1, h2⟩ := r
      obtain ⟨l, g1, g2, g3⟩ := prs_rep e1 h2
      subst e2
      refine ⟨(v, (i, j)) :: l, by rw [List.map_cons, g1], by rw [List.map_cons, g2], fun e m => ?_⟩
      rcases List.mem_cons.mp m with rfl | m
      · exact h1
      · exact g3 e m
    · cases h
theorem prs_back {K : PySem.W.Frag} {F : Hp} : ∀ {l : List (V × (Int × Int))}, (∀ e ∈ l, Rep K F (prD e.2) e.1) → RepL K F ((l.map (·.2)).map prD) (l.map (·.1))
  | [], _ => rfl
  | e :: l, h => ⟨e.1, _, rfl, h e List.mem_cons_self, prs_back fun x m => h x (List.mem_cons_of_mem _ m)⟩
theorem b_sortP {K : PySem.W.Frag} : B1L K lSortP (rSortedQ K) := by
  intro x xs F H v Q ex e r k
  unfold lSortP at ex
  split at ex
  · rename_i ds
    split at ex
    · rename_i ps hn
      cases ex
      obtain ⟨a, vs, rfl, h, rl⟩ := r
      obtain ⟨l, e1, e2, e3⟩ := prs_rep hn rl
      refine ⟨a, l, rfl, by rw [e1]; exact h, fun x m => ?_, fun l' p hp hs hq => ?_⟩
      · obtain ⟨t, ws, et, ht, rw'⟩ := e3 x m
        obtain ⟨v1, r1, rfl, h1, v2, r2, rfl, h2, h3⟩ := rw'
        cases (show v1 = V.int x.2.1 from h1)
        cases (show v2 = V.int x.2.2 from h2)
        cases (show r2 = [] from h3)
        exact ⟨t, et, tupT e ht⟩
      · refine k p _ hq ?_
        have hm : ps.mergeSort prLe = l'.map (·.2) := ms_pr (by rw [← e2]; exact hp.map _) (List.pairwise_map.mpr hs)
        rw [hm]
        exact prs_back fun x m => e3 x (hp.mem_iff.mp m)
    · cases ex
  · cases ex
theorem b_sum {K : PySem.W.Frag} : B1 K dSum (rSum K) := by
  intro x d F H v Q hf e rx k
  unfold dSum at hf
  split at hf
  · rename_i xs
    split at hf
    · rename_i ns hn
      cases hf
      obtain ⟨a, vs, rfl, h1, h2⟩ := rx
      obtain ⟨g1, _⟩ := nums_rep hn h2
      subst g1
      exact ⟨a, ns, rfl, h1, k _ F H (Gr.refl e) rfl⟩
    · cases hf
  · cases hf
end DL
/-! zip of two tuples. -/
namespace DL
open PySem PySem.Spec PyProof.Rows L2
/-- the tuples at a and b, the items in new pairs -/
def ItZ (K : PySem.W.Frag) (a b : Addr) : It :=
  ⟨fun i H => ∃ (xs ys : List V) (x y : V), SqT K H a xs ∧ SqT K H b ys ∧ xs[i]? = some x ∧ ys[i]? = some y,
    fun i H v H' => ∃ T x y, v = .ref T ∧ H T = none ∧ H' = upd H T (.tup [x, y]) ∧ (∀ xs, SqT K H a xs → xs[i]? = some x) ∧ ∀ ys, SqT K H b ys → ys[i]? = some y,
    fun i H => ∃ xs ys : List V, SqT K H a xs ∧ SqT K H b ys ∧ i = min xs.length ys.length⟩
theorem turn_zipT {P : Program} {w : World} {K : PySem.W.Frag} {elts : List Expr} {kk : Nat} {tpos : Pos} {a b z TI TO i1 i2 : Addr} (S : ZipSep2 z TI TO i1 i2 [i1, a] [i2, b]) (ha : a ≠ i1) (hb : b ≠ i2) (h12 : i1 ≠ i2) :
    Turn P w K (.Tuple elts kk tpos) (ItZ K a b) [z, TI, TO, i1, i2] z (fun i h => IsZip h z TI TO .none ∧ IsTupOf2 h TI (.ref i1) (.ref i2) ∧ (∃ x y, IsTupOf2 h TO x y) ∧ h.IsTupleIter i1 a i ∧ h.IsTupleIter i2 b i) where
  mem := by simp
  obj := fun i h st c hc => by
    obtain ⟨hz, hTI, ⟨x, y, hTO⟩, ⟨o1, e1, _, d1⟩, ⟨o2, e2, _, d2⟩⟩ := st
    have e' : c = z ∨ c = TI ∨ c = TO ∨ c = i1 ∨ c = i2 := by simpa using hc
    rcases e' with q | q | q | q | q
    · rw [q]; exact ⟨_, hz, fun v q => nomatch q⟩
    · rw [q]; exact ⟨_, hTI, fun v q => nomatch q⟩
    · rw [q]; exact ⟨_, hTO, fun v q => nomatch q⟩
    · rw [q]; exact ⟨o1, e1, fun v q => by rw [d1] at q; cases q⟩
    · rw [q]; exact ⟨o2, e2, fun v q => by rw [d2] at q; cases q⟩
  keep := fun i h h' st k => by
    obtain ⟨hz, hTI, ⟨x, y, hTO⟩, h1, h2⟩ := st
    exact ⟨k z (by simp) _ hz, k TI (by simp) _ hTI, ⟨x, y, k TO (by simp) _ hTO⟩, h1.at fun o q => k i1 (by simp) o q, h2.at fun o q => k i2 (by simp) o q⟩
  item := by
    intro X hP hw hK hc i pins s σ H E I hf st hg
    subst hP hw hK
    obtain ⟨hz, hTI, ⟨x0, y0, hTO⟩, h1, h2⟩ := st
    obtain ⟨xs, ys, x, y, hqx, hqy, hx, hy⟩ := hg
    obtain ⟨its, rv, p, _⟩ := I.tuple hqx
    obtain ⟨its2, rv2, p2, _⟩ := I.tuple hqy
    obtain ⟨u, hu, ru⟩ := rv.get hx
    obtain ⟨u2, hu2, ru2⟩ := rv2.get hy
    have hzl : z < s.heap.objs.size := Heap.lt_size hz
    have t1 : s.heap.IsTuple a its.toArray := p
    have t2 : s.heap.IsTuple b its2.toArray := p2
    have l1 : i < its.toArray.size := by have := (List.getElem?_eq_some_iff.mp hu).1; simpa using this
    have l2 : i < its2.toArray.size := by have := (List.getElem?_eq_some_iff.mp hu2).1; simpa using this
    have hh : X.A.in1.handled = none := I.ok.hd hc
    refine wpAny_pyNext_zipD2_item S (Draws.tuple (A := X.A.in1) hh i1 a ha its.toArray) (Draws.tuple (A := X.A.in1) hh i2 b hb its2.toArray) hz hTI hTO ⟨h1, t1⟩ ⟨h2, t2⟩ l1 l2 fun x1 x2 h' tk q1 q2 z' TO' st1 st2 hT hsz hk => ?_
    have e1 : x1 = u := by
      have g1 : its.toArray[i]? = some x1 := q1
      have g2 : its.toArray[i]? = some u := by simpa using hu
      rw [g1] at g2
      exact Option.some.inj g2
    have e2 : x2 = u2 := by
      have g1 : its2.toArray[i]? = some x2 := q2
      have g2 : its2.toArray[i]? = some u2 := by simpa using hu2
      rw [g1] at g2
      exact Option.some.inj g2
    subst e1 e2
    refine ⟨_, rfl, wpAny_letOwnedTupleGo_zip (s := { s with heap := h', toks := tk }) z' fun h'' z'' sb => ?_⟩
    have hT2 : h''.get? s.heap.objs.size = some { cls := .type "tuple", data := .seq #[x1, x2] } := (sb.2 _ (Nat.ne_of_gt hzl)).trans hT
    have new : ObjOk X.prog X.w (upd H s.heap.objs.size (.tup [x, y])) h'' s.heap.objs.size (.tup [x, y]) :=
      ⟨by show 2 ≤ sizeLine; decide, [x1, x2], .cons ru (.cons ru2 .nil), ⟨_, hT2, rfl, _, rfl⟩⟩
    have I1 : Inv X pins σ (upd H s.heap.objs.size (.tup [x, y])) { s with heap := h'', toks := tk } :=
      I.turnedNew (t' := tk) (ch := [z, TI, TO, i1, i2]) (fun c o hb q => (sb.2 c (fun q' => hb (by simp [q']))).trans (hk c o (fun q' => hb (by simp [q'])) (fun q' => hb (by simp [q'])) (fun q' => hb (by simp [q'])) (fun q' => hb (by simp [q'])) q)) hf (Nat.le_refl _) new
    refine ⟨.ref s.heap.objs.size, _, I1, rfl, ⟨_, x, y, rfl, I.hok.fresh (Nat.le_refl _), rfl, fun l hl => by rw [I.tuple_inj hl hqx]; exact hx, fun l hl => by rw [I.tuple_inj hl hqy]; exact hy⟩, ⟨z'', ?_, ⟨x1, x2, ?_⟩, ?_, ?_⟩, fun c hcm => ?_⟩
    · exact (sb.2 _ S.TIz).trans (hk _ _ S.TIz S.TITO S.TIi1 S.TIi2 hTI)
    · exact (sb.2 _ S.TOz).trans TO'
    · exact st1.1.at fun o q => (sb.2 _ (Ne.symm S.zi1)).trans q
    · exact st2.1.at fun o q => (sb.2 _ (Ne.symm S.zi2)).trans q
    · have hlt : c < s.heap.objs.size := by
        have e' : c = z ∨ c = TI ∨ c = TO ∨ c = i1 ∨ c = i2 := by simpa using hcm
        rcases e' with q | q | q | q | q
        · rw [q]; exact hzl
        · rw [q]; exact Heap.lt_size hTI
        · rw [q]; exact Heap.lt_size hTO
        · rw [q]; obtain ⟨_, e1, _⟩ := h1; exact Heap.lt_size e1
        · rw [q]; obtain ⟨_, e2, _⟩ := h2; exact Heap.lt_size e2
      rw [upd_ne (Nat.ne_of_lt hlt)]
      exact (hf c hcm).1
  done := by
    intro X hP hw hK hc i pins s σ H E I hf st hg
    subst hP hw hK
    obtain ⟨hz, hTI, ⟨x0, y0, hTO⟩, h1, h2⟩ := st
    obtain ⟨xs, ys, hqx, hqy, hend⟩ := hg
    obtain ⟨its, rv, p, _⟩ := I.tuple hqx
    obtain ⟨its2, rv2, p2, _⟩ := I.tuple hqy
    have t1 : s.heap.IsTuple a its.toArray := p
    have t2 : s.heap.IsTuple b its2.toArray := p2
    have l1 := rv.length
    have l2 := rv2.length
    have s1 : its.toArray.size = xs.length := by rw [List.size_toArray, ← l1]
    have s2 : its2.toArray.size = ys.length := by rw [List.size_toArray, ← l2]
    have hh : X.A.in1.handled = none := I.ok.hd hc
    exact wpAny_pyNext_zipD2_end S (Draws.tuple (A := X.A.in1) hh i1 a ha its.toArray) (Draws.tuple (A := X.A.in1) hh i2 b hb its2.toArray) hz hTI hTO ⟨h1, t1⟩ ⟨h2, t2⟩ (by omega) (by omega) (by omega) fun h' tk hk => ⟨rfl, I.turnedL (t' := tk) (ch := [z, TI, TO, i1, i2]) (fun c o hb q =>
      hk c o (fun q' => hb (by simp [q'])) (fun q' => hb (by simp [q'])) (fun q' => hb (by simp [q'])) (fun q' => hb (by simp [q'])) q) hf⟩
  self := fun A i s Q E st h => wpAny_pyIter_zip st.1 h
theorem walk_zipT {K : PySem.W.Frag} {a b : Addr} {xs ys : List V} {n : Nat} (hn : n = min xs.length ys.length) : Walk (ItZ K a b) n (fun H => SqT K H a xs ∧ SqT K H b ys) (YPair (fun i => xs[i]?) (fun i => ys[i]?)) := by
  subst hn
  refine ⟨fun i _ hi q => ?_, fun _ q => ⟨xs, ys, q.1, q.2, rfl⟩, fun i H v H' _ q y => ?_⟩
  · have h1 : i < xs.length := by omega
    have h2 : i < ys.length := by omega
    exact ⟨xs, ys, xs[i], ys[i], q.1, q.2, by simp [h1], by simp [h2]⟩
  · obtain ⟨T, x, z, h1, h2, h3, h4, h5⟩ := y
    exact ⟨T, x, z, h1, h2, h3, h4 xs q.1, h5 ys q.2⟩
theorem zipL_at : ∀ (xs ys : List DL.D) (i : Nat) (d : DL.D), (zipL xs ys)[i]? = some d → ∃ x y, xs[i]? = some x ∧ ys[i]? = some y ∧ d = .tuple [x, y]
  | [], _, _, _, h => nomatch h
  | _ :: _, [], _, _, h => nomatch h
  | x :: xs, y :: ys, 0, d, h => ⟨x, y, rfl, rfl, by cases h; rfl⟩
  | x :: xs, y :: ys, i + 1, d, h => zipL_at xs ys i d h
theorem zipL_len : ∀ (xs ys : List DL.D), (zipL xs ys).length = min xs.length ys.length
  | [], ys => by simp [zipL]
  | _ :: _, [] => by simp [zipL]
  | x :: xs, y :: ys => by rw [zipL, List.length_cons, List.length_cons, List.length_cons, zipL_len xs ys]; omega
theorem iter_zip {K : PySem.W.Frag} {Bh Fb : Hp} {a b : Addr} {xs ys : List DL.D} {vs us : List V} (h1 : SqT K Bh a vs) (h2 : SqT K Bh b us) (r1 : RepL K Fb xs vs) (r2 : RepL K Fb ys us) : IterOk K Bh Fb (ItZ K a b) (zipL xs ys) := by
  refine ⟨_, _, walk_zipT (K := K) (a := a) (b := b) (xs := vs) (ys := us) (by rw [zipL_len, r1.length, r2.length]), fun H q => ⟨seqT q h1, seqT q h2⟩, fun i d H x H' F hd _ f e y => ?_⟩
  obtain ⟨T, p, q, rfl, hT, rfl, hp, hq⟩ := y
  obtain ⟨z1, z2, e1, e2, rfl⟩ := zipL_at xs ys i d hd
  obtain ⟨v, g1, g2⟩ := r1.get e1
  obtain ⟨u, k1, k2⟩ := r2.get e2
  have hp' : vs[i]? = some p := hp
  have hq' : us[i]? = some q := hq
  rw [g1] at hp'
  rw [k1] at hq'
  cases hp'
  cases hq'
  have g := Gr.new e hT (.tup [p, q])
  exact ⟨_, g, T, _, rfl, upd_same, p, [q], rfl, (g2.mono f).mono g.f, q, [], rfl, (k2.mono f).mono g.f, rfl⟩
theorem notin2 {x y z : Nat} (h1 : x ≠ y) (h2 : x ≠ z) : x ∉ [y, z] := by
  simp only [List.mem_cons, List.not_mem_nil, or_false, not_or]
  exact ⟨h1, h2⟩
theorem sep_of (n a b : Nat) (la : a < n) (lb : b < n) : ZipSep2 (n + 4) (n + 2) (n + 3) n (n + 1) [n, a] [n + 1, b] :=
  ⟨show n + 2 ≠ n + 4 by omega, show n + 3 ≠ n + 4 by omega, show n + 2 ≠ n + 3 by omega, show n + 2 ≠ n by omega, List.mem_cons_self, notin2 (show n + 4 ≠ n by omega) (show n + 4 ≠ a by omega), notin2 (show n + 3 ≠ n by omega) (show n + 3 ≠ a by omega),
    show n + 2 ≠ n + 1 by omega, List.mem_cons_self, notin2 (show n + 4 ≠ n + 1 by omega) (show n + 4 ≠ b by omega), notin2 (show n + 3 ≠ n + 1 by omega) (show n + 3 ≠ b by omega), notin2 (show n ≠ n + 1 by omega) (show n ≠ b by omega), notin2 (show n + 1 ≠ n by omega) (show n + 1 ≠ a by omega)⟩
def iZipT (K : PySem.W.Frag) (ta : TA) : TI := fun σ H R => ta σ H fun vs H1 => ∃ a b xs ys, vs = [.ref a, .ref b] ∧ SqT K H1 a xs ∧ SqT K H1 b ys ∧ R (ItZ K a b) H1
theorem pi_zipT {X : Cx} {e e2 : Expr} {ta : TA} {p pos tpos : Pos} {elts : List Expr} {kk : Nat} (hg : Gl X "zip") (hm : X.mg "zip" = none) (ha : PA X [e, e2] ta)
    (hs : starEach [e, e2] X.env = (false, eval e X.env) :: starEach [e2] X.env := by rfl) (hpl : (backTo pos (starEach [e2] X.env)).any (·.1) = false := by rfl) :
    PI X (.Tuple elts kk tpos) (.Call (.Name "zip" p) [e, e2] [] pos) (iZipT X.K ta) := by
  refine ⟨fun pins s σ H R I h => ?_⟩
  refine Call_ (ld_blt I hg hm PyProof.Rows.boot_zip (PyProof.Rows.callWith_type1 (thn (ha.run pos pins s σ H _ I h) fun us s1 ⟨vs, H1, I1, r1, q1⟩ => ?_) hs hpl))
  obtain ⟨a, b, xs, ys, ex, hqx, hqy, q⟩ := q1
  subst ex
  cases r1 with
  | cons r rr =>
    cases rr with
    | cons r' rr =>
      cases rr
      cases r
      cases r'
      obtain ⟨its, rv, p1, _⟩ := I1.tuple hqx
      obtain ⟨its2, rv2, p2, _⟩ := I1.tuple hqy
      have t1 : s1.heap.IsTuple a its.toArray := p1
      have t2 : s1.heap.IsTuple b its2.toArray := p2
      have la : a < s1.heap.objs.size := by obtain ⟨o, ho, _⟩ := t1; exact Heap.lt_size ho
      have lb : b < s1.heap.objs.size := by obtain ⟨o, ho, _⟩ := t2; exact Heap.lt_size ho
      refine zip_begins2 (begins_tuple a its.toArray) (begins_tuple b its2.toArray) t1 t2 fun h' hz hTI hTO h1 h2 hsz hk => wpAny_pyIter_zip hz ?_
      have I2 : Inv X pins σ H1 { s1 with heap := h' } := I1.kept (t' := s1.toks) hk
      have sep : ZipSep2 (s1.heap.objs.size + 4) (s1.heap.objs.size + 2) (s1.heap.objs.size + 3) s1.heap.objs.size (s1.heap.objs.size + 1) [s1.heap.objs.size, a] [s1.heap.objs.size + 1, b] := sep_of _ _ _ la lb
      refine ⟨s1.heap.objs.size + 4, [s1.heap.objs.size + 4, s1.heap.objs.size + 2, s1.heap.objs.size + 3, s1.heap.objs.size, s1.heap.objs.size + 1], _, _, H1, rfl, I2, turn_zipT sep (Nat.ne_of_lt la) (Nat.ne_of_lt (Nat.lt_succ_of_lt lb)) (Nat.ne_of_lt (Nat.lt_succ_self _)), ⟨hz, hTI, ⟨_, _, hTO⟩, ⟨_, h1, rfl, rfl⟩, ⟨_, h2, rfl, rfl⟩⟩, fun c hcm => ?_, q⟩
      have e' : c = s1.heap.objs.size + 4 ∨ c = s1.heap.objs.size + 2 ∨ c = s1.heap.objs.size + 3 ∨ c = s1.heap.objs.size ∨ c = s1.heap.objs.size + 1 := by simpa using hcm
      have hle : s1.heap.objs.size ≤ c := by
        rcases e' with z | z | z | z | z
        · rw [z]; exact Nat.le_add_right _ _
        · rw [z]; exact Nat.le_add_right _ _
        · rw [z]; exact Nat.le_add_right _ _
        · rw [z]; exact Nat.le_refl _
        · rw [z]; exact Nat.le_add_right _ _
      exact I1.fpOk hle (I1.hok.fresh hle)
section
variable {X : Cx} {ec : EC} {W : WX} {e e2 : Expr} {pos p tpos : Pos} {elts : List Expr} {kk : Nat} {φ ψ : EX}
/-- both are tuples -/
theorem di_zip (hg : Gl X "zip") (hm : X.mg "zip" = none) (ha : DE X ec W e φ) (hb : DE X ec W e2 ψ) (hs : starEach [e, e2] X.env = (false, eval e X.env) :: starEach [e2] X.env := by rfl) (hs2 : starEach [e2] X.env = (false, eval e2 X.env) :: starEach [] X.env := by rfl) (hpl : (backTo pos (starEach [e2] X.env)).any (·.1) = false := by rfl) :
    DI X ec W (.Tuple elts kk tpos) (.Call (.Name "zip" p) [e, e2] [] pos) (iZipTE φ ψ) :=
  piImp (pi_zipT hg hm (da_cons ha (da_cons hb da_nil hs2) hs) hs hpl) fun σ H R ⟨r, F, F0, B, S, q⟩ => by
    refine ⟨r, F, F0, B, S, (Thn.bind q).imp fun ds F1 H1 _ g1 h1 vs rs => ?_⟩
    match ds with
    | [] => exact False.elim h1
    | [_] => exact False.elim h1
    | _ :: _ :: _ :: _ => exact False.elim h1
    | [x, y] =>
      obtain ⟨xs, ex, k⟩ := Thn.po h1
      unfold zipT2 at ex
      split at ex
      · cases ex
        obtain ⟨v1, t1, rfl, ⟨a, vs1, rfl, s1, r1⟩, v2, t2, rfl, ⟨b, vs2, rfl, s2, r2⟩, e4⟩ := rs
        have e4' : t2 = [] := e4
        subst e4'
        exact ⟨a, b, vs1, vs2, rfl, tupT g1.i s1, tupT g1.i s2, k F1 H1 (Gr.refl g1.i) _ (iter_zip (.inl (.inl s1)) (.inl (.inl s2)) r1 r2)⟩
      · cases ex
end
end DL
/-! An own error whose __init__ keeps a number. -/
namespace DL
open PySem PySem.Spec PyProof.Rows L2
/-- the statements of a class's text -/
def clsBody : Stmt → List Stmt
  | .ClassDef (body := b) .. => b
  | _ => []
theorem hand_ve : PySem.W.handedIn (.builtin "ValueError.__init__") = true := by decide +kernel
/-- C.__init__(self, ..), C a class of the text over ValueError -/
theorem pe_reinit {X : Cx} {cR : Str} {Cr : Addr} {e : Expr} {es : List Expr} {ta : TA} {p1 p2 pos : Pos} {pl : Sem Bool} (hg : Gl X cR) (hm : X.mg cR = some (.ref Cr)) (sg : PySem.W.specialIn X.K (.ref Cr) "__getattribute__" = some (some (.builtin "type.__getattribute__")))
    (rd : PySem.W.readsIn X.K Cr (.type "type") = true) (fc : PySem.W.findCls X.K (.ref Cr) (.type "type") "__init__" = some (.val (.builtin "ValueError.__init__"))) (ha : PA X (e :: es) ta) (hdb : (cR == ("__debug__" : Str)) = false)
    (hc : eval (.Call (.Attribute (.Name cR p1) "__init__" p2) (e :: es) [] pos) X.env = (do
      let ov ← eval (.Name cR p1) X.env
      standAt p2.atName
      let (f, first) ← holding [ov] (getMethod ov "__init__" pl)
      callWith pos f first (backTo pos (starEach (e :: es) X.env)) (backToKw pos (keywordEach [] X.env))) := by rfl)
    (he : starEach (e :: es) X.env = (false, eval e X.env) :: starEach es X.env := by rfl) (hpl : (backTo pos (starEach es X.env)).any (·.1) = false := by rfl) :
    PE X (.Call (.Attribute (.Name cR p1) "__init__" p2) (e :: es) [] pos) (tVeI X.K ta) := by
  refine ⟨fun pins s σ H Q I h => ?_⟩
  refine PySem.W.methodCall_KW (ld_glob I hg hm ?_ hdb) hc
  refine PySem.W.method_cls I.kIn sg (PySem.W.cls_value I.kIn rd fc hand_ve ?_)
  show wpAny _ _ (callWith pos (Value.builtin "ValueError.__init__") [] (backTo pos (starEach (e :: es) X.env)) []) _ _ _
  refine PyProof.Rows.callWith_method1 (thn (ha.run pos pins _ σ H _ (I.tok _) h) fun us s1 ⟨vs, H1, I1, r1, a, C, ws, ev, hl, T, ea, q⟩ => ?_) he hpl
  subst ev
  cases r1 with
  | @cons _ u0 _ ur ra rw' =>
    obtain rfl : u0 = Value.ref a := ra
    have hlen : ur.length ≤ sizeLine := by
      rw [← Paired.length rw', sizeLine_eq]
      omega
    exact oinit_ok T I1 ea hlen fun s' J => ⟨.non, H1, J, rfl, q⟩
/-- what such an __init__ does -/
def spI (K : PySem.W.Frag) (C : Addr) (f : Str) : Sp := fun vs H Q _ => ∃ (a : Addr) (i : Int), vs = [.ref a, .int i] ∧ i.natAbs.log2 < 1920 ∧ OexC K C ∧ PySem.W.findIn K (.ref C) f = some none ∧ H a = some (exo a C none) ∧
  ∀ dx, H dx = none → dx ≠ a → Q .non (upd (upd H dx (exd dx [(f, .int i)])) a (exo a C (some dx)))
/-- its body: the base's __init__ with a text around the number, then the field -/
theorem init_use {K : PySem.W.Frag} {C a : Addr} {f : Str} {i : Int} {H : Hp} {R : TS} {t1 t2 : Str} (h1 : t1.length ≤ 1000) (h2 : t2.length ≤ 1000) (hl : i.natAbs.log2 < 1920) (T : OexC K C) (hf : PySem.W.findIn K (.ref C) f = some none) (ha : H a = some (exo a C none))
    {D : Ends} (q : ∀ dx, H dx = none → dx ≠ a → R D [some (.ref a), some (.int i)] (upd (upd H dx (exd dx [(f, .int i)])) a (exo a C (some dx)))) :
    tSeq (tDrop (tVeI K (tCons (tVar 0) (tCons (fun σ H Q => tJs [tC (V.str t1), tFmt (tVar 1), tC (V.str t2)] Str.empty σ H fun out H1 => Q (V.str out) H1) tNil)))) (tSeq (tOst K f (tVar 0) (tVar 1)) R) D [some (.ref a), some (.int i)] H := by
  have l0 : Str.empty.length = 0 := rfl
  have l1 := PyProof.Rows.int_text_len_1921 hl
  have z := sizeLine_eq
  refine ⟨.ref a, rfl, ?_⟩
  show tJs [tC (V.str t1), tFmt (tVar 1), tC (V.str t2)] Str.empty [some (.ref a), some (.int i)] H _
  refine ⟨t1, rfl, by rw [Str.length_append, l0, z]; omega, ?_⟩
  refine ⟨.int i, rfl, .inr ⟨i, rfl, hl, _, rfl, by rw [Str.length_append, Str.length_append, l0, z]; omega, ?_⟩⟩
  refine ⟨t2, rfl, by rw [Str.length_append, Str.length_append, Str.length_append, l0, z]; omega, ?_⟩
  refine ⟨a, C, _, rfl, ?_, T, ha, ?_⟩
  · show 1 ≤ 1000
    decide
  · refine ⟨.int i, rfl, .ref a, rfl, a, C, rfl, T, hf, .inl ⟨ha, fun dx n ne => q dx n ne⟩⟩
/-- an own class of errors with such an __init__ -/
structure ErrI (P : Program) (w : World) (K : PySem.W.Frag) (mg : Str → Option Value) (base : Heap) (ec : EC) (c : String) (f : Str) : Prop where
  g : mg (PySem.Str.ofString c) = some (.ref (ec c))
  t : OexC K (ec c)
  no : PySem.W.findIn K (.ref (ec c)) f = some none
  i : ∃ (fI : Addr) (fd : FuncData), PySem.W.findIn K (.ref (ec c)) "__init__" = some (some (.ref fI)) ∧ PySem.W.typeIn K (.ref fI) = some (.type "function") ∧ FnOk P w K mg base (L2.CX P w) 1 fI fd ["self", f] (spI K (ec c) f) ∧ Binds K fd ["self", f] []
theorem passF {X : Cx} : Passes (L2.CX X.prog X.w) X (fun _ _ _ => False) := fun _ _ _ _ _ _ _ h => by
  obtain ⟨_, _, _, _, _, _, _, _, _, _, _, _, z⟩ := h
  exact z.elim
theorem ds_raiseF {X : Cx} {ec : EC} {W : WX} {c : String} {f : Str} {e : Expr} {φ : EX} {p pos' pos : Pos} (hc : X.calm = true) (tk : Takes X W) (T : ErrI X.prog X.w X.K X.mg X.base ec c f) (hr : Room 2 X.A) (hg : Gl X (PySem.Str.ofString c)) (ha : DE X ec W e φ)
    (hdb : ((PySem.Str.ofString c) == ("__debug__" : Str)) = false := by decide +kernel) (he : starEach [e] X.env = (false, eval e X.env) :: starEach [] X.env := by rfl) (hpl : (backTo pos' (starEach [] X.env)).any (·.1) = false := by rfl) :
    DS X ec W (.Raise (some (.Call (.Name (PySem.Str.ofString c) p) [e] [] pos')) none pos) (sErrF c f φ) := by
  obtain ⟨fI, fd, i1, i2, i3, i4⟩ := T.i
  refine psImp (ps_raise hc tk (pmk_oex (ds := []) (dvs := []) T.t i1 i2 i3 hr i4 .nil passF hg T.g (pa1D ha he) hdb he hpl)) fun D σ H ⟨r, F, F0, B, S, q⟩ => ⟨r, F, F0, B, S, (Aft.so S q).imp fun d F1 H1 _ g k v rv => ⟨by show 1 ≤ 1000; decide, fun a haN => ?_⟩⟩
  cases d with
  | int i =>
    by_cases hl : i.natAbs.log2 < 1920
    · have hv : v = .int i := rv
      subst hv
      have k' : Aft X.K ec W F0 B F1 (if i.natAbs.log2 < 1920 then some (Out.er ⟨c, some (f, .int i)⟩ r) else none) D := k
      rw [if_pos hl] at k'
      refine ⟨a, i, rfl, hl, T.t, T.no, upd_same, fun dx hdx hne => ⟨rfl, dx, [(f, .int i)], upd_same, by rw [upd_ne (Ne.symm (Ne.symm hne)), upd_same], ?_, ?_⟩⟩
      · rw [upd_ne hne] at hdx; exact hdx
      · have hd1 : H1 dx = none := by rw [upd_ne hne] at hdx; exact hdx
        have e : upd (L2.del (upd (upd (upd H1 a (exo a (ec c) none)) dx (exd dx [(f, .int i)])) a (exo a (ec c) (some dx))) a) dx (.xd [(f, .int i)]) = upd H1 dx (.xd [(f, .int i)]) := by
          funext b
          by_cases hb : b = dx
          · rw [hb, upd_same, upd_same]
          · rw [upd_ne hb, upd_ne hb]
            by_cases hba : b = a
            · rw [hba, L2.del_same, haN]
            · rw [L2.del_ne hba, upd_ne hba, upd_ne hb, upd_ne hba]
        rw [e]
        have g2 : Gr F1 H1 F1 (upd H1 dx (.xd [(f, .int i)])) := Gr.own g.i hd1 _
        exact k' (some dx) σ F1 _ (Same.refl _) ((S.grow g).grow g2) ⟨dx, .int i, rfl, upd_same, rfl⟩
    · have k' : Aft X.K ec W F0 B F1 (if i.natAbs.log2 < 1920 then some (Out.er ⟨c, some (f, .int i)⟩ r) else none) D := k
      rw [if_neg hl] at k'
      exact False.elim k'
  | _ => exact False.elim k
/-- try: ..; except C as n: y = n.f -/
theorem ds_tryF {X : Cx} {ec : EC} {W : WX} {body : List Stmt} {c : String} {n y f : Str} {i j : Nat} {np pn' pa py ps pos' pos : Pos} {a : SX} {tab : List ((String × String) × Bool)} (hs : X.stack = X.env :: X.outer) (hf : X.env.frame = some X.env.locals) (hN : X.N.Nodup) (hi : X.N[i]? = some n) (hln : X.env.kindOf n = some .local)
    (hj : X.N[j]? = some y) (hyl : Loc X.env.scope y) (tk : Takes X W) (T : TabT X.K ec tab) (hc : Names X (PySem.Str.ofString c) (.ref (ec c))) (XF : XfC X.K (ec c)) (hno : PySem.W.findIn X.K (.ref (ec c)) f = some none)
    (hb : ∀ (W' : WX) (pn : List (Addr × Obj)) (xe : Value → Shared → Prop), Takes (X.tr pn xe) W' → PassesOwn (model X.prog X.w) X.A X.env xe → DSs (X.tr pn xe) ec W' body a)
    (hv : Vis X.env.scope n := by first | exact Or.inl rfl | exact Or.inr (Or.inl rfl) | exact Or.inr (Or.inr rfl)) (hd : (n == ("__debug__" : Str)) = false := by decide) (hcd : (n == ("__classdict__" : Str)) = false := by decide)
    (hba : attributeBase (.Name n pn') f X.env (eval (.Name n pn') X.env) = eval (.Name n pn') X.env := by rfl) (hsw : swapsWith (.Attribute (.Name n pn') f pa) (some (.Name y py)) ps.line X.env = pure false := by rfl)
    (hfn : X.fn y = true ∨ X.env.scope.names.lookup y = some .local := by first | exact .inl rfl | exact .inr rfl | assumption) :
    DS X ec W (.Try body [.ExceptHandler (some (.Name (PySem.Str.ofString c) np)) (some n) [.Assign [.Name y py] (.Attribute (.Name n pn') f pa) ps] pos'] [] [] pos) (sTryF tab a c i j f) :=
  psImp (ps_try_as hs hf hN hi hln hc tk (tb := fun W' => tS X.K ec W' a) hb (fun ad oe cls d pn hz hfl => pss_one (ps_set (X := X.suite ad ((ad, oe) :: pn)) hN hj hyl (pe_xf XF hno hz hfl (pe_var (X := X.suite ad ((ad, oe) :: pn)) hi hv hd hcd) hba) hsw hfn))) fun D σ H ⟨r, F, F0, B, S, q⟩ => by
    refine ⟨r, F, F0, B, S, ?_⟩
    have q' : Aft X.K ec W F0 B F (sTryF tab a c i j f r) D := q
    unfold sTryF at q'
    revert q'
    match a r with
    | none => exact fun z => z
    | some (.nx r1) => exact fun z => z
    | some (.bk r1) => exact fun z => z
    | some (.ct r1) => exact fun z => z
    | some (.ro i r1) => exact fun z => z
    | some (.rt d) => exact fun z => z
    | some (.er e r1) =>
      intro z dx σ' F' H' sf S' he
      dsimp only at z
      cases hl : tab.lookup (e.cls, c) with
      | none => rw [hl] at z; exact False.elim z
      | some k =>
        rw [hl] at z
        refine ⟨k, T _ _ _ hl, fun hk ad _ => ?_, fun hk => ?_⟩
        · subst hk
          dsimp only at z
          unfold ErrOk at he
          cases hfl : e.fld with
          | none => rw [hfl] at z; exact False.elim z
          | some gd =>
            obtain ⟨g, d⟩ := gd
            rw [hfl] at z he
            dsimp only at z he
            split at z
            · rename_i hcond
              obtain ⟨rfl, hcls, hlt⟩ := hcond
              obtain ⟨dd, v, rfl, h1, h2⟩ := he
              have hlen : i < σ'.length := by rw [← S'.len]; exact hlt
              refine ⟨.ref ad, List.getElem?_set_self hlen, rfl, by rw [hcls], dd, _, v, rfl, h1, ?_, ?_⟩
              · simp [List.lookup]
              · exact z _ F' H' sf (((S'.unset (i := i) (y0 := some (.ref ad))).set (i := j) h2).unset (i := i) (y0 := none))
            · exact False.elim z
        · subst hk
          exact z dx σ' F' H' sf S' he
/-- what must be written of the class, as a truth -/
def oexF (K : PySem.W.Frag) (C : Addr) : Bool := (match K.lookup C with
  | some ⟨.type "type", _, .cls cd, sl⟩ => (match cd.mro, sl.toList with
    | .ref C' :: bm, [_, _, _, _, some (.builtin n), _] => C' == C && n == "ValueError.__new__" && !cd.hasDel && cd.hasDict && PySem.HandSPX.refsVE bm
    | _, _ => false)
  | _ => false) && (decide (PySem.W.findIn K (.ref C) "__setattr__" = some (some (.builtin "object.__setattr__"))) && (decide (PySem.W.subIn K (.ref C) (.type "BaseException") = some true) && (decide (PySem.W.typeIn K (.ref C) = some (.type "type")) && PySem.W.keepIn K (.ref C))))
theorem oexF_ok {K : PySem.W.Frag} {C : Addr} (h : oexF K C = true) : OexC K C := by
  unfold oexF at h
  rw [Bool.and_eq_true, Bool.and_eq_true, Bool.and_eq_true, Bool.and_eq_true, decide_eq_true_eq, decide_eq_true_eq, decide_eq_true_eq] at h
  obtain ⟨q, h1, h2, h3, h4⟩ := h
  refine ⟨?_, h1, h2, h3, h4⟩
  split at q
  · rename_i dd cd sl ho
    split at q
    · rename_i C' bm k0 k1 k2 k3 n k5 hm hs
      simp only [Bool.and_eq_true, beq_iff_eq, Bool.not_eq_true'] at q
      obtain ⟨⟨⟨⟨rfl, rfl⟩, hdel⟩, hdict⟩, hv⟩ := q
      obtain ⟨nm, bs, mro, ns, qn, hd, sn, sub, ab, col, del⟩ := cd
      dsimp only at hm hdel hdict
      subst hm hdel hdict
      have hsl : sl = #[k0, k1, k2, k3, some (.builtin "ValueError.__new__"), k5] := by
        obtain ⟨l⟩ := sl
        simp only at hs
        rw [hs]
      subst hsl
      exact ⟨nm, qn, ns, bs, bm, sn, sub, ab, col, dd, k0, k1, k2, k3, k5, ho, hv⟩
    · cases q
  · cases q
end DL
/-! A list made of another: i = list(j), and i != j while both stay. -/
namespace DL
open PySem PySem.Spec PyProof.Rows L2

theorem Rep.okV {K : PySem.W.Frag} {F : Hp} : ∀ {d : D} {v : V}, Rep K F d v → okV v
  | .none, _, h => by have h : _ = V.non := h; rw [h]; trivial
  | .bool b, _, h => by have h : _ = V.bl b := h; rw [h]; trivial
  | .int i, _, h => by have h : _ = V.int i := h; rw [h]; trivial
  | .str x, _, h => by have h : _ = V.str x := h; rw [h]; trivial
  | .list ds, _, ⟨a, vs, q, _⟩ => by rw [q]; trivial
  | .tuple ds, _, ⟨a, vs, q, _⟩ => by rw [q]; trivial
  | .dict _, _, ⟨a, q, _⟩ => by rw [q]; trivial
theorem RepL.okV {K : PySem.W.Frag} {F : Hp} : ∀ {ds : List D} {vs : List V}, RepL K F ds vs → ∀ v ∈ vs, DL.okV v
  | [], vs, h, v, hv => by
    have h : vs = [] := h
    rw [h] at hv
    cases hv
  | d :: ds, _, ⟨u, r, q, h1, h2⟩, v, hv => by
    rw [q] at hv
    rcases List.mem_cons.mp hv with rfl | hv
    · exact h1.okV
    · exact RepL.okV h2 v hv
theorem eq_val {A : Around} {s : Shared} {x : V} {u v : Value} (h1 : RelV x u) (h2 : RelV x v) (ok : okV x) : SeqAt.EqAt A s u v true := by
  cases x with
  | non => cases h1; cases h2; exact .same _
  | bl b => cases h1; cases h2; exact .same _
  | int i =>
    obtain ⟨t, rfl⟩ := h1
    obtain ⟨t', rfl⟩ := h2
    have := SeqAt.EqAt.int_int (A := A) (s := s) i t i t'
    rw [beq_self_eq_true] at this
    exact this
  | str x =>
    obtain ⟨t, rfl⟩ := h1
    obtain ⟨t', rfl⟩ := h2
    have := SeqAt.EqAt.str_str (A := A) (s := s) x t x t'
    rw [beq_self_eq_true] at this
    exact this
  | ref a => cases h1; cases h2; exact .same _
  | byt b => exact ok.elim
  | flt b => exact ok.elim
  | ty b => exact ok.elim
theorem vals_atq {us : List V} {ws : List Value} (h : Vals us ws) : ∀ (j : Nat) (hj : j < ws.length), ∃ x, us[j]? = some x ∧ RelV x ws[j] := by
  induction h with
  | nil => intro j hj; exact absurd hj (Nat.not_lt_zero j)
  | cons h1 h2 ih =>
    intro j hj
    cases j with
    | zero => exact ⟨_, rfl, h1⟩
    | succ j =>
      obtain ⟨x, e, r⟩ := ih j (by simpa using hj)
      exact ⟨x, by simpa using e, by simpa using r⟩
/-- two lists with the same entries -/
def rNeSame (K : PySem.W.Frag) : R2 := fun x y H Q => ∃ a b us, x = .ref a ∧ y = .ref b ∧ SqL K H a us ∧ SqL K H b us ∧ (∀ u ∈ us, okV u) ∧ Q (.bl false) H
theorem op_neSame {X : Cx} (hu : X.A.units + 65 < cLine) : OpR X (compareOp .NotEq) (rNeSame X.K) := by
  intro pins s σ H x y v u Q I rx ry h
  obtain ⟨a, b, xs, rfl, rfl, ha, hb, ok, q⟩ := h
  cases rx
  cases ry
  obtain ⟨us, r1, p1, _⟩ := I.list ha
  obtain ⟨ws, r2, p2, _⟩ := I.list hb
  have l1 := r1.length
  have l2 := r2.length
  have t : (!(List.range us.toArray.size).all fun _ => true) = false := by simp
  refine SeqAt.RcNeAt.lists (A := X.A) (e := fun _ => true) p1.isList p2.isList (by rw [List.size_toArray, List.size_toArray, ← l1, ← l2]) (by omega) (fun j h1 h2 => ?_) _ _ _ _ ?_
  · rw [List.size_toArray] at h1 h2
    obtain ⟨x1, e1, q1⟩ := vals_atq r1 j h1
    obtain ⟨x2, e2, q2⟩ := vals_atq r2 j h2
    rw [e1] at e2
    cases e2
    exact eq_val (by simpa using q1) (by simpa using q2) (ok _ (List.mem_of_getElem? e1))
  · rw [t]
    exact ⟨.bl false, H, I, rfl, q⟩
section
variable {X : Cx} {ec : EC} {W : WX}
theorem ne_same {i j : Nat} {σ : L2.St} {H : Hp} {P : Bool → Hp → Hp → Prop} {r : Env} {F F0 B : Hp} (S : SR X.K F0 B r σ H F) (h : Thn X.K ec W (bCopyNe i j r) σ F H P) {Q : VK} (k : P false F H → Q (.bl false) H) : tOp (rNeSame X.K) (tVar i) (tVar j) σ H Q := by
  unfold bCopyNe at h
  split at h
  · rename_i xs ys e1 e2
    obtain ⟨us, hu, T⟩ := S.tag
    obtain ⟨a, a1, a2⟩ := T i xs e1
    obtain ⟨b, b1, b2⟩ := T j ys e2
    exact ⟨_, a1, _, b1, a, b, us, rfl, rfl, S.sub.seq a2, S.sub.seq b2, hu, k (Thn.ok S.sub (a := false) h)⟩
  · exact False.elim h
/-- i != j -/
theorem db_copyNe {i j : Nat} {x y : Str} {p1 p2 pos : Pos} (hu : X.A.units + 65 < cLine) (hx : PE X (.Name x p1) (tVar i)) (hy : PE X (.Name y p2) (tVar j)) (hm : behindInMarks .NotEq (.Name y p2) = false) : DB X ec W (.Compare (.Name x p1) [.NotEq] [.Name y p2] pos) (bCopyNe i j) :=
  peImp (pe_cmpR (op_neSame hu) hx hy hm) fun σ H Q ⟨r, F, F0, B, S, q⟩ => by
    refine ne_same S (Thn.bind (f := fun b => ok (PyData.bool b)) q) fun h => ?_
    exact Thn.ok S.sub (a := PyData.bool false) h _ rfl
theorem dt_copyNe {i j : Nat} {x y : Str} {p1 p2 pos : Pos} (hu : X.A.units + 65 < cLine) (hx : PE X (.Name x p1) (tVar i)) (hy : PE X (.Name y p2) (tVar j)) (hm : behindInMarks .NotEq (.Name y p2) = false) : DT X ec W (.Compare (.Name x p1) [.NotEq] [.Name y p2] pos) (bCopyNe i j) :=
  ptImp (pt_cmpR (op_neSame hu) hx hy hm) fun σ H Q ⟨r, F, F0, B, S, q⟩ => ne_same S q fun h => ⟨false, rfl, h⟩
end
theorem untag_at {r : Env} {i : Nat} {s : Slot} (h : (untag r)[i]? = some s) : ∃ t, r[i]? = some t ∧ s = (match t with | .tg xs => .d (.list xs) | s => s) := by
  unfold untag at h
  rw [List.getElem?_map, Option.map_eq_some_iff] at h
  obtain ⟨t, h1, h2⟩ := h
  exact ⟨t, h1, h2.symm⟩
theorem untag_no {r : Env} {i : Nat} {xs : List D} : (untag r)[i]? ≠ some (.tg xs) := by
  intro h
  obtain ⟨t, _, e⟩ := untag_at h
  cases t <;> cases e
theorem untag_own {r : Env} {i : Nat} {xs : List D} (h : (untag r)[i]? = some (.own xs)) : r[i]? = some (.own xs) := by
  obtain ⟨t, h1, e⟩ := untag_at h
  cases t <;> cases e
  exact h1
theorem SR.untag {K : PySem.W.Frag} {F0 B : Hp} {r : Env} {σ : L2.St} {H F : Hp} (S : SR K F0 B r σ H F) : SR K F0 B (DL.untag r) σ H F := by
  refine ⟨S.gr, by unfold DL.untag; rw [List.length_map]; exact S.len, fun i s h => ?_, fun i j s t y z a hij h1 h2 h3 h4 f1 f2 => by
    obtain ⟨s', g1, e1⟩ := untag_at h1
    obtain ⟨t', g2, e2⟩ := untag_at h2
    subst e1 e2
    exact S.sep i j s' t' y z a hij g1 g2 h3 h4 (by cases s' <;> exact f1) (by cases t' <;> exact f2), ⟨[], fun u hu => absurd hu List.not_mem_nil, fun i xs h => absurd h untag_no⟩⟩
  obtain ⟨t, h1, e⟩ := untag_at h
  obtain ⟨y, h2, h3⟩ := S.ok i t h1
  refine ⟨y, h2, ?_⟩
  subst e
  cases t <;> exact h3
theorem SR.tag2 {K : PySem.W.Frag} {F0 B : Hp} {r : Env} {σ : L2.St} {H F : Hp} {i j : Nat} {xs : List D} {a l : Addr} {us : List V} (S : SR K F0 B r σ H F) (no : ∀ (k : Nat) (ys : List D), r[k]? ≠ some (Slot.tg ys)) (hi : σ[i]? = some (some (.ref l))) (hj : σ[j]? = some (some (.ref a)))
    (sl : SqL K F l us) (sa : SqL K F a us) (rl : RepL K F xs us) : SR K F0 B ((r.set j (.tg xs)).set i (.tg xs)) σ H F := by
  have cs : ∀ {k : Nat} {s : Slot}, ((r.set j (.tg xs)).set i (.tg xs))[k]? = some s → (s = .tg xs ∧ (k = i ∨ k = j)) ∨ r[k]? = some s := by
    intro k s h
    rcases set_get h with ⟨c, e⟩ | ⟨c, h⟩
    · exact .inl ⟨e, .inl c⟩
    · rcases set_get h with ⟨c, e⟩ | ⟨c, h⟩
      · exact .inl ⟨e, .inr c⟩
      · exact .inr h
  have one : ∀ k, k = i ∨ k = j → ∃ b, σ[k]? = some (some (.ref b)) ∧ SqL K F b us := by
    rintro k (rfl | rfl)
    · exact ⟨l, hi, sl⟩
    · exact ⟨a, hj, sa⟩
  refine ⟨S.gr, by rw [List.length_set, List.length_set]; exact S.len, fun k s h => ?_, fun k m ys zs y z b hkm h1 h2 h3 h4 f1 f2 => ?_, ⟨us, rl.okV, fun k ys h => ?_⟩⟩
  · rcases cs h with ⟨rfl, c⟩ | h
    · obtain ⟨b, b1, b2⟩ := one k c
      exact ⟨_, b1, _, rfl, b, us, rfl, b2, rl⟩
    · exact S.ok k s h
  · rcases cs h1 with ⟨rfl, _⟩ | h1
    · exact f1
    rcases cs h2 with ⟨rfl, _⟩ | h2
    · exact f2
    exact S.sep k m ys zs y z b hkm h1 h2 h3 h4 f1 f2
  · rcases cs h with ⟨_, c⟩ | h
    · exact one k c
    · exact absurd h (no k ys)
/-- i = list(j) -/
theorem ds_copy {X : Cx} {ec : EC} {W : WX} {i j : Nat} {x y z : Str} {pos spos pos' p p' : Pos} (hN : X.N.Nodup) (hi : X.N[i]? = some x) (hx : Loc X.env.scope x) (hz : z = "list") (hg : Gl X z) (hm : X.mg z = none) (hv : bootBuiltins z = some (.type "list"))
    (hy : PE X (.Name y p') (tVar j)) (hn : z ≠ "__name__" := by decide) (hdb : (z == ("__debug__" : Str)) = false := by decide) (he : starEach [Expr.Name y p'] X.env = (false, eval (.Name y p') X.env) :: starEach [] X.env := by rfl)
    (hs : swapsWith (.Call (.Name z p) [.Name y p'] [] pos) (some (.Name x pos')) spos.line X.env = pure false := by rfl)
    (hf : X.fn x = true ∨ X.env.scope.names.lookup x = some .local := by first | exact .inl rfl | exact .inr rfl | assumption) :
    DS X ec W (.Assign [.Name x pos'] (.Call (.Name z p) [.Name y p'] [] pos) spos) (sCopy i j) :=
  psImp (ps_set hN hi hx (pe_callTy call_list_of hg hm hv (pa_cons hy pa_nil he) hn hdb he (by rfl)) hs hf) fun D σ H ⟨r, F, F0, B, S, q⟩ => by
    unfold sCopy at q
    split at q
    · rename_i xs e
      split at q
      · rename_i c
        have S1 := S.untag
        obtain ⟨y1, h1, v, rfl, h2⟩ := S1.ok j _ e
        obtain ⟨a, vs, rfl, h3, h4⟩ := id h2
        refine ⟨_, h1, a, vs, rfl, .inl (S1.sub.seq h3), fun l hl => ?_⟩
        have g := Gr.new S1.sub hl (.lst vs)
        have S2 := (S1.grow g).set (i := i) (x := .list xs) (v := .ref l) ⟨l, vs, rfl, .inl (.inl upd_same), h4.mono g.f⟩
        have no : ∀ (k : Nat) (ys : List PyData), ((untag r).set i (.d (.list xs)))[k]? ≠ some (Slot.tg ys) := by
          intro k ys h
          rcases set_get h with ⟨_, e⟩ | ⟨_, h⟩
          · cases e
          · exact untag_no h
        have li : i < σ.length := by rw [← S.len]; exact c.1
        have S3 := S2.tag2 (i := i) (j := j) (a := a) (l := l) (us := vs) no (List.getElem?_set_self li) (by rw [List.getElem?_set_ne c.2]; exact h1) (.inl (.inl upd_same)) (g.f.seq h3) (h4.mono g.f)
        have e3 : (((untag r).set i (.d (.list xs))).set j (.tg xs)).set i (.tg xs) = ((untag r).set j (.tg xs)).set i (.tg xs) := by
          rw [List.set_comm _ _ c.2, List.set_set]
        rw [e3] at S3
        exact (show ∀ σ' F' H', Same F F' → SR X.K F0 B (((untag r).set j (.tg xs)).set i (.tg xs)) σ' H' F' → D.nx σ' H' from q) _ _ _ g.f S3
      · exact False.elim q
    · exact False.elim q
end DL
/-! [e for .. in .. for .. in ..] -/
namespace DL
open PySem PySem.Spec PyProof.Rows L2
theorem walk_any {J : It} {n : Nat} {G : Hp → Prop} {Y : Nat → Hp → V → Hp → Prop} (w : Walk J n G Y) {H0 : Hp} {Qd : Hp → Prop} {body : V → Hp → (Hp → Prop) → Prop} (Pv : Nat → Hp → Prop) (h0 : Pv 0 H0) (hG : ∀ i H, i ≤ n → Pv i H → G H)
    (hb : ∀ i x H H', i < n → Pv i H → Y i H x H' → body x H' (Pv (i + 1))) (hq : ∀ H, Pv n H → Qd H) :
    ∃ W : Nat → Nat → Hp → Prop, (∃ m, W 0 m H0) ∧ ∀ i m H, W i m H → (J.stop i H ∧ Qd H) ∨ (J.go i H ∧ ∃ Nx : Hp → Prop, (∀ H', Nx H' → ∃ m', m' < m ∧ W (i + 1) m' H') ∧ ∀ x H', J.yld i H x H' → body x H' Nx) := by
  refine ⟨fun i m H => i ≤ n ∧ m = n - i ∧ Pv i H, ⟨n, Nat.zero_le _, rfl, h0⟩, fun i m H ⟨hi, hm, hp⟩ => ?_⟩
  by_cases c : i < n
  · refine .inr ⟨w.goes i H c (hG i H hi hp), Pv (i + 1), fun H' h => ⟨n - (i + 1), by omega, c, rfl, h⟩, fun x H' hy => hb i x H H' c hp (w.yields i H x H' c (hG i H hi hp) hy)⟩
  · have e : i = n := by omega
    subst e
    exact .inl ⟨w.stops H (hG i H hi hp), hq H hp⟩
/-- a store of targets, whatever is kept by it -/
theorem many_ok2 {K : PySem.W.Frag} {H F : Hp} {Φ : Env → L2.St → Prop} (cl : ∀ r σ i x v, Φ r σ → Rep K F x v → Φ (r.set i (.d x)) (σ.set i (some v))) : ∀ (is : List Nat) {xs : List D} {vs : List V} {r r1 : Env} {σ : L2.St} {Q : L2.St → Hp → Prop}, Φ r σ → RepL K F xs vs → putMany is xs r = some r1 →
    (∀ σ2, Φ r1 σ2 → (∀ ws : List Nat, (∀ i ∈ is, i ∈ ws) → L2.wipe σ2 ws = L2.wipe σ ws) → Q σ2 H) → gMany is vs σ H Q
  | [], [], vs, r, r1, σ, Q, S, h, hp, k => by
    have e : vs = [] := h
    have e2 : r = r1 := Option.some.inj hp
    subst e e2
    exact ⟨rfl, k σ S fun _ _ => rfl⟩
  | [], _ :: _, _, _, _, _, _, _, _, hp, _ => by cases hp
  | _ :: _, [], _, _, _, _, _, _, _, hp, _ => by cases hp
  | i :: is, x :: xs, vs, r, r1, σ, Q, S, ⟨v, vr, e, h1, h2⟩, hp, k => by
    subst e
    refine ⟨v, vr, rfl, ?_⟩
    show gMany is vr (σ.set i (some v)) H Q
    exact many_ok2 cl is (cl r σ i x v S h1) h2 hp fun σ2 S2 w => k σ2 S2 fun ws hw => by
      rw [w ws (fun j hj => hw j (List.mem_cons_of_mem _ hj)), wipe_set σ ws (hw i List.mem_cons_self)]
theorem put_ok2 {K : PySem.W.Frag} {H F : Hp} {Φ : Env → L2.St → Prop} (cl : ∀ r σ i x v, Φ r σ → Rep K F x v → Φ (r.set i (.d x)) (σ.set i (some v))) (hs : Same F H) {g : Tg} {x : D} {v : V} {r r1 : Env} {σ : L2.St} {Q : L2.St → Hp → Prop} (S : Φ r σ) (h : Rep K F x v) (hp : g.put x r = some r1)
    (k : ∀ σ2, Φ r1 σ2 → (∀ ws : List Nat, (∀ i ∈ g.slots, i ∈ ws) → L2.wipe σ2 ws = L2.wipe σ ws) → Q σ2 H) : tgT K g v σ H Q := by
  cases g with
  | one i =>
    have e : r.set i (.d x) = r1 := Option.some.inj hp
    subst e
    exact k _ (cl r σ i x v S h) fun ws hw => wipe_set σ ws (hw i List.mem_cons_self)
  | many is =>
    cases x with
    | tuple xs =>
      obtain ⟨a, vs, rfl, h1, h2⟩ := h
      have hp' : putMany is xs r = some r1 := hp
      exact ⟨a, vs, rfl, tupT hs h1, by rw [h2.length, putMany_len is hp'], many_ok2 cl is S h2 hp' fun σ2 S2 w => k σ2 S2 w⟩
    | _ => cases hp
theorem Gr.del2 {F H F4 H4 : Hp} {a : Addr} {o : HO} (g : Gr F H F4 H4) (h : H a = some o) (hf : F a = none) (ho : ∀ vs, o ≠ .tup vs := by exact fun _ z => nomatch z) : Gr F (DL.del H a) F4 (DL.del H4 a) := by
  have f4 : F4 a = none := g.nu h ho hf
  refine ⟨g.f, fun b x q => ?_, fun b x q => ?_, fun b hb q t => ?_⟩
  · by_cases c : b = a
    · subst c; rw [del_self] at q; cases q
    · rw [del_ne c] at q ⊢; exact g.h b x q
  · rw [del_ne (ne_of_none q f4)]
    exact g.i b x q
  · by_cases c : b = a
    · subst c; rw [del_self] at hb; exact absurd rfl hb
    · rw [del_ne c] at hb; exact g.n b hb q fun vs z => t vs (by rw [del_ne c]; exact z)
theorem ok_inj {α : Type} {a b : α} (h : (ok a : R α) = ok b) : a = b := by
  unfold ok at h
  simpa using h
theorem drop_eq {α : Type} {xs : List α} {i : Nat} (hi : i < xs.length) : ∃ d, xs[i]? = some d ∧ xs.drop i = d :: xs.drop (i + 1) := ⟨xs[i], List.getElem?_eq_getElem hi, List.drop_eq_getElem_cons hi⟩
theorem lc2_use {K : PySem.W.Frag} {ec : EC} {W : WX} {ι ι1 : EL} {g g1 : Tg} {β1 : EB} {φ : EX} {vs vs1 : List Nat} (hvs : vs = g.slots ++ g1.slots) (hvs1 : vs1 = g1.slots) {σ : L2.St} {H : Hp} {Q : VK} (h : tL K ec W (lComp2 ι g ι1 g1 β1 φ) σ H Q) :
    tLc2 (tIX K ec W ι) (tgT K g) (tT K ec W0 bYes) (tI K ec W0 ι1) (tgT K g1) (tT K ec W0 β1) (tD K ec W0 φ) vs vs1 σ H Q := by
  subst hvs hvs1
  obtain ⟨r, F, F0, B, S, q⟩ := h
  refine ⟨r, F, F0, B, S, (Thn.bind q).imp fun xs F1 H1 _ gx1 h1 J hJ D hD => ?_⟩
  match ec1 : noEr (compL2 g ι1 g1 β1 φ (unSlots (g.slots ++ g1.slots) r) xs) with
  | none => rw [ec1] at h1; exact False.elim h1
  | some (.error _) =>
    exfalso
    unfold noEr at ec1
    split at ec1
    · cases ec1
    · cases ec1
  | some (.ok ys) =>
    rw [ec1] at h1
    have h1 : Thn K ec W (if ys.length ≤ lim then ok ys else none) σ F1 H1 _ := h1
    by_cases hlim : ys.length ≤ lim
    · rw [if_pos hlim] at h1
      have hc : compL2 g ι1 g1 β1 φ (unSlots (g.slots ++ g1.slots) r) xs = ok ys := noEr_ok ec1
      have S1 := SR.wipe (g.slots ++ g1.slots) (S.grow gx1)
      obtain ⟨G, Y, w, hG, hY⟩ := hJ
      refine walk_any w (fun i Hc => ∃ done rest us F2 Hm, i ≤ xs.length ∧ compL2 g ι1 g1 β1 φ (unSlots (g.slots ++ g1.slots) r) (xs.drop i) = ok rest ∧ done ++ rest = ys ∧ Hc = upd Hm D (.lst us) ∧ Hm D = none ∧ RepL K F2 done us ∧ Gr F1 H1 F2 Hm)
        ⟨[], ys, [], F1, H1, Nat.zero_le _, hc, rfl, rfl, hD, rfl, Gr.refl gx1.i⟩ ?_ ?_ ?_
      · rintro i Hc hi ⟨done, rest, us, F2, Hm, _, _, _, rfl, hm, _, g2⟩
        exact hG _ (g2.h.trans (Gr.own g2.i hm _).h)
      · rintro i x Hc H' hi ⟨done, rest, us, F2, Hm, _, er, ed, rfl, hm, hu, g2⟩ y
        have go := Gr.own g2.i hm (.lst us)
        obtain ⟨d, hd, hdrop⟩ := drop_eq hi
        obtain ⟨F3, g3, r3⟩ := hY i d _ x H' F2 hd (g2.h.trans go.h) g2.f go.i y
        have f2D : F2 D = none := g2.i.free hm
        have S3 := (S1.grow g2).grow (go.trans g3)
        have g3b : Gr F2 Hm F3 (DL.del H' D) := (g3.del hm f2D)
        have S3b := (S1.grow g2).grow g3b
        have f3D : F3 D = none := g3.nu upd_same (fun _ z => nomatch z) f2D
        have hD3 : H' D = some (.lst us) := g3.h _ _ upd_same
        rw [hdrop] at er
        unfold compL2 at er
        split at er
        · cases er
        · rename_i r1 hput
          obtain ⟨ys1, ey, er1⟩ := rb_eq_ok er
          obtain ⟨zs, ez, er2⟩ := rb_eq_ok er1
          obtain ⟨ws, ew, er3⟩ := rb_eq_ok er2
          have er4 := ok_inj er3
          refine put_ok2 (Φ := fun r σ => SR K F0 B r σ H' F3 ∧ SR K F0 B r σ (DL.del H' D) F3) (fun r σ i x v h hr => ⟨h.1.set hr, h.2.set hr⟩) S3.sub ⟨S3, S3b⟩ r3 hput fun σ2 S4 hw => ⟨by rw [hw _ (fun i hi => List.mem_append_left _ hi), wipe_wipe], ⟨r1, F3, F0, B, S4.1, fun F' H'' g' => ?_⟩⟩
          refine iteT ⟨r1, F', F0, B, S4.1.grow g', Thn.ok0 ey fun F4 H4 g4 J1 hJ1 => ?_⟩
          have g34 := g'.trans g4
          have hD4 : H4 D = some (.lst us) := g34.h _ _ hD3
          have f4D : F4 D = none := g34.nu hD3 (fun _ z => nomatch z) f3D
          have g4b : Gr F3 (DL.del H' D) F4 (DL.del H4 D) := g34.del2 hD3 f3D
          have S5 := SR.wipe g1.slots (S4.2.grow g4b)
          obtain ⟨G1, Y1, w1, hG1, hY1⟩ := hJ1
          refine walk_any w1 (fun j Hc => ∃ done1 rest1 us1 F5 Hm5, j ≤ ys1.length ∧ compL g1 β1 φ (unSlots g1.slots r1) (ys1.drop j) = ok rest1 ∧ done1 ++ rest1 = zs ∧ Hc = upd Hm5 D (.lst us1) ∧ Hm5 D = none ∧ RepL K F5 (done ++ done1) us1 ∧ Gr F4 (DL.del H4 D) F5 Hm5)
            ⟨[], zs, us, F4, DL.del H4 D, Nat.zero_le _, ez, rfl, (upd_del hD4).symm, del_self, by rw [List.append_nil]; exact (hu.mono g3.f).mono g34.f, Gr.refl g4b.i⟩ ?_ ?_ ?_
          · rintro j Hc hj ⟨done1, rest1, us1, F5, Hm5, _, _, _, rfl, hm5, _, g5⟩
            exact hG1 _ (g5.f.trans (g5.i.trans (Gr.own g5.i hm5 _).h))
          · rintro j x1 Hc H6 hj ⟨done1, rest1, us1, F5, Hm5, _, e1, ed1, rfl, hm5, hu1, g5⟩ y1
            have go5 := Gr.own g5.i hm5 (.lst us1)
            obtain ⟨d1, hd1, hdrop1⟩ := drop_eq hj
            obtain ⟨F6, g6, r6⟩ := hY1 j d1 _ x1 H6 F5 hd1 (g5.f.trans go5.i) g5.f go5.i y1
            have f5D : F5 D = none := g5.i.free hm5
            have S6 := (S5.grow g5).grow (go5.trans g6)
            rw [hdrop1] at e1
            unfold compL at e1
            split at e1
            · cases e1
            · rename_i r2 hput1
              obtain ⟨k, ek, e2⟩ := rb_eq_ok e1
              refine put_ok S6 r6 hput1 fun σ3 S7 hw1 => ⟨by rw [hw1, wipe_wipe], ⟨r2, F6, F0, B, S7, Thn.ok0 ek fun F7 H7 g7 => ?_⟩⟩
              cases k with
              | true =>
                rw [if_pos rfl] at e2
                obtain ⟨z, ezz, e3⟩ := rb_eq_ok e2
                obtain ⟨rest', e4, e5⟩ := rb_eq_ok e3
                have e6 : rest1 = z :: rest' := (ok_inj e5).symm
                refine iteT ⟨r2, F7, F0, B, S7.grow g7, Thn.ok0 ezz fun F8 H8 g8 v rv => ?_⟩
                have g9 : Gr F5 (upd Hm5 D (.lst us1)) F8 H8 := (g6.trans g7).trans g8
                have hD8 : H8 D = some (.lst us1) := g9.h _ _ upd_same
                refine ⟨us1, hD8, ?_, done1 ++ [z], rest', us1 ++ [v], F8, DL.del H8 D, hj, e4, by rw [← ed1, e6]; simp, ?_, del_self, ?_, g5.trans (g9.del hm5 f5D)⟩
                · rw [hu1.length]
                  have : (done ++ done1).length < ys.length := by rw [← ed, ← er4, ← ed1, e6]; simp only [List.length_append, List.length_cons]; omega
                  exact Nat.lt_of_lt_of_le this (Nat.le_trans hlim (by rw [sizeLine_eq]; exact Nat.le_refl _))
                · funext b
                  unfold upd DL.del
                  by_cases c : b = D
                  · rw [if_pos c, if_pos c]
                  · rw [if_neg c, if_neg c, if_neg c]
                · rw [← List.append_assoc]
                  exact (hu1.mono g9.f).append ⟨v, [], rfl, rv, rfl⟩
              | false =>
                rw [if_neg (by simp)] at e2
                have g9 : Gr F5 (upd Hm5 D (.lst us1)) F7 H7 := g6.trans g7
                have hD8 : H7 D = some (.lst us1) := g9.h _ _ upd_same
                exact iteF ⟨done1, rest1, us1, F7, DL.del H7 D, hj, e2, ed1, (upd_del hD8).symm, del_self, hu1.mono g9.f, g5.trans (g9.del hm5 f5D)⟩
          · rintro Hc ⟨done1, rest1, us1, F5, Hm5, _, e1, ed1, rfl, hm5, hu1, g5⟩
            rw [List.drop_length] at e1
            have e6 : rest1 = [] := (ok_inj e1).symm
            rw [e6, List.append_nil] at ed1
            subst ed1
            exact ⟨done ++ done1, ws, us1, F5, Hm5, hi, ew, by rw [← ed, ← er4, List.append_assoc], rfl, hm5, hu1, g2.trans (g3b.trans (g4b.trans g5))⟩
      · rintro Hc ⟨done, rest, us, F2, Hm, _, er, ed, rfl, hm, hu, g2⟩
        rw [List.drop_length] at er
        have e5 : rest = [] := (ok_inj er).symm
        rw [e5, List.append_nil] at ed
        subst ed
        exact h1 F2 Hm g2 D us hm hu
    · rw [if_neg hlim] at h1
      exact False.elim h1
section
variable {X : Cx} {ec : EC} {W : WX} {elt tg iter tg1 iter1 : Expr} {ifs1 : List Expr} {scope : Scope} {own : List (Str × Nat)} {pos : Pos} {ι ι1 : EL} {g g1 : Tg} {β1 : EB} {φ : EX}
theorem dl_comp2 (hc : X.calm = true) (hN : X.N.Nodup) (hi : DIX X ec W tg iter ι) (ok : BlkOk X.N X.env.scope scope own) (hv : own.map (·.2) = g.slots ++ g1.slots)
    (hg : ∀ (s : Shared) (H : Hp) (C : Addr) (cl : List (Str × Addr)) (fp : List Addr), PG (X.blk s H scope (compEnvC scope cl C X.env) fp) tg (tgT X.K g))
    (hi1 : ∀ (s : Shared) (H : Hp) (C : Addr) (cl : List (Str × Addr)) (fp : List Addr), PI (X.blk s H scope (compEnvC scope cl C X.env) fp) tg1 iter1 (tI X.K ec W0 ι1))
    (hg1 : ∀ (s : Shared) (H : Hp) (C : Addr) (cl : List (Str × Addr)) (fp : List Addr), PG (X.blk s H scope (compEnvC scope cl C X.env) fp) tg1 (tgT X.K g1))
    (ht1 : ∀ (s : Shared) (H : Hp) (C : Addr) (cl : List (Str × Addr)) (fp : List Addr), PTs (X.blk s H scope (compEnvC scope cl C X.env) fp) ifs1 (tT X.K ec W0 β1))
    (he : ∀ (s : Shared) (H : Hp) (C : Addr) (cl : List (Str × Addr)) (fp : List Addr), DE (X.blk s H scope (compEnvC scope cl C X.env) fp) ec W0 elt φ) (hs : ∀ x, foldedSetIterable iter X.env x = pure x := by intro _; rfl) (hs1 : ∀ env x, foldedSetIterable iter1 env x = pure x := by intro _ _; rfl) :
    DLi X ec W (.ListComp elt [⟨tg, iter, [], 0⟩, ⟨tg1, iter1, ifs1, 0⟩] scope pos) (lComp2 ι g ι1 g1 β1 φ) :=
  peImp (pe_lc2 hc hN hi ok (vs1 := g1.slots) (by rw [hv]; exact fun i hi => List.mem_append_right _ hi) hg (fun _ _ _ _ _ => dts_nil) hi1 hg1 ht1 he hs hs1) fun _ _ _ h => lc2_use hv rfl h
end
end DL
/-! A list so many times. -/
namespace DL
open PySem PySem.Spec PyProof.Rows L2
theorem fold_arr (its : List Value) : ∀ (k : Nat) (a : Array Value), List.foldl (fun x1 x2 => x1 ++ x2) a (List.replicate k its.toArray) = a ++ (List.replicate k its).flatten.toArray
  | 0, a => by simp
  | k + 1, a => by
    rw [List.replicate_succ, List.foldl_cons, fold_arr its k, List.replicate_succ, List.flatten_cons]
    simp
theorem rep_arr (its : List Value) (k : Nat) : List.foldl (fun x1 x2 => x1 ++ x2) #[] (List.replicate (if its.toArray.isEmpty = true then 0 else k) its.toArray) = (List.replicate k its).flatten.toArray := by
  rw [fold_arr]
  cases its with
  | nil => simp
  | cons x xs => simp
theorem vals_app {as bs : List V} {us vs : List Value} (h : Vals as us) (g : Vals bs vs) : Vals (as ++ bs) (us ++ vs) := h.append g
theorem vals_rep {as : List V} {us : List Value} (h : Vals as us) : ∀ k : Nat, Vals (List.replicate k as).flatten (List.replicate k us).flatten
  | 0 => by simpa using (Paired.nil : Vals [] [])
  | k + 1 => by
    rw [List.replicate_succ, List.flatten_cons, List.replicate_succ, List.flatten_cons]
    exact h.append (vals_rep h k)
theorem rep_size {α : Type} (xs : List α) : ∀ k : Nat, (List.replicate k xs).flatten.length = xs.length * k
  | 0 => by simp
  | k + 1 => by rw [List.replicate_succ, List.flatten_cons, List.length_append, rep_size xs k, Nat.mul_succ, Nat.add_comm]
def rRepL (K : PySem.W.Frag) : R2 := fun x y H Q => ∃ l k xs, x = .ref l ∧ y = .int k ∧ SqL K H l xs ∧ -2 ^ 63 ≤ k ∧ k < 2 ^ 63 ∧ xs.length * k.toNat ≤ sizeLine ∧ ∀ p, H p = none → Q (.ref p) (upd H p (.lst (List.replicate k.toNat xs).flatten))
theorem op_repL {X : Cx} : OpR X (binaryOp .Mult) (rRepL X.K) := by
  intro pins s σ H x y v u Q I rx ry h
  obtain ⟨l, k, xs, rfl, rfl, hA, k1, k2, hz, q⟩ := h
  cases rx
  obtain ⟨t, rfl⟩ := ry
  obtain ⟨its, r, ⟨o, n, ho, hc, hd, hs⟩, hl⟩ := I.list hA
  obtain ⟨oc, od, odt, osl⟩ := o
  simp only at hc hd hs
  subst hc hd hs
  have e1 := r.length
  have z : sizeLine = 16777216 := sizeLine_eq
  have hsz : its.toArray.size * k.toNat ≤ 16777216 := by rw [List.size_toArray, ← e1]; omega
  refine wpAny_binaryOp_repeat_ref (T := "list") (U := "int") (by decide) ⟨_, ho, rfl⟩ (fun s' => rfl) noFill_list_mul F.fills_int_mul F.slot_int_rmul repeat_list int_index ?_
  refine call_meets F.slot_int_rmul rfl F.entry_int_rmul (F.args_int_rmul_2 _ _) (lm_int_rmul_list_any k t l its.toArray n _ osl) ⟨ho, ?_⟩
  refine ⟨rfl, ⟨_, ho, rfl⟩, ?_⟩
  refine call_meets F.slot_list_mul ⟨_, ho, rfl⟩ F.entry_list_mul (F.args_list_mul_2 _ _) (lm_list_mul_any l its.toArray n _ osl k t ?_ ?_ ?_) ⟨ho, ?_⟩
  · simp only [Builtin.List.listFitsIndex, k1, k2, decide_true, Bool.and_self, Bool.not_true]
    decide
  · have : (2 ^ 63 - 1) / 8 = 1152921504606846975 := by decide
    omega
  · have h : ¬ its.toArray.size * k.toNat > sizeLine := by omega
    simp only [Builtin.List.listTooLong, h, decide_false]
    decide
  · rw [rep_arr]
    exact ⟨.ref _, _, I.lnew (t' := s.toks) (vals_rep r k.toNat) (by rw [rep_size]; exact hz), rfl, q _ I.fresh⟩
theorem o_rep {K : PySem.W.Frag} : Op2L K lRep (rRepL K) := by
  intro x y zs F H v u Q hf e rx ry k
  unfold lRep at hf
  split at hf
  · rename_i xs i
    split at hf
    · rename_i hl
      cases hf
      obtain ⟨a, vs, rfl, h1, h2⟩ := rx
      refine ⟨a, i, vs, rfl, ry, h1, hl.1, hl.2.1, ?_, fun p hp => k p _ hp ?_⟩
      · rw [h2.length]
        exact hl.2.2
      · generalize i.toNat = m
        induction m with
        | zero => exact (rfl : ([] : List V) = [])
        | succ m ih =>
          rw [List.replicate_succ, List.flatten_cons, List.replicate_succ, List.flatten_cons]
          exact h2.append ih
    · cases hf
  · cases hf
end DL
/-! Lists of own lists: made, read, changed. -/
namespace DL
open PySem PySem.Spec PyProof.Rows L2
/-- a comprehension within another one -/
def relab (scope sc : Scope) : Scope := { scope with names := scope.names.map fun (n, k) => if (k == .free && sc.kind == .function && sc.names.lookup n == some .cell) then (n, .cell) else (n, k) }
theorem blkOk_in {X : Cx} {s : Shared} {H : Hp} {C : Addr} {cl : List (Str × Addr)} {fp : List Addr} {sc0 scope sc : Scope} {own : List (Str × Nat)} {N : List Str} (hN : X.N = N) (hsc : X.env.scope = sc) (h : blkC N (relab sc0 sc) scope own = true) : BlkOk (X.blk s H sc0 (compEnvC sc0 cl C X.env) fp).N (X.blk s H sc0 (compEnvC sc0 cl C X.env) fp).env.scope scope own := by
  subst hN hsc
  have h2 : BlkOk X.N (relab sc0 X.env.scope) scope own := blkOk_by h
  exact h2
/-- a list of lists, all of them new -/
def tN (K : PySem.W.Frag) (ec : EC) (W : WX) (a : Env → R (List (List D))) : TE := fun σ H Q => ∃ r F F0 B, SR K F0 B r σ H F ∧ Thn K ec W (a r) σ F H fun xss F' H' => ∀ F2 H2 p vs, Gr F' H' F2 H2 → H' p = none → H2 p = some (.lst vs) → V.ref p ∉ vs → F2 p = none → NestOk K H' H2 F2 xss vs → Q (.ref p) H2
theorem nest_app {K : PySem.W.Frag} {B H F : Hp} {ys : List D} {us : List V} {p : Addr} (hp : H p = some (.lst us)) (fp : F p = none) (bp : B p = none) (h : RepL K F ys us) : ∀ {xss : List (List D)} {vs : List V}, V.ref p ∉ vs → NestOk K B H F xss vs → NestOk K B H F (xss ++ [ys]) (vs ++ [.ref p])
  | [], vs, _, q => by
    have q' : vs = [] := q
    rw [q']
    exact ⟨p, us, [], rfl, hp, fp, bp, h, List.not_mem_nil, rfl⟩
  | xs :: xss, vs, nm, ⟨b, ws, r, q, h1, h2, h3, h4, h5, h6⟩ => by
    rw [q] at nm
    refine ⟨b, ws, r ++ [.ref p], by rw [q]; rfl, h1, h2, h3, h4, fun m => ?_, nest_app hp fp bp h (fun m => nm (List.mem_cons_of_mem _ m)) h6⟩
    rcases List.mem_append.mp m with m | m
    · exact h5 m
    · have e : V.ref b = .ref p := by simpa using m
      exact nm (by rw [e]; exact List.mem_cons_self)
theorem nest_base {K : PySem.W.Frag} {B B' H F : Hp} (e : ∀ a, B a = none → B' a = none) : ∀ {xss : List (List D)} {vs : List V}, NestOk K B H F xss vs → NestOk K B' H F xss vs
  | [], _, h => h
  | xs :: xss, vs, ⟨b, us, r, q, h1, h2, h3, h4, h5, h6⟩ => ⟨b, us, r, q, h1, h2, e b h3, h4, h5, nest_base e h6⟩
theorem nest_grow {K : PySem.W.Frag} {B F H F' H' : Hp} (g : Gr F H F' H') {xss : List (List D)} {vs : List V} (h : NestOk K B H F xss vs) : NestOk K B H' F' xss vs :=
  nest_frame g.f (fun a m => by
    obtain ⟨us, h1, h2, _⟩ := nest_foot h m
    exact ⟨by rw [g.h _ _ h1, h1], g.nu h1 (fun _ z => nomatch z) h2⟩) h
theorem lcN_use {K : PySem.W.Frag} {ec : EC} {W : WX} {ι : EL} {g : Tg} {β : EB} {ε : EL} {vs : List Nat} (hvs : vs = g.slots) {σ : L2.St} {H : Hp} {Q : VK} (h : tN K ec W (lCompN ι g β ε) σ H Q) :
    tLc (tIX K ec W ι) (tgT K g) (tT K ec W0 β) (tL K ec W0 ε) vs σ H Q := by
  subst hvs
  obtain ⟨r, F, F0, B, S, q⟩ := h
  refine ⟨r, F, F0, B, S, (Thn.bind q).imp fun xs F1 H1 _ g1 h1 J hJ D hD => ?_⟩
  by_cases hlim : xs.length ≤ lim
  · rw [if_pos hlim] at h1
    match ec1 : noEr (compLN g β ε (unSlots g.slots r) xs) with
    | none => rw [ec1] at h1; exact False.elim h1
    | some (.error _) =>
      exfalso
      unfold noEr at ec1
      split at ec1
      · cases ec1
      · cases ec1
    | some (.ok ys) =>
      rw [ec1] at h1
      have hc : compLN g β ε (unSlots g.slots r) xs = ok ys := noEr_ok ec1
      have S1 := SR.wipe g.slots (S.grow g1)
      obtain ⟨G, Y, w, hG, hY⟩ := hJ
      refine lc_it w (fun i Hc => ∃ done rest us F2 Hm, i ≤ xs.length ∧ compLN g β ε (unSlots g.slots r) (xs.drop i) = ok rest ∧ done ++ rest = ys ∧ done.length ≤ i ∧ Hc = upd Hm D (.lst us) ∧ Hm D = none ∧ V.ref D ∉ us ∧ NestOk K H1 Hm F2 done us ∧ Gr F1 H1 F2 Hm)
        ⟨[], ys, [], F1, H1, Nat.zero_le _, hc, rfl, Nat.le_refl _, rfl, hD, List.not_mem_nil, rfl, Gr.refl g1.i⟩ ?_ ?_ ?_
      · rintro i Hc hi ⟨done, rest, us, F2, Hm, _, _, _, _, rfl, hm, _, _, g2⟩
        exact hG _ (g2.h.trans (Gr.own g2.i hm _).h)
      · rintro i x Hc H' hi ⟨done, rest, us, F2, Hm, _, er, ed, hl, rfl, hm, hu0, hu, g2⟩ y
        have go := Gr.own g2.i hm (.lst us)
        obtain ⟨d, hd⟩ : ∃ d, xs[i]? = some d := ⟨xs[i], List.getElem?_eq_getElem hi⟩
        have hdrop : xs.drop i = d :: xs.drop (i + 1) := by
          rw [List.drop_eq_getElem_cons hi]
          congr 1
          have := List.getElem?_eq_getElem hi
          rw [hd] at this
          exact (Option.some.inj this).symm
        obtain ⟨F3, g3, r3⟩ := hY i d _ x H' F2 hd (g2.h.trans go.h) g2.f go.i y
        have S3 := (S1.grow g2).grow (go.trans g3)
        rw [hdrop] at er
        unfold compLN at er
        split at er
        · cases er
        · rename_i r1 hput
          obtain ⟨k, ek, er1⟩ := rb_eq_ok er
          refine put_ok S3 r3 hput fun σ2 S4 hw => ⟨by rw [hw, wipe_wipe], ⟨r1, F3, F0, B, S4, Thn.ok0 ek fun F4 H4 g4 => ?_⟩⟩
          have f2D : F2 D = none := g2.i.free hm
          cases k with
          | true =>
            rw [if_pos rfl] at er1
            obtain ⟨z, ez, er2⟩ := rb_eq_ok er1
            obtain ⟨rest', er3, er4⟩ := rb_eq_ok er2
            have e5 : rest = z :: rest' := by
              have e6 : ok (z :: rest') = ok rest := er4
              unfold ok at e6
              simpa using e6.symm
            refine iteT ⟨r1, F4, F0, B, S4.grow g4, Thn.ok0 ez fun F5 H5 g5 p zs hp rv => ?_⟩
            have g6 : Gr F2 (upd Hm D (.lst us)) F5 H5 := (g3.trans g4).trans g5
            have hD5 : H5 D = some (.lst us) := g6.h _ _ upd_same
            have pD : p ≠ D := fun z => by rw [z, hD5] at hp; cases hp
            have g7 : Gr F2 Hm F5 (DL.del H5 D) := g6.del hm f2D
            have hp7 : DL.del H5 D p = none := by rw [del_ne pD]; exact hp
            have g8 : Gr F5 (DL.del H5 D) F5 (upd (DL.del H5 D) p (.lst zs)) := Gr.own g7.i hp7 (.lst zs)
            have hpm : Hm p = none := g7.h.free hp7
            have pu : V.ref p ∉ us := fun m => by
              obtain ⟨ws, h2, _⟩ := nest_foot hu m
              rw [hpm] at h2; cases h2
            refine ⟨us, by rw [upd_ne (Ne.symm pD)]; exact hD5, ?_, done ++ [z], rest', us ++ [.ref p], F5, upd (DL.del H5 D) p (.lst zs), hi, er3, by rw [← ed, e5]; simp, by rw [List.length_append]; simpa using hl, ?_, by rw [upd_ne (Ne.symm pD)]; exact del_self, fun m => ?_, ?_, (g2.trans g7).trans g8⟩
            · rw [nest_len hu]
              exact Nat.lt_of_lt_of_le (Nat.lt_of_le_of_lt hl hi) (lim_line hlim)
            · funext b
              unfold upd DL.del
              by_cases c : b = D
              · rw [if_pos c, if_pos c]
              · rw [if_neg c, if_neg c, if_neg c]
            · rcases List.mem_append.mp m with m | m
              · exact hu0 m
              · have e : V.ref D = .ref p := by simpa using m
                cases e
                exact pD rfl
            · exact nest_app upd_same (g7.i.free hp7) ((g2.trans g7).h.free hp7) rv pu (nest_grow (g7.trans g8) hu)
          | false =>
            rw [if_neg (by simp)] at er1
            have g6 : Gr F2 (upd Hm D (.lst us)) F4 H4 := g3.trans g4
            have hD5 : H4 D = some (.lst us) := g6.h _ _ upd_same
            exact iteF ⟨done, rest, us, F4, DL.del H4 D, hi, er1, ed, Nat.le_succ_of_le hl, (upd_del hD5).symm, del_self, hu0, nest_grow (g6.del hm f2D) hu, g2.trans (g6.del hm f2D)⟩
      · rintro Hc ⟨done, rest, us, F2, Hm, _, er, ed, hl, rfl, hm, hu0, hu, g2⟩
        rw [List.drop_length] at er
        have e5 : rest = [] := by
          have e6 : ok [] = ok rest := er
          unfold ok at e6
          simpa using e6.symm
        rw [e5, List.append_nil] at ed
        subst ed
        have go := Gr.own g2.i hm (.lst us)
        refine h1 F1 H1 (Gr.refl g1.i) F2 _ D us (g2.trans go) (g2.h.free hm) upd_same hu0 (g2.i.free hm) (nest_grow go hu)
  · rw [if_neg hlim] at h1
    exact False.elim h1
theorem nest_use {K : PySem.W.Frag} {ec : EC} {W : WX} {i : Nat} {a : Env → R (List (List D))} {D : Ends} {σ : L2.St} {H : Hp} (h : tS K ec W (sNest i a) D σ H) : tAsg (tN K ec W a) (gName i) D σ H := by
  obtain ⟨r, F, F0, B, S, q⟩ := h
  exact ⟨r, F, F0, B, S, (Aft.so S q).imp fun xss F1 H1 _ g k F2 H2 p vs g2 hp h2 hv f2 hn => k _ F2 _ g2.f ((S.grow g).setNest g2 hp h2 hv (fun a m => by
    obtain ⟨_, _, _, z⟩ := nest_foot hn m
    exact z) f2 (nest_base (fun a z => (S.grow g).gr.h.free z) hn))⟩
theorem SR.frz {K : PySem.W.Frag} {F0 B : Hp} {r : Env} {σ : L2.St} {H F : Hp} (S : SR K F0 B r σ H F) (i : Nat) : ∃ F', Same F F' ∧ SR K F0 B (DL.frz i r) σ H F' := by
  unfold DL.frz
  split
  · rename_i xs hx
    exact S.freeze hx
  · rename_i xss hx
    exact S.freezeN hx
  · exact ⟨F, Same.refl _, S⟩
theorem rep_scal {K : PySem.W.Frag} {F F' : Hp} {d : D} {v : V} (h : scal d = true) (q : Rep K F d v) : Rep K F' d v := by
  cases d <;> first | exact q | cases h
theorem de_frz {X : Cx} {ec : EC} {W : WX} {e : Expr} {φ : EX} (i : Nat) (h : DE X ec W e φ) : DE X ec W e (vFrz i φ) := peImp h fun σ H Q ⟨r, F, F0, B, S, q⟩ => by
  obtain ⟨F1, sf, S1⟩ := S.frz i
  refine ⟨frz i r, F1, F0, B, S1, ?_⟩
  have q' : Thn X.K ec W (rb (noEr (φ (frz i r))) fun x => if scal x = true then ok x else none) σ F H fun d F' H' => ∀ v, Rep X.K F' d v → Q v H' := q
  revert q'
  match φ (frz i r) with
  | none => exact fun z => z
  | some (.error _) => exact fun z => False.elim z
  | some (.ok d) =>
    intro z F' H' g v rv
    have z' : Thn X.K ec W (if scal d = true then ok d else none) σ F H fun d F' H' => ∀ v, Rep X.K F' d v → Q v H' := z
    by_cases c : scal d = true
    · rw [if_pos c] at z'
      exact z' F H' ⟨Same.refl _, g.h, (sf.trans g.f).trans g.i, fun _ _ q _ => q⟩ v (rep_scal c rv)
    · rw [if_neg c] at z'
      exact False.elim z'
section
variable {X : Cx} {ec : EC} {W : WX} {e : Expr} {pos : Pos} {φ ψ χ : EX} {ι ε : EL} {β : EB}
/-- x = [e for .. in ..], e a new list each time -/
theorem ds_nestC {i : Nat} {y : Str} {py : Pos} {elt tg iter : Expr} {ifs : List Expr} {scope : Scope} {own : List (Str × Nat)} {spos : Pos} {g : Tg} (hc : X.calm = true) (hN : X.N.Nodup) (hy : X.N[i]? = some y) (hyl : X.env.scope.names.lookup y = some .local)
    (hsw : swapsWith (.ListComp elt [⟨tg, iter, ifs, 0⟩] scope pos) (some (.Name y py)) spos.line X.env = pure true) (hi : DIX X ec W tg iter ι) (okB : BlkOk X.N X.env.scope scope own) (hv : own.map (·.2) = g.slots)
    (hg : ∀ (s : Shared) (H : Hp) (C : Addr) (cl : List (Str × Addr)) (fp : List Addr), PG (X.blk s H scope (compEnvC scope cl C X.env) fp) tg (tgT X.K g)) (ht : ∀ (s : Shared) (H : Hp) (C : Addr) (cl : List (Str × Addr)) (fp : List Addr), PTs (X.blk s H scope (compEnvC scope cl C X.env) fp) ifs (tT X.K ec W0 β))
    (he : ∀ (s : Shared) (H : Hp) (C : Addr) (cl : List (Str × Addr)) (fp : List Addr), DLi (X.blk s H scope (compEnvC scope cl C X.env) fp) ec W0 elt ε) (hs : ∀ x, foldedSetIterable iter X.env x = pure x := by intro _; rfl) :
    DS X ec W (.Assign [.Name y py] (.ListComp elt [⟨tg, iter, ifs, 0⟩] scope pos) spos) (sNest i (lCompN ι g β ε)) := psImp (ps_setLc hc hN hy hyl hsw hi okB hg ht he hs) fun D σ H h => by
  have h' := nest_use h
  exact lcN_use hv h'
theorem nestix_use {K : PySem.W.Frag} {i : Nat} {σ : L2.St} {H : Hp} {Q : VK} (h : tX K ec W (vNestIx i ψ) σ H Q) : tOp (fun x y H Q => rIxL K x y H Q ∨ rIxT K x y H Q) (tVar i) (tX K ec W ψ) σ H Q := by
  obtain ⟨r, F, F0, B, S, q⟩ := h
  unfold vNestIx at q
  split at q
  · rename_i xss hi
    obtain ⟨y, h1, a, vs, rfl, h3, h4, h5, h6, h7⟩ := S.ok i _ hi
    refine ⟨.ref a, h1, r, F, F0, B, S, (Thn.bind q).imp fun j F1 H1 ej g1 k u ru => ?_⟩
    split at k
    · rename_i m
      split at k
      · rename_i n hn
        obtain ⟨d, ed, k2⟩ := k.po
        obtain ⟨xs, ex, rfl⟩ := Option.map_eq_some_iff.mp ed
        have S1 := S.grow g1
        have h7' := nest_grow g1 h7
        obtain ⟨b, us, e1, e2, e3⟩ := nest_at h7' ex
        have u' : u = .int m := ru
        refine .inl ⟨a, vs, m, .ref b, rfl, u', .inl (.inl (g1.h _ _ h3)), ?_, k2 F1 H1 (Gr.refl g1.i) _ ⟨b, us, rfl, .inl (.inl e2), e3⟩⟩
        unfold L2.atI
        rw [nest_len h7]
        show (ixAt xss.length m).bind (fun q => vs[q]?) = _
        rw [hn]
        exact e1
      · exact False.elim k
    · exact False.elim k
  · exact False.elim q
theorem dx_nestix {i : Nat} {x : Str} {xp : Pos} {b : Expr} (hN : X.N[i]? = some x) (hv : Vis X.env.scope x) (hb : DX X ec W b ψ) (hs : PlainIx b := by exact fun _ _ => rfl) (hd : (x == ("__debug__" : Str)) = false := by decide) (hcd : (x == ("__classdict__" : Str)) = false := by decide) :
    DX X ec W (.Subscript (.Name x xp) b pos) (vNestIx i ψ) := peImp (pe_ix (ix_list.or ix_tup) (pe_var hN hv hd hcd) hb hs) fun _ _ _ h => nestix_use h
/-- x[k][m] = e -/
theorem ds_setix2 {i : Nat} {x : Str} {xp tp tp2 : Pos} {k m : Expr} (hN : X.N[i]? = some x) (hv : Vis X.env.scope x) (hk : DX X ec W k ψ) (hm : DX X ec W m χ) (ha : DE X ec W e φ)
    (h : ∀ {te to ti : TE}, PE X e te → PE X (.Subscript (.Name x xp) k tp) to → PE X m ti → PS X (.Assign [.Subscript (.Subscript (.Name x xp) k tp) m tp2] e pos) (tAsg te (gSub to ti rSetL))) (hs : PlainIx k := by exact fun _ _ => rfl) (hd : (x == ("__debug__" : Str)) = false := by decide) (hcd : (x == ("__classdict__" : Str)) = false := by decide) :
    DS X ec W (.Assign [.Subscript (.Subscript (.Name x xp) k tp) m tp2] e pos) (sSetIx2 i ψ χ φ) := psImp (h ha (pe_ix (ix_list.or ix_tup) (pe_var hN hv hd hcd) hk hs) hm) fun D σ H ⟨r, F, F0, B, S, q⟩ => by
  unfold sSetIx2 at q
  split at q
  · rename_i xss hi
    obtain ⟨y, h1, a, vs, rfl, h3, h4, h5, h6, h7⟩ := S.ok i _ hi
    refine ⟨r, F, F0, B, S, (Aft.so S q).imp fun d F1 H1 _ g1 k1 v rv => ⟨.ref a, h1, r, F1, F0, B, S.grow g1, (Aft.so (S.grow g1) k1).imp fun j F2 H2 ej g2 k2 u ru => ?_⟩⟩
    split at k2
    · rename_i j
      split at k2
      · rename_i n hn
        split at k2
        · rename_i xs ex
          have g12 := g1.trans g2
          have S2 := S.grow g12
          obtain ⟨b, us, e1, e2, e3⟩ := nest_at (nest_grow g12 h7) ex
          have u' : u = .int j := ru
          refine .inl ⟨a, vs, j, .ref b, rfl, u', .inl (.inl (g12.h _ _ h3)), ?_, r, F2, F0, B, S2, (Aft.so S2 k2).imp fun l F3 H3 el g3 k3 w rw' => ?_⟩
          · unfold L2.atI
            rw [nest_len h7]
            show (ixAt xss.length j).bind (fun q => vs[q]?) = _
            rw [hn]
            exact e1
          · split at k3
            · rename_i l
              split at k3
              · rename_i p hp
                have e3' := e3.mono g3.f
                have w' : w = .int l := rw'
                refine ⟨b, us, l, p, rfl, w', g3.h _ _ e2, by rw [e3'.length]; exact hp, ?_⟩
                exact k3 σ F3 _ (Same.refl _) ((S2.grow g3).writeN hi h1 (g3.h _ _ (g12.h _ _ h3)) e1 (RepL.set ((rv.mono g2.f).mono g3.f) p e3'))
              · exact False.elim k3
            · exact False.elim k3
        · exact False.elim k2
      · exact False.elim k2
    · exact False.elim k2
  · exact False.elim q
/-- x[k].append(e) -/
theorem ds_app2 {i : Nat} {x : Str} {xp tp apos cpos : Pos} {k : Expr} (hN : X.N[i]? = some x) (hv : Vis X.env.scope x) (hk : DX X ec W k ψ) (ha : DE X ec W e φ) (hpl : PlainIx k := by exact fun _ _ => rfl) (hd : (x == ("__debug__" : Str)) = false := by decide) (hcd : (x == ("__classdict__" : Str)) = false := by decide)
    (hs : swapsWith (.Call (.Attribute (.Subscript (.Name x xp) k tp) "append" apos) [e] [] cpos) none pos.line X.env = pure false := by rfl)
    (hbase : attributeBase (.Subscript (.Name x xp) k tp) "append" X.env (eval (.Subscript (.Name x xp) k tp) X.env) = eval (.Subscript (.Name x xp) k tp) X.env := by rfl)
    (hfew : ((backTo cpos (starEach [e] X.env)).all (fun x => !x.1) && (backToKw cpos (keywordEach [] X.env)).all (fun x => x.1.isSome)
      && decide ([e].length + ([] : List Keyword).length + (if ([] : List Keyword).isEmpty then 0 else 1) < 30)) = true := by rfl)
    (hline : (apos.endLine == cpos.line) = true := by rfl) (hst : starEach [e] X.env = (false, eval e X.env) :: starEach [] X.env := by rfl) (hplain : (backTo cpos (starEach [] X.env)).any (·.1) = false := by rfl) :
    DS X ec W (.Expr (.Call (.Attribute (.Subscript (.Name x xp) k tp) "append" apos) [e] [] cpos) pos) (sApp2 i ψ φ) :=
  psImp (ps_expr (pe_bm PySem.F.plainAttrs_list PySem.F.slot_list_append PySem.F.type_list_append mt_append (pe_ix (ix_list.or ix_tup) (pe_var hN hv hd hcd) hk hpl) (pa_cons ha pa_nil hst) hbase hfew hline hst hplain) hs) fun D σ H ⟨r, F, F0, B, S, q⟩ => by
    unfold sApp2 at q
    split at q
    · rename_i xss hi
      obtain ⟨y, h1, a, vs, rfl, h3, h4, h5, h6, h7⟩ := S.ok i _ hi
      refine ⟨.ref a, h1, r, F, F0, B, S, (Aft.so S q).imp fun j F2 H2 ej g2 k2 u ru => ?_⟩
      split at k2
      · rename_i j
        split at k2
        · rename_i n hn
          have S2 := S.grow g2
          have k2' : Thn X.K ec W (φ r) σ F2 H2 _ := Aft.so S2 k2
          have u' : u = .int j := ru
          by_cases hx : ∃ xs, xss[n]? = some xs
          · obtain ⟨xs, ex⟩ := hx
            rw [ex] at k2'
            obtain ⟨b, us, e1, e2, e3⟩ := nest_at (nest_grow g2 h7) ex
            refine .inl ⟨a, vs, j, .ref b, rfl, u', .inl (.inl (g2.h _ _ h3)), ?_, .inl ⟨rfl, _, .inl (.inl e2)⟩, r, F2, F0, B, S2, k2'.imp fun d F3 H3 ed g3 k3 v rv => ?_⟩
            · unfold L2.atI
              rw [nest_len h7]
              show (ixAt xss.length j).bind (fun q => vs[q]?) = _
              rw [hn]
              exact e1
            · have e3' := e3.mono g3.f
              by_cases hl : xs.length < lim
              · have k3' : Aft X.K ec W F0 B F3 (if xs.length < lim then some (.nx (r.set i (.nest (xss.set n (xs ++ [d]))))) else none) D := k3
                rw [if_pos hl] at k3'
                refine ⟨b, us, v, rfl, rfl, g3.h _ _ e2, by rw [e3'.length]; exact lim_lt hl, ?_⟩
                exact k3' σ F3 _ (Same.refl _) ((S2.grow g3).writeN hi h1 (g3.h _ _ (g2.h _ _ h3)) e1 (e3'.append ⟨v, [], rfl, rv, rfl⟩))
              · have k3' : Aft X.K ec W F0 B F3 (if xs.length < lim then some (.nx (r.set i (.nest (xss.set n (xs ++ [d]))))) else none) D := k3
                rw [if_neg hl] at k3'
                exact False.elim k3'
          · have l1 : n < xss.length := by
              have : ixAt xss.length j = some n := hn
              unfold ixAt at this
              split at this
              · split at this
                · cases this; omega
                · cases this
              · split at this
                · cases this; omega
                · cases this
            exact absurd ⟨_, List.getElem?_eq_getElem l1⟩ hx
        · exact False.elim k2
      · exact False.elim k2
    · exact False.elim q
end
end DL
/-! Dicts whose keys are tuples of ints: made, read, changed. -/
namespace DL
open PySem PySem.Spec PyProof.Rows L2
theorem inl_inj : ∀ {k m : List Int}, k.map (Sum.inl : Int → Key) = m.map Sum.inl → k = m
  | [], [], _ => rfl
  | [], _ :: _, h => by cases h
  | _ :: _, [], h => by cases h
  | i :: k, j :: m, h => by
    rw [List.map_cons, List.map_cons] at h
    injection h with h1 h2
    injection h1 with h1
    rw [h1, inl_inj h2]
abbrev kk (k : List Int) : List Key := k.map Sum.inl
theorem inl_iff {k m : List Int} : decide (kk k = kk m) = decide (k = m) := by
  by_cases c : k = m
  · subst c; rw [decide_eq_true rfl, decide_eq_true rfl]
  · rw [decide_eq_false c, decide_eq_false fun z => c (inl_inj z)]
theorem numsOf_eq : ∀ {xs : List D} {ns : List Int}, numsOf xs = some ns → xs = ns.map PyData.int
  | [], ns, h => by cases h; rfl
  | .int i :: xs, ns, h => by
    have h' : (numsOf xs).map (i :: ·) = some ns := h
    obtain ⟨ms, h1, rfl⟩ := Option.map_eq_some_iff.mp h'
    rw [numsOf_eq h1]
    rfl
  | .none :: _, _, h => by cases h
  | .bool _ :: _, _, h => by cases h
  | .str _ :: _, _, h => by cases h
  | .list _ :: _, _, h => by cases h
  | .tuple _ :: _, _, h => by cases h
  | .dict _ :: _, _, h => by cases h
theorem rep_ints {K : PySem.W.Frag} {F : Hp} : ∀ {ns : List Int} {vs : List V}, RepL K F (ns.map PyData.int) vs → vs = (kk ns).map kV
  | [], vs, h => h
  | i :: ns, vs, h => by
    obtain ⟨v, r, rfl, h1, h2⟩ := (show ∃ v r, vs = v :: r ∧ Rep K F (.int i) v ∧ RepL K F (ns.map PyData.int) r from h)
    have e : v = .int i := h1
    rw [e, rep_ints h2]
    rfl
/-- a key stands as a tuple -/
theorem rep_key {K : PySem.W.Frag} {F H : Hp} {x : D} {v : V} {k : List Int} (e : Same F H) (h : RepX K F H x v) (hk : keyOf x = some k) : ∃ b, v = .ref b ∧ H b = some (.tup ((kk k).map kV)) := by
  cases x with
  | tuple xs =>
    obtain ⟨a, vs, rfl, h1, h2⟩ := (show ∃ a vs, v = .ref a ∧ F a = some (.tup vs) ∧ RepL K F xs vs from h)
    have hk' : numsOf xs = some k := hk
    rw [numsOf_eq hk'] at h2
    rw [rep_ints h2] at h1
    exact ⟨a, rfl, e _ _ h1⟩
  | _ => cases hk
theorem repP_get {K : PySem.W.Frag} {F : Hp} {k : List Int} : ∀ {kvs : List (List Int × D)} {ks : List (List Key × V)}, RepP K F kvs ks → (match getP kvs k with
    | some d => ∃ v, valV ks (kk k) = some v ∧ Rep K F d v
    | none => valV ks (kk k) = none)
  | [], ks, h => by
    have h' : ks = [] := h
    subst h'
    rfl
  | (m, d) :: kvs, ks, ⟨v, r, q, h1, h2⟩ => by
    subst q
    by_cases c : m = k
    · subst c
      have e : getP ((m, d) :: kvs) m = some d := by unfold getP; rw [List.find?_cons]; simp
      rw [e]
      exact ⟨v, valV_pos rfl, h1⟩
    · have e : getP ((m, d) :: kvs) k = getP kvs k := by unfold getP; rw [List.find?_cons]; simp [c]
      rw [e, valV_neg (show ¬ kk m = kk k from fun z => c (inl_inj z))]
      exact repP_get h2
theorem repP_is {K : PySem.W.Frag} {F : Hp} {k : List Int} {kvs : List (List Int × D)} {ks : List (List Key × V)} (h : RepP K F kvs ks) : (valV ks (kk k)).isSome = (getP kvs k).isSome := by
  have := repP_get (k := k) h
  revert this
  match getP kvs k with
  | some d => exact fun ⟨v, e, _⟩ => by rw [e]; rfl
  | none => exact fun e => by rw [show valV ks (kk k) = none from e]; rfl
theorem repP_len {K : PySem.W.Frag} {F : Hp} : ∀ {kvs : List (List Int × D)} {ks : List (List Key × V)}, RepP K F kvs ks → ks.length = kvs.length
  | [], ks, h => by
    have h' : ks = [] := h
    subst h'
    rfl
  | (m, d) :: kvs, ks, ⟨v, r, q, h1, h2⟩ => by
    subst q
    rw [List.length_cons, List.length_cons, repP_len h2]
theorem repP_any {K : PySem.W.Frag} {F : Hp} {k : List Int} : ∀ {kvs : List (List Int × D)} {ks : List (List Key × V)}, RepP K F kvs ks → (ks.any fun p => decide (p.1 = kk k)) = kvs.any fun p => decide (p.1 = k)
  | [], ks, h => by
    have h' : ks = [] := h
    subst h'
    rfl
  | (m, d) :: kvs, ks, ⟨v, r, q, h1, h2⟩ => by
    subst q
    rw [List.any_cons, List.any_cons, repP_any h2]
    congr 1
    exact inl_iff
theorem repP_map {K : PySem.W.Frag} {F : Hp} {k : List Int} {d : D} {v : V} (hv : Rep K F d v) : ∀ {kvs : List (List Int × D)} {ks : List (List Key × V)}, RepP K F kvs ks → RepP K F (kvs.map fun p => if p.1 = k then (p.1, d) else p) (ks.map fun p => if p.1 = kk k then (p.1, v) else p)
  | [], ks, h => by
    have h' : ks = [] := h
    subst h'
    rfl
  | (m, e) :: kvs, ks, ⟨u, r, q, h1, h2⟩ => by
    subst q
    rw [List.map_cons, List.map_cons]
    have ih := repP_map (k := k) hv h2
    by_cases c : m = k
    · subst c
      rw [if_pos rfl, if_pos rfl]
      exact ⟨v, _, rfl, hv, ih⟩
    · rw [if_neg c, if_neg (show ¬ kk m = kk k from fun z => c (inl_inj z))]
      exact ⟨u, _, rfl, h1, ih⟩
theorem repP_app {K : PySem.W.Frag} {F : Hp} {k : List Int} {d : D} {v : V} (hv : Rep K F d v) : ∀ {kvs : List (List Int × D)} {ks : List (List Key × V)}, RepP K F kvs ks → RepP K F (kvs ++ [(k, d)]) (ks ++ [(kk k, v)])
  | [], ks, h => by
    have h' : ks = [] := h
    subst h'
    exact ⟨v, [], rfl, hv, rfl⟩
  | (m, e) :: kvs, ks, ⟨u, r, q, h1, h2⟩ => by
    subst q
    exact ⟨u, _, rfl, h1, repP_app hv h2⟩
theorem repP_put {K : PySem.W.Frag} {F : Hp} {k : List Int} {d : D} {v : V} {kvs : List (List Int × D)} {ks : List (List Key × V)} (h : RepP K F kvs ks) (hv : Rep K F d v) : RepP K F (putP kvs k d) (putK ks (kk k) v) := by
  unfold putP putK
  rw [repP_any h]
  split
  · exact repP_map hv h
  · exact repP_app hv h
section
variable {X : Cx} {ec : EC} {W : WX} {e : Expr} {pos : Pos} {φ κ : EX}
/-- x[k] -/
theorem de_dget {i : Nat} {x : Str} {xp : Pos} {k : Expr} (hu : X.A.units + 65 < cLine) (hN : X.N[i]? = some x) (hv : Vis X.env.scope x) (hk : DX X ec W k κ) (hs : NoSl k := by intro _ _; rfl) (hd : (x == ("__debug__" : Str)) = false := by decide) (hcd : (x == ("__classdict__" : Str)) = false := by decide) :
    DE X ec W (.Subscript (.Name x xp) k pos) (vDget i κ) := peImp (pe_dget (by omega) (pe_var hN hv hd hcd) hk hs) fun σ H Q ⟨r, F, F0, B, S, q⟩ => by
  unfold vDget at q
  split at q
  · rename_i kvs hi
    obtain ⟨y, h1, a, ks, rfl, h3, h4, h5, h6⟩ := S.ok i _ hi
    refine ⟨.ref a, h1, r, F, F0, B, S, (Thn.bind q).imp fun d F1 H1 _ g1 k1 u ru => ?_⟩
    split at k1
    · rename_i k hk
      obtain ⟨z, ez, k2⟩ := k1.po
      obtain ⟨b, rfl, hb⟩ := rep_key g1.i ru hk
      have hg := repP_get (k := k) (h6.mono g1.f)
      rw [ez] at hg
      obtain ⟨v, e1, e2⟩ := hg
      refine ⟨a, v, rfl, ?_, k2 F1 H1 (Gr.refl g1.i) v e2⟩
      rw [← e1]
      exact DGet.t (g1.h _ _ h3) hb
    · exact False.elim k1
  · exact False.elim q
/-- k in x; k not in x -/
theorem din_use {K : PySem.W.Frag} {i : Nat} {f : Bool → Bool} {σ : L2.St} {H : Hp} {Q : VK} {β : EB} (hβ : ∀ r, β r = match r[i]? with
    | some (.dct kvs) => rb (κ r) fun x => (match keyOf x with
      | some k => ok (f (getP kvs k).isSome)
      | none => none)
    | _ => none) (h : tD K ec W (vB β) σ H Q) : tX K ec W κ σ H fun y H1 => tVar i σ H1 fun x H2 => ∃ a o, x = .ref a ∧ DGet H2 a y o ∧ Q (.bl (f o.isSome)) H2 := by
  obtain ⟨r, F, F0, B, S, q⟩ := h
  have q' : Thn K ec W (rb (β r) fun b => ok (PyData.bool b)) σ F H fun d F' H' => ∀ v, Rep K F' d v → Q v H' := q
  rw [hβ r] at q'
  split at q'
  · rename_i kvs hi
    obtain ⟨y, h1, a, ks, rfl, h3, h4, h5, h6⟩ := S.ok i _ hi
    refine ⟨r, F, F0, B, S, (Thn.bind (show Thn K ec W (rb (κ r) fun x => rb (match keyOf x with
      | some k => ok (f (getP kvs k).isSome)
      | none => none) fun b => ok (PyData.bool b)) σ F H fun d F' H' => ∀ v, Rep K F' d v → Q v H' from by
        revert q'
        match κ r with
        | none => exact fun z => z
        | some (.error _) => exact fun z => z
        | some (.ok k) => exact fun z => z)).imp fun d F1 H1 _ g1 k1 u ru => ⟨.ref a, h1, ?_⟩⟩
    match hk : keyOf d with
    | some k =>
      rw [hk] at k1
      obtain ⟨b, rfl, hb⟩ := rep_key g1.i ru hk
      refine ⟨a, _, rfl, DGet.t (g1.h _ _ h3) hb, ?_⟩
      rw [repP_is h6]
      exact Thn.ok g1.i (a := PyData.bool (f (getP kvs k).isSome)) k1 _ rfl
    | none =>
      rw [hk] at k1
      exact False.elim k1
  · exact False.elim q'
theorem db_din {i : Nat} {x : Str} {xp : Pos} {k : Expr} (hu : X.A.units + 65 < cLine) (hN : X.N[i]? = some x) (hv : Vis X.env.scope x) (hk : DX X ec W k κ) (hd : (x == ("__debug__" : Str)) = false := by decide) (hcd : (x == ("__classdict__" : Str)) = false := by decide) :
    DB X ec W (.Compare k [.In] [.Name x xp] pos) (bDin i κ) := peImp (pe_cmp (pc_din (by omega) hk (pe_var hN hv hd hcd))) fun σ H Q h => din_use (f := id) (fun _ => rfl) h
theorem db_dnin {i : Nat} {x : Str} {xp : Pos} {k : Expr} (hu : X.A.units + 65 < cLine) (hN : X.N[i]? = some x) (hv : Vis X.env.scope x) (hk : DX X ec W k κ) (hd : (x == ("__debug__" : Str)) = false := by decide) (hcd : (x == ("__classdict__" : Str)) = false := by decide) :
    DB X ec W (.Compare k [.NotIn] [.Name x xp] pos) (bDnin i κ) := peImp (pe_cmp (pc_dnotin (by omega) hk (pe_var hN hv hd hcd))) fun σ H Q h => din_use (f := not) (fun _ => rfl) h
/-- as tests -/
theorem din_useT {K : PySem.W.Frag} {i : Nat} {f : Bool → Bool} {σ : L2.St} {H : Hp} {Q : Bool → Hp → Prop} {β : EB} (hβ : ∀ r, β r = match r[i]? with
    | some (.dct kvs) => rb (κ r) fun x => (match keyOf x with
      | some k => ok (f (getP kvs k).isSome)
      | none => none)
    | _ => none) (h : tT K ec W β σ H Q) : tX K ec W κ σ H fun y H1 => tVar i σ H1 fun x H2 => ∃ a o, x = .ref a ∧ DGet H2 a y o ∧ ∃ b, V.bl (f o.isSome) = V.bl b ∧ Q b H2 := by
  obtain ⟨r, F, F0, B, S, q⟩ := h
  rw [hβ r] at q
  split at q
  · rename_i kvs hi
    obtain ⟨y, h1, a, ks, rfl, h3, h4, h5, h6⟩ := S.ok i _ hi
    refine ⟨r, F, F0, B, S, (Thn.bind q).imp fun d F1 H1 _ g1 k1 u ru => ⟨.ref a, h1, ?_⟩⟩
    match hk : keyOf d with
    | some k =>
      rw [hk] at k1
      obtain ⟨b, rfl, hb⟩ := rep_key g1.i ru hk
      refine ⟨a, _, rfl, DGet.t (g1.h _ _ h3) hb, f (getP kvs k).isSome, ?_, Thn.ok g1.i (a := f (getP kvs k).isSome) k1⟩
      rw [repP_is h6]
    | none =>
      rw [hk] at k1
      exact False.elim k1
  · exact False.elim q
theorem dt_din {i : Nat} {x : Str} {xp : Pos} {k : Expr} (hu : X.A.units + 65 < cLine) (hN : X.N[i]? = some x) (hv : Vis X.env.scope x) (hk : DX X ec W k κ) (hd : (x == ("__debug__" : Str)) = false := by decide) (hcd : (x == ("__classdict__" : Str)) = false := by decide) :
    DT X ec W (.Compare k [.In] [.Name x xp] pos) (bDin i κ) := ptImp (pt_cmp (pc_din (by omega) hk (pe_var hN hv hd hcd))) fun σ H Q h => din_useT (f := id) (fun _ => rfl) h
theorem dt_dnin {i : Nat} {x : Str} {xp : Pos} {k : Expr} (hu : X.A.units + 65 < cLine) (hN : X.N[i]? = some x) (hv : Vis X.env.scope x) (hk : DX X ec W k κ) (hd : (x == ("__debug__" : Str)) = false := by decide) (hcd : (x == ("__classdict__" : Str)) = false := by decide) :
    DT X ec W (.Compare k [.NotIn] [.Name x xp] pos) (bDnin i κ) := ptImp (pt_cmp (pc_dnotin (by omega) hk (pe_var hN hv hd hcd))) fun σ H Q h => din_useT (f := not) (fun _ => rfl) h
/-- x[k] = e -/
theorem ds_dput {i : Nat} {x : Str} {xp tp : Pos} {k : Expr} (hu : X.A.units + 65 < cLine) (hN : X.N[i]? = some x) (hv : Vis X.env.scope x) (hk : DX X ec W k κ) (ha : DE X ec W e φ) (hs : swapsWith e (some (.Subscript (.Name x xp) k tp)) pos.line X.env = pure false := by rfl)
    (hd : (x == ("__debug__" : Str)) = false := by decide) (hcd : (x == ("__classdict__" : Str)) = false := by decide) :
    DS X ec W (.Assign [.Subscript (.Name x xp) k tp] e pos) (sDput i κ φ) := psImp (ps_dput (by omega) (pe_var hN hv hd hcd) hk ha hs) fun D σ H ⟨r, F, F0, B, S, q⟩ => by
  unfold sDput at q
  split at q
  · rename_i kvs hi
    obtain ⟨y, h1, a, ks, rfl, h3, h4, h5, h6⟩ := S.ok i _ hi
    refine ⟨r, F, F0, B, S, (Aft.so S q).imp fun d F1 H1 _ g1 k1 v rv => ⟨.ref a, h1, r, F1, F0, B, S.grow g1, (Aft.so (S.grow g1) k1).imp fun z F2 H2 _ g2 k2 u ru => ?_⟩⟩
    split at k2
    · rename_i k hk
      split at k2
      · rename_i hl
        obtain ⟨b, rfl, hb⟩ := rep_key g2.i ru hk
        have g12 := g1.trans g2
        have S2 := S.grow g12
        have h6' := h6.mono g12.f
        refine ⟨a, _, rfl, DPut.t (g12.h _ _ h3) hb (by rw [repP_len h6]; exact lim_lt hl), ?_⟩
        refine k2 σ F2 _ (Same.refl _) (S2.wr hi h1 (fun b c => upd_ne fun z => c (by subst z; rfl)) ⟨a, _, rfl, upd_same, ?_, h5, repP_put h6' (rv.mono g2.f)⟩ (fun b f => f) fun _ z => nomatch z)
        exact g12.nu h3 (fun _ z => nomatch z) h4
      · exact False.elim k2
    · exact False.elim k2
  · exact False.elim q
end
/-! ### displays -/
theorem Gr.over {F H F' H' : Hp} (g : Gr F H F' H') {p : Addr} (hp : H p = none) (fp : F' p = none) (o : HO) : Gr F H F' (upd H' p o) :=
  ⟨g.f, fun b x q => by rw [upd_ne (ne_of_none q hp)]; exact g.h b x q, fun b x q => by rw [upd_ne (ne_of_none q fp)]; exact g.i b x q, g.n⟩
theorem dictSetT {X : Cx} {pins : List (Addr × Obj)} {σ : L2.St} {H : Hp} {s : Shared} {E : Value → Shared → Prop} {D b : Addr} {ks : List (List Key × V)} {k : List Key} {v : V} {r : Value} {Q : Unit → Shared → Prop} (hu : X.A.units < cLine) (I : Inv X pins σ H s) (hD : H D = some (.dT ks)) (hz : ks.length < sizeLine)
    (eb : H b = some (.tup (k.map kV))) (rv : RelV v r) (h : ∀ s', Inv X pins σ (upd H D (.dT (putK ks k v))) s' → Q () s') : wpAny (model X.prog X.w) X.A (dictSet D (.ref b) r) Q E s := by
  obtain ⟨z, hd, xs, rel, dd⟩ := dt_of I.hok hD
  have l1 : xs.length ≤ sizeLine := by rw [← Paired.length rel]; exact z
  have l2 : (putK ks k v).length ≤ sizeLine := by have := length_putK ks k v; omega
  refine wpAny_dictSet_heap (hsz := l1) hu (key_of I.hok eb) dd fun h' dd' hs => h _ ?_
  obtain ⟨q, es, ep, hq, h2, h3, h4, _, h5⟩ := dd'
  refine d_write I (by rw [hD]; exact True.intro) hs ⟨q, hq⟩ ⟨l2, hd, _, (rel.put k eb rv).keeps fun c ys ec => ?_, q, es, ep, hq, h2, h3, h4, h5⟩
  rw [upd_ne (ne_of ec hD (fun z => nomatch z))]
  exact ec
/-- {k: v}, the key a tuple -/
def tDisp1 (tk tv : TE) : TE := fun σ H Q => ∀ p, H p = none → tPairs [(tk, tv)] σ (upd H p (.dT [])) fun ps H2 => H2 p = some (.dT []) ∧ ∃ (k : List Key) (b : Addr) (y : V), ps = [(.ref b, y)] ∧ H2 b = some (.tup (k.map kV)) ∧ Q (.ref p) (upd H2 p (.dT [(k, y)]))
theorem pe_disp1 {X : Cx} {pos : Pos} {k v : Expr} {tk tv : TE} (hu : X.A.units < cLine) (hk : PE X k tk) (hv : PE X v tv) : PE X (.Dict [some k] [v] pos) (tDisp1 tk tv) := by
  refine ⟨fun pins s σ H Q I q => ?_⟩
  have hn := I.hok.fresh (Nat.le_refl s.heap.objs.size)
  have I1 := I.laid (a := s.heap.objs.size) (o := .dT []) (h' := s.heap.push { cls := .type "dict", data := .dict #[] }) (t' := s.toks) (fun _ _ q => Heap.get?_push_of_some _ q) (Nat.le_refl _) (dt_empty s.heap I.big)
  refine wpAny_Dict_any rfl rfl (by simp) (show 1 ≤ 15 by decide) (thn ((pps_cons hk hv pps_nil).run pins _ σ _ _ I1 (q _ hn)) fun ws s2 ⟨ps, H2, I2, rel, e, k, b, y, ep, eb, q3⟩ => ?_)
  subst ep
  cases rel with
  | @cons p0 w0 _ _ h t =>
    cases t
    obtain ⟨u, r⟩ := w0
    obtain ⟨h1, h2⟩ := h
    obtain rfl : u = Value.ref b := h1
    unfold storeAll
    rw [List.forIn_cons]
    refine wpAny_bind (wpAny_bind (dictSetT hu I2 e (by show 0 < sizeLine; rw [sizeLine_eq]; omega) eb h2 fun s3 I3 => wpAny_pure ?_))
    dsimp only
    rw [List.forIn_nil]
    exact wpAny_pure ⟨.ref _, _, I3, rfl, q3⟩
section
variable {X : Cx} {ec : EC} {W : WX} {e : Expr} {pos : Pos} {φ κ : EX}
/-- x = {k: v} -/
theorem ds_dct1 {i : Nat} {x : Str} {k v : Expr} {pos' dpos : Pos} (hu : X.A.units + 65 < cLine) (hN : X.N.Nodup) (hi : X.N[i]? = some x) (hx : Loc X.env.scope x) (hk : DE X ec W k κ) (hv : DE X ec W v φ) (hs : swapsWith (.Dict [some k] [v] dpos) (some (.Name x pos')) pos.line X.env = pure false := by rfl)
    (hf : X.fn x = true ∨ X.env.scope.names.lookup x = some .local := by first | exact .inl rfl | exact .inr rfl | assumption) : DS X ec W (.Assign [.Name x pos'] (.Dict [some k] [v] dpos) pos) (sDct1 i κ φ) :=
  psImp (ps_set hN hi hx (pe_disp1 (by omega) hk hv) hs hf) fun D σ H ⟨r, F, F0, B, S, q⟩ => by
    intro p hp
    have go : Gr F H F (upd H p (.dT [])) := Gr.own S.sub hp _
    have S1 := S.grow go
    refine ⟨r, F, F0, B, S1, ((Aft.so S q).grow go).imp fun d F2 H2 _ g2 k2 u ru => ⟨r, F2, F0, B, S1.grow g2, (Aft.so (S1.grow g2) k2).imp fun z F3 H3 _ g3 k3 w rw' => ?_⟩⟩
    have g23 := g2.trans g3
    have hp3 : H3 p = some (.dT []) := g23.h _ _ upd_same
    refine ⟨hp3, ?_⟩
    split at k3
    · rename_i k hk
      obtain ⟨b, rfl, hb⟩ := rep_key g3.i ((ru.mono g3.f).x g3.i) hk
      have fp : F3 p = none := g23.nu upd_same (fun _ z => nomatch z) (S.sub.free hp)
      refine ⟨kk k, b, w, rfl, hb, ?_⟩
      refine k3 (σ.set i (some (.ref p))) F3 _ (Same.refl _) (S.put ((go.trans g23).over hp fp _) (s := .dct [(k, z)]) ⟨p, [(kk k, w)], rfl, upd_same, fp, S.gr.h.free hp, w, [], rfl, rw', rfl⟩ (fun a f => ?_) fun _ z => nomatch z)
      have f' : some (V.ref p) = some (V.ref a) := f
      cases f'
      exact hp
    · exact False.elim k3
/-! ### list(d) -/
/-- with the heap's tuples -/
def withT (F H : Hp) : Hp := fun a => match F a with
  | some o => some o
  | none => match H a with
    | some (.tup vs) => some (.tup vs)
    | _ => none
theorem withT_gr {F H : Hp} (e : Same F H) : Gr F H (withT F H) H := by
  refine ⟨fun a x q => ?_, Same.refl _, fun a x q => ?_, fun a _ q t => ?_⟩
  · unfold withT; rw [q]
  · unfold withT at q
    split at q
    · rename_i o ho
      cases q
      exact e _ _ ho
    · split at q
      · rename_i vs hv
        cases q
        exact hv
      · cases q
  · unfold withT
    rw [q]
    dsimp only
    split
    · rename_i vs hv
      exact absurd hv (t vs)
    · rfl
theorem withT_tup {F H : Hp} (e : Same F H) {a : Addr} {vs : List V} (h : H a = some (.tup vs)) : withT F H a = some (.tup vs) := by
  unfold withT
  split
  · rename_i o ho
    have := e _ _ ho
    rw [h] at this
    exact this.symm
  · rw [h]
theorem keyInts {K : PySem.W.Frag} {F : Hp} : ∀ k : List Int, RepL K F (k.map PyData.int) ((kk k).map kV)
  | [] => rfl
  | i :: k => ⟨.int i, _, rfl, rfl, keyInts k⟩
theorem keys_rep {K : PySem.W.Frag} {F H F' : Hp} (hT : ∀ a vs, H a = some (.tup vs) → F' a = some (.tup vs)) : ∀ {kvs : List (D × D)} {ks : List (List Key × V)} {bs : List Addr}, RepKV K F kvs ks → IsKeys H ks bs → RepL K F' (kvs.map (·.1)) (bs.map V.ref)
  | [], ks, bs, h, q => by
    have h' : ks = [] := h
    subst h'
    cases q
    rfl
  | (x, d) :: kvs, ks, bs, ⟨k, v, r, q1, q2, h1, h2⟩, q => by
    subst q1 q2
    cases q with
    | @cons _ b _ bs h t => exact ⟨.ref b, _, rfl, ⟨b, _, rfl, hT _ _ h, keyInts k⟩, keys_rep hT h2 t⟩
theorem dl_keys {x : Str} {p pos : Pos} (hg : Gl X x) (hm : X.mg x = none) (ha : DE X ec W e φ) (hv : bootBuiltins x = some (.type "list")) (hc : X.calm = true := by rfl) (hn : x ≠ "__name__" := by decide) (hdb : (x == ("__debug__" : Str)) = false := by decide)
    (he : starEach [e] X.env = (false, eval e X.env) :: starEach [] X.env := by rfl) : DLi X ec W (.Call (.Name x p) [e] [] pos) (l1 lKeys φ) := peImp (pe_callTy (call_list_dT hc) hg hm hv (pa_cons ha pa_nil he) hn hdb he (by rfl)) fun σ H Q ⟨r, F, F0, B, S, q⟩ => by
  refine ⟨r, F, F0, B, S, (Thn.bind q).imp fun d F1 H1 _ g1 k1 v rv => ?_⟩
  obtain ⟨xs, ex, k2⟩ := k1.po
  unfold lKeys at ex
  cases d with
  | dict kvs =>
    dsimp only at ex
    split at ex
    · rename_i hk
      cases ex
      obtain ⟨a, rfl, ⟨z, _⟩ | ⟨ks, h1, h2⟩⟩ := (show ∃ a, v = .ref a ∧ ((isTK kvs = false ∧ ∃ ks, F1 a = some (.dK ks)) ∨ ∃ ks, F1 a = some (.dT ks) ∧ RepKV X.K F1 kvs ks) from rv)
      · rw [hk] at z; cases z
      · exact ⟨a, ks, rfl, .inl (g1.i _ _ h1), fun l bs hl hb => k2 _ _ (withT_gr g1.i) l _ hl (keys_rep (fun a vs h => withT_tup g1.i h) h2 hb)⟩
    · cases ex
  | _ => cases ex
/-! ### x += e -/
theorem aug_use {i : Nat} {f : Int → Int → Int} {ti : TIp} (hti : ∀ m n H Q, Q (V.int (f m n)) H → ti (.int m) (.int n) H Q) {D : Ends} {σ : L2.St} {H : Hp} (h : tS X.K ec W (sAugI i f φ) D σ H) : tAug i (tX X.K ec W φ) ti D σ H := by
  obtain ⟨r, F, F0, B, S, q⟩ := h
  unfold sAugI at q
  split at q
  · rename_i m hi
    obtain ⟨y, h1, v, rfl, h2⟩ := S.ok i _ hi
    have e : v = .int m := h2
    subst e
    refine ⟨.int m, h1, r, F, F0, B, S, (Aft.so S q).imp fun d F1 H1 _ g1 k1 u ru => ?_⟩
    cases d with
    | int n =>
      have e : u = .int n := ru
      subst e
      exact hti m n H1 _ (k1 _ F1 H1 (Same.refl _) ((S.grow g1).set rfl))
    | _ => exact False.elim k1
  · exact False.elim q
theorem ds_augAdd {i : Nat} {x : Str} {pos' : Pos} (hN : X.N.Nodup) (hi : X.N[i]? = some x) (hx : Loc X.env.scope x) (he : DX X ec W e φ) (hf : X.fn x = true ∨ X.env.scope.names.lookup x = some .local := by first | exact .inl rfl | exact .inr rfl | assumption) :
    DS X ec W (.AugAssign (.Name x pos') .Add e pos) (sAugI i (fun m n => m + n) φ) := psImp (ps_aug hN hi hx he ip_add hf) fun D σ H h => aug_use (fun m n H Q q => ⟨m, n, rfl, rfl, q⟩) h
theorem ds_augSub {i : Nat} {x : Str} {pos' : Pos} (hN : X.N.Nodup) (hi : X.N[i]? = some x) (hx : Loc X.env.scope x) (he : DX X ec W e φ) (hf : X.fn x = true ∨ X.env.scope.names.lookup x = some .local := by first | exact .inl rfl | exact .inr rfl | assumption) :
    DS X ec W (.AugAssign (.Name x pos') .Sub e pos) (sAugI i (fun m n => m - n) φ) := psImp (ps_aug hN hi hx he ip_sub hf) fun D σ H h => aug_use (fun m n H Q q => ⟨m, n, rfl, rfl, q⟩) h
end
end DL
/-! Dict comprehensions whose keys are tuples. -/
namespace DL
open PySem PySem.Spec PyProof.Rows L2
section
variable {X : Cx}
/-- {k: v for target in iter if ..}: D the new dict; W says what holds between two turns, with a number that falls -/
def tDcT (wi : TI) (g : TG) (tt : TT) (tk tv : TE) (vs : List Nat) : TE := fun σ H Q => wi σ H fun J H1 => ∀ D, H1 D = none → ∃ W : Nat → Nat → Hp → Prop, (∃ m, W 0 m (upd H1 D (.dT []))) ∧ ∀ i m H, W i m H →
  (J.stop i H ∧ Q (.ref D) H) ∨ (J.go i H ∧ ∀ x H', J.yld i H x H' → g x (wipe σ vs) H' fun σ2 H2 => wipe σ2 vs = wipe σ vs ∧ tt σ2 H2 fun b H3 =>
    if b = true then tk σ2 H3 fun y H4 => tv σ2 H4 fun z H5 => ∃ (ks : List (List Key × V)) (k : List Key) (c : Addr), y = .ref c ∧ H5 c = some (.tup (k.map kV)) ∧ H5 D = some (.dT ks) ∧ ks.length < sizeLine ∧ ∃ m', m' < m ∧ W (i + 1) m' (upd H5 D (.dT (putK ks k z)))
    else ∃ m', m' < m ∧ W (i + 1) m' H3)
/-- behind a turn the iterator's objects stand as they stood, and the names of the block are forgotten -/
theorem turn_end {Y : Cx} {tg : Expr} {J : It} {fp : List Addr} {it : Addr} {tn : Nat → Heap → Prop} (T : Turn Y.prog Y.w Y.K tg J fp it tn) {vs : List Nat} {ρ σ : L2.St} {H : Hp} {s : Shared} {h : Heap} {i : Nat} (I : Inv Y ([] ++ pinsAt fp h) σ H s) (st : tn i h) (hw : wipe σ vs = ρ) :
    Inv Y [] ρ H s ∧ tn i s.heap ∧ ∀ b ∈ fp, H b = none := by
  have still : ∀ b ∈ fp, ∀ o, h.get? b = some o → s.heap.get? b = some o ∧ H b = none := fun b hb o e => by
    have z := I.pin (b, o) (List.mem_append_right _ (List.mem_append_right _ (mem_pinsAt hb e)))
    exact ⟨z.1, z.2.1⟩
  subst hw
  refine ⟨(I.unpinned (pins := [])).weak (wipe_length ..) (fun j v e => (wipe_some e).1), T.keep i h _ st fun b hb o e => (still b hb o e).1, fun b hb => ?_⟩
  obtain ⟨o, e, _⟩ := T.obj i h st b hb
  exact (still b hb o e).2
theorem pe_dcT {kx vx tg iter : Expr} {ifs : List Expr} {scope : Scope} {own : List (Str × Nat)} {pos : Pos} {wi : TI} {g : TG} {tt : TT} {tk tv : TE} (hu : X.A.units < cLine) (hc : X.calm = true) (hN : X.N.Nodup) (hi : PI X tg iter wi) (ok : BlkOk X.N X.env.scope scope own)
    (hg : ∀ (s : Shared) (H : Hp) (C : Addr) (cl : List (Str × Addr)) (fp : List Addr), PG (X.blk s H scope (compEnvC scope cl C X.env) fp) tg g) (ht : ∀ (s : Shared) (H : Hp) (C : Addr) (cl : List (Str × Addr)) (fp : List Addr), PTs (X.blk s H scope (compEnvC scope cl C X.env) fp) ifs tt)
    (hk : ∀ (s : Shared) (H : Hp) (C : Addr) (cl : List (Str × Addr)) (fp : List Addr), PE (X.blk s H scope (compEnvC scope cl C X.env) fp) kx tk)
    (hv : ∀ (s : Shared) (H : Hp) (C : Addr) (cl : List (Str × Addr)) (fp : List Addr), PE (X.blk s H scope (compEnvC scope cl C X.env) fp) vx tv) (hs : ∀ x, foldedSetIterable iter X.env x = pure x := by intro _; rfl) :
    PE X (.DictComp kx vx [⟨tg, iter, ifs, 0⟩] scope pos) (tDcT wi g tt tk tv (own.map (·.2))) := by
  refine ⟨fun pins s σ H Q I q0 => ?_⟩
  rw [arm_eval_DictComp]
  have cls : ∀ y ∈ scope.names, y.2 = .free → ∃ c, X.env.cells.lookup y.1 = some c := fun y hy e => (ok.free y hy e).elim (fun z => I.ok.has _ (.inl z)) fun z => I.ok.has _ (.inr z)
  refine wpAny_comprehension_free (use := none) rfl hs (closure_ok cls) ok.kind (fun y hy e => by rw [ok.uniq y hy, e]) (thn (hi.run pins s σ H _ I q0) fun _ s1 k1 => thn k1 fun _ s2 k2 => ?_)
  obtain ⟨it, fp, tn, J, H1, rfl, I1, T, t1, f1, q1⟩ := k2
  refine wpAny_newObj_type (newEnv_comp ?_)
  have nD : H1 s2.heap.objs.size = none := I1.hok.fresh (Nat.le_refl _)
  obtain ⟨W, ⟨m0, w0⟩, turn⟩ := q1 _ nD
  -- the new dict
  obtain ⟨s3, es⟩ : ∃ s3 : Shared, s3 = { s2 with heap := s2.heap.push { cls := .type "dict", data := .dict #[] } } := ⟨_, rfl⟩
  obtain ⟨H2, eH⟩ : ∃ H2, H2 = upd H1 s2.heap.objs.size (.dT []) := ⟨_, rfl⟩
  have I2 : Inv X pins σ H2 s3 := by
    rw [es, eH]
    exact I1.laid (a := s2.heap.objs.size) (o := .dT []) (t' := s2.toks) (fun _ _ e => Heap.get?_push_of_some _ e) (Nat.le_refl _) (dt_empty s2.heap I1.big)
  have t2 : tn 0 s3.heap := T.keep _ _ _ t1 fun _ _ _ e => by rw [es]; exact Heap.get?_push_of_some _ e
  have f2 : ∀ b ∈ fp, FpOk X pins H2 b ∧ b < s3.heap.objs.size := fun b hb => by
    obtain ⟨o, eo, _⟩ := T.obj _ _ t1 b hb
    have lt := Heap.lt_size eo
    rw [es, eH]
    refine ⟨⟨?_, (f1 b hb).2⟩, by show b < (s2.heap.push _).objs.size; rw [Heap.size_push]; exact Nat.lt_succ_of_lt lt⟩
    rw [upd_ne (Nat.ne_of_lt lt)]
    exact (f1 b hb).1
  rw [← eH] at w0
  generalize s2.heap.objs.size = D at turn w0 ⊢
  have start := block_start I2 ok hN f2
  have bg := hg s3 H2 s3.heap.objs.size (cellsFrom (s3.heap.objs.size + 1) scope.names (cloFrom X.env.cells scope.names [])) fp
  have bt := ht s3 H2 s3.heap.objs.size (cellsFrom (s3.heap.objs.size + 1) scope.names (cloFrom X.env.cells scope.names [])) fp
  have bk := hk s3 H2 s3.heap.objs.size (cellsFrom (s3.heap.objs.size + 1) scope.names (cloFrom X.env.cells scope.names [])) fp
  have bv := hv s3 H2 s3.heap.objs.size (cellsFrom (s3.heap.objs.size + 1) scope.names (cloFrom X.env.cells scope.names [])) fp
  have t4 : tn 0 (pushCells (s3.heap.push { cls := .type "dict", data := .dict #[] }) scope.names) := T.keep _ _ _ t2 fun _ _ _ e => pushCells_keeps _ _ _ _ (Heap.get?_push_of_some _ e)
  have n2 : ∀ b ∈ fp, H2 b = none := fun b hb => (f2 b hb).1.1
  rw [← es]
  show codeAny _ _ (.compStart (.DictComp kx vx [⟨tg, iter, ifs, 0⟩] scope pos) 0 (.ref it) (.ref D) (compEnvC scope (cellsFrom (s3.heap.objs.size + 1) scope.names (cloFrom X.env.cells scope.names [])) s3.heap.objs.size X.env)) (compPost (model X.prog X.w) X.A X.xe none (EP X pins σ Q) (.ref D) s3.heap.objs.size) { s3 with heap := pushCells (s3.heap.push { cls := .type "dict", data := .dict #[] }) scope.names }
  have lC : (compEnvC scope (cellsFrom (s3.heap.objs.size + 1) scope.names (cloFrom X.env.cells scope.names [])) s3.heap.objs.size X.env).locals = s3.heap.objs.size := rfl
  generalize compEnvC scope (cellsFrom (s3.heap.objs.size + 1) scope.names (cloFrom X.env.cells scope.names [])) s3.heap.objs.size X.env = ce at start bg bt bk bv lC ⊢
  generalize e4 : ({ s3 with heap := pushCells (s3.heap.push { cls := .type "dict", data := .dict #[] }) scope.names } : Shared) = s4 at start ⊢
  have t4 : tn 0 s4.heap := by rw [← e4]; exact t4
  have stat : ∀ {ρ : L2.St} {H' : Hp} {s' : Shared}, Inv (X.blk s3 H2 scope ce fp) [] ρ H' s' → (∀ b ∈ fp, H' b = none) → ∀ b ∈ fp, FpOk (X.blk s3 H2 scope ce fp) [] H' b := fun I' hn b hb =>
    ⟨hn b hb, (I'.ok.exf b hb).1, I'.ok.exfs b hb, .inl hb, fun x c e => (I'.ok.exf b hb).2 x c e, fun p hp => nomatch (show p ∈ ([] : List (Addr × Obj)) from hp)⟩
  have loop : codeAny (model X.prog X.w) X.A (.compLoop (.DictComp kx vx [⟨tg, iter, ifs, 0⟩] scope pos) 0 (.ref it) (.ref D) ce) (compPost (model X.prog X.w) X.A X.xe none (EP X pins σ Q) (.ref D) s3.heap.objs.size) s4 := by
    refine compLoop_anyD (fun n s' => ∃ i H', Inv (X.blk s3 H2 scope ce fp) [] (wipe σ (own.map (·.2))) H' s' ∧ tn i s'.heap ∧ (∀ b ∈ fp, H' b = none) ∧ W i n H') ?_ m0 ⟨0, H2, start, t4, n2, w0⟩
    rintro n s5 ⟨i, H5, I5, t5, n5, w5⟩
    rcases turn i n H5 w5 with ⟨stop, fin⟩ | ⟨go, step⟩
    · refine thnF (T.done (X.blk s3 H2 scope ce fp) rfl rfl rfl hc i [] s5 _ H5 (fun _ _ => False) I5 (stat I5 n5) t5 stop) fun r s6 ⟨hr, I6⟩ => ?_
      subst hr
      have I7 : Inv X pins σ H5 s6 := I2.call' (ch := fp) I6.os I6.base I6.hok I6.bare fun b hb => ⟨(f2 b hb).1.2.2.2.1, (f2 b hb).1.2.1, (f2 b hb).1.2.2.2.2.1, (f2 b hb).1.2.2.2.2.2⟩
      have nC : H5 s3.heap.objs.size = none := lC ▸ (show H5 ce.locals = none from I6.free)
      obtain ⟨m, hm, _⟩ := I6.loc
      have hm : s6.heap.Ns ce.locals m := hm
      rw [lC] at hm
      obtain ⟨p0, p1, _, p3, p4, p5⟩ := I2.fpOk (Nat.le_refl _) nC
      exact ⟨m, hm, fun h'' sb => ⟨.ref D, H5, I7.turned (t' := s6.toks) (fun b o hb e => (sb.2 b hb).trans e) p0 p1 p3 p4 p5, rfl, fin⟩⟩
    · refine thnF (T.item (X.blk s3 H2 scope ce fp) rfl rfl rfl hc i [] s5 _ H5 (fun _ _ => False) I5 (stat I5 n5) t5 go) fun r s6 ⟨u, hr, h6⟩ => ?_
      subst hr
      refine thnF h6 fun _ s7 ⟨x, H7, I7, r7, y7, t7, n7⟩ => ?_
      refine thnF (bg.run _ s7 _ H7 x u _ (I7.pinned (stat I7 n7) (T.obj _ _ t7)) r7 (step x H7 y7)) fun _ s8 ⟨σ8, H8, I8, w8, q8⟩ => ?_
      refine thnF (bt.run _ s8 σ8 H8 _ I8 q8) fun b s9 ⟨H9, I9, q9⟩ => ?_
      have close : ∀ {s' : Shared} {H' : Hp}, Inv (X.blk s3 H2 scope ce fp) ([] ++ pinsAt fp s7.heap) σ8 H' s' → (∃ m', m' < n ∧ W (i + 1) m' H') → ∃ m, m < n ∧ ∃ i H', Inv (X.blk s3 H2 scope ce fp) [] (wipe σ (own.map (·.2))) H' s' ∧ tn i s'.heap ∧ (∀ b ∈ fp, H' b = none) ∧ W i m H' := fun I' ⟨m', lt, w'⟩ => by
        obtain ⟨a1, a2, a3⟩ := turn_end (Y := X.blk s3 H2 scope ce fp) T I' t7 w8
        exact ⟨m', lt, i + 1, _, a1, a2, a3, w'⟩
      cases b with
      | false =>
        simp only [Bool.false_eq_true, if_false] at q9 ⊢
        exact close I9 q9
      | true =>
        simp only [if_true] at q9 ⊢
        refine thnF (bk.run _ s9 σ8 H9 _ I9 q9) fun z s10 ⟨yk, H10, I10, r10, q10⟩ => ?_
        refine thnF (bv.run _ s10 σ8 H10 _ I10 q10) fun z2 s11 ⟨yv, H11, I11, r11, ks, k, c, ek, hc', hD, hz, nx⟩ => ?_
        subst ek
        obtain rfl : z = Value.ref c := r10
        exact dictSetT (X := X.blk s3 H2 scope ce fp) hu I11 hD hz hc' r11 fun s12 I12 => close I12 nx
  exact codeAny_compStart_dict loop (T.self X.A 0 _ _ _ t4 loop)
end
theorem putP_len (kvs : List (List Int × D)) (k : List Int) (d : D) : (putP kvs k d).length ≤ kvs.length + 1 := by
  unfold putP
  split
  · rw [List.length_map]; exact Nat.le_succ _
  · rw [List.length_append]; exact Nat.le_refl _
theorem repKV_of {K : PySem.W.Frag} {F : Hp} : ∀ {kvs : List (List Int × D)} {ks : List (List Key × V)}, RepP K F kvs ks → RepKV K F (kvs.map keyP) ks
  | [], _, h => h
  | (k, d) :: kvs, ks, ⟨v, r, q, h1, h2⟩ => ⟨k, v, r, rfl, q, h1, repKV_of h2⟩
theorem dc_use {K : PySem.W.Frag} {ec : EC} {W : WX} {ι : EL} {g : Tg} {β : EB} {κ φ : EX} {vs : List Nat} (hvs : vs = g.slots) {σ : L2.St} {H : Hp} {Q : VK} (h : tD K ec W (vDComp ι g β κ φ) σ H Q) :
    tDcT (tIX K ec W ι) (tgT K g) (tT K ec W0 β) (tD K ec W0 κ) (tD K ec W0 φ) vs σ H Q := by
  subst hvs
  obtain ⟨r, F, F0, B, S, q⟩ := h
  refine ⟨r, F, F0, B, S, (Thn.bind q).imp fun xs F1 H1 _ g1 h1 J hJ D hD => ?_⟩
  by_cases hlim : xs.length ≤ lim
  · rw [if_pos hlim] at h1
    match ec1 : noEr (compD g β κ φ (unSlots g.slots r) xs []) with
    | none => rw [ec1] at h1; exact False.elim h1
    | some (.error _) =>
      exfalso
      unfold noEr at ec1
      split at ec1
      · cases ec1
      · cases ec1
    | some (.ok fin) =>
      rw [ec1] at h1
      have hc : compD g β κ φ (unSlots g.slots r) xs [] = ok fin := noEr_ok ec1
      have S1 := SR.wipe g.slots (S.grow g1)
      obtain ⟨G, Y, w, hG, hY⟩ := hJ
      refine ⟨fun i m Hc => m = xs.length - i ∧ i ≤ xs.length ∧ ∃ kvs ks F2 Hm, compD g β κ φ (unSlots g.slots r) (xs.drop i) kvs = ok fin ∧ kvs.length ≤ i ∧ Hc = upd Hm D (.dT ks) ∧ Hm D = none ∧ RepP K F2 kvs ks ∧ Gr F1 H1 F2 Hm,
        ⟨xs.length, by simp, Nat.zero_le _, [], [], F1, H1, hc, Nat.le_refl _, rfl, hD, rfl, Gr.refl g1.i⟩, ?_⟩
      rintro i m Hc ⟨rfl, hi, kvs, ks, F2, Hm, er, hl, rfl, hm, hu, g2⟩
      have go := Gr.own g2.i hm (.dT ks)
      have hGi := hG _ (g2.h.trans go.h)
      by_cases lt : i < xs.length
      · refine .inr ⟨w.goes i _ lt hGi, fun x H' y => ?_⟩
        have y := w.yields i _ x H' lt hGi y
        obtain ⟨d, hd⟩ : ∃ d, xs[i]? = some d := ⟨xs[i], List.getElem?_eq_getElem lt⟩
        have hdrop : xs.drop i = d :: xs.drop (i + 1) := by
          rw [List.drop_eq_getElem_cons lt]
          congr 1
          have := List.getElem?_eq_getElem lt
          rw [hd] at this
          exact (Option.some.inj this).symm
        obtain ⟨F3, g3, r3⟩ := hY i d _ x H' F2 hd (g2.h.trans go.h) g2.f go.i y
        have S3 := (S1.grow g2).grow (go.trans g3)
        rw [hdrop] at er
        unfold compD at er
        split at er
        · cases er
        · rename_i r1 hput
          obtain ⟨k, ek, er1⟩ := rb_eq_ok er
          refine put_ok S3 r3 hput fun σ2 S4 hw => ⟨by rw [hw, wipe_wipe], ⟨r1, F3, F0, B, S4, Thn.ok0 ek fun F4 H4 g4 => ?_⟩⟩
          have f2D : F2 D = none := g2.i.free hm
          cases k with
          | true =>
            rw [if_pos rfl] at er1
            obtain ⟨z, ez, er2⟩ := rb_eq_ok er1
            obtain ⟨e, ee, er3⟩ := rb_eq_ok er2
            refine iteT ⟨r1, F4, F0, B, S4.grow g4, Thn.ok0 ez fun F5 H5 g5 u ru => ⟨r1, F5, F0, B, (S4.grow g4).grow g5, Thn.ok0 ee fun F6 H6 g6 v rv => ?_⟩⟩
            split at er3
            · rename_i k hk
              obtain ⟨c, rfl, hc6⟩ := rep_key g6.i ((ru.mono g6.f).x g6.i) hk
              have g7 : Gr F2 (upd Hm D (.dT ks)) F6 H6 := ((g3.trans g4).trans g5).trans g6
              have hD6 : H6 D = some (.dT ks) := g7.h _ _ upd_same
              refine ⟨ks, kk k, c, rfl, hc6, hD6, ?_, _, ?_, rfl, lt, putP kvs k e, putK ks (kk k) v, F6, DL.del H6 D, er3, ?_, ?_, del_self, repP_put (hu.mono g7.f) rv, g2.trans (g7.del hm f2D)⟩
              · rw [repP_len hu]
                exact Nat.lt_of_lt_of_le (Nat.lt_of_le_of_lt hl lt) (lim_line hlim)
              · omega
              · have := putP_len kvs k e
                omega
              · funext b
                unfold upd DL.del
                by_cases c : b = D
                · rw [if_pos c, if_pos c]
                · rw [if_neg c, if_neg c, if_neg c]
            · cases er3
          | false =>
            rw [if_neg (by simp)] at er1
            have g6 : Gr F2 (upd Hm D (.dT ks)) F4 H4 := g3.trans g4
            have hD5 : H4 D = some (.dT ks) := g6.h _ _ upd_same
            exact iteF ⟨_, by omega, rfl, lt, kvs, ks, F4, DL.del H4 D, er1, Nat.le_succ_of_le hl, (upd_del hD5).symm, del_self, hu.mono g6.f, g2.trans (g6.del hm f2D)⟩
      · have ei : i = xs.length := by omega
        subst ei
        refine .inl ⟨w.stops _ hGi, ?_⟩
        rw [List.drop_length] at er
        have e5 : kvs = fin := by
          have e6 : ok kvs = ok fin := er
          unfold ok at e6
          simpa using e6
        subst e5
        have gn := Gr.new g2.i hm (.dT ks)
        exact h1 _ _ (g2.trans gn) _ ⟨D, rfl, .inr ⟨ks, upd_same, repKV_of (hu.mono gn.f)⟩⟩
  · rw [if_neg hlim] at h1
    exact False.elim h1
section
variable {X : Cx} {ec : EC} {W : WX} {kx vx tg iter : Expr} {ifs : List Expr} {scope : Scope} {own : List (Str × Nat)} {pos : Pos} {ι : EL} {g : Tg} {β : EB} {κ φ : EX}
theorem de_dcomp (hu : X.A.units + 65 < cLine) (hc : X.calm = true) (hN : X.N.Nodup) (hi : DIX X ec W tg iter ι) (ok : BlkOk X.N X.env.scope scope own) (hv : own.map (·.2) = g.slots)
    (hg : ∀ (s : Shared) (H : Hp) (C : Addr) (cl : List (Str × Addr)) (fp : List Addr), PG (X.blk s H scope (compEnvC scope cl C X.env) fp) tg (tgT X.K g)) (ht : ∀ (s : Shared) (H : Hp) (C : Addr) (cl : List (Str × Addr)) (fp : List Addr), PTs (X.blk s H scope (compEnvC scope cl C X.env) fp) ifs (tT X.K ec W0 β))
    (hk : ∀ (s : Shared) (H : Hp) (C : Addr) (cl : List (Str × Addr)) (fp : List Addr), DE (X.blk s H scope (compEnvC scope cl C X.env) fp) ec W0 kx κ) (he : ∀ (s : Shared) (H : Hp) (C : Addr) (cl : List (Str × Addr)) (fp : List Addr), DE (X.blk s H scope (compEnvC scope cl C X.env) fp) ec W0 vx φ) (hs : ∀ x, foldedSetIterable iter X.env x = pure x := by intro _; rfl) :
    DE X ec W (.DictComp kx vx [⟨tg, iter, ifs, 0⟩] scope pos) (vDComp ι g β κ φ) := peImp (pe_dcT (by omega) hc hN hi ok hg ht hk he hs) fun _ _ _ h => dc_use hv h
end
end DL
/-! sorted(set(..)) of whole numbers. -/
namespace DL
open PySem PySem.Spec PyProof.Rows L2
section
variable {P : Program} {w : World} {A : Around} {E : Value → Shared → Prop}
set_option maxHeartbeats 3200000 in
/-- set(..) of a list of whole numbers -/
theorem set_listI {s : Shared} {l : Addr} {items : Array Value} (ns : List Int) {Q : Value → Shared → Prop} (hh : A.handled = none) (hl : s.heap.IsList l items) (hit : IntsAre items.toList ns) (hb : ns.length + 1 < scanBound)
    (h : ∀ (h' : Heap) (tk c : Nat), SetR w h' s.heap.objs.size (fun j => decide (j ∈ ns)) c → c ≤ ns.length → (∀ b o, s.heap.get? b = some o → h'.get? b = some o) → Q (.ref s.heap.objs.size) { s with heap := h', toks := tk }) : wpAny (model P w) A (call (.type "set") [.ref l]) Q E s := by
  have hisz : items.size = ns.length := by
    have q := IntsAre.length hit
    rw [Array.length_toList] at q
    exact q
  obtain ⟨c, tl, hmro⟩ := F.called_set.mro
  have hmade := F.called_set.made
  have hsub := F.called_set.sub
  refine wpAny_call (codeAny_of_tree ?_)
  show wpAny _ _ (callAny (.type "set") _) _ _ _
  refine wpAny_pure ⟨Code.quiet_builtin _ (by decide +kernel), codeAny_builtin F.entry_type_call ?_⟩
  rw [Around.under_plain (weight_type_call_type "set" [.ref l] []) rfl]
  have h1 := F.called_set.notType
  have h2 := F.called_set.canCreate
  have hct := F.typeCall_set_1 (.ref l)
  repeat (any_goals (first | assumption | wp_step))
  refine codeAny_mono (code_set_led1 (.ref l) (E := E) (Q₁ := fun obj s1 => obj = .ref s.heap.objs.size ∧ s1 = { s with heap := s.heap.push { cls := .type "set", dict := none, data := .set #[] 0 (.fresh 0 0 (!w.params.followText "set-order")) } }) ⟨rfl, rfl⟩) fun r s1 hr => ?_
  cases r with
  | error e => exact hr
  | ok fl =>
    cases fl with
    | ret obj =>
      obtain ⟨rfl, rfl⟩ := hr
      have hS : (s.heap.push { cls := .type "set", dict := none, data := .set #[] 0 (.fresh 0 0 (!w.params.followText "set-order")) }).get? s.heap.objs.size = some { cls := .type "set", dict := none, data := .set #[] 0 (.fresh 0 0 (!w.params.followText "set-order")) } := Heap.get?_push_size _ rfl
      have hT : Shared.TypeIs { s with heap := s.heap.push { cls := .type "set", dict := none, data := .set #[] 0 (.fresh 0 0 (!w.params.followText "set-order")) } } (.ref s.heap.objs.size) "set" := ⟨_, hS, rfl⟩
      have hli := F.called_set.init.lookup
      have hbi := F.called_set.init.bind (.ref s.heap.objs.size)
      repeat (any_goals (first | assumption | wp_step))
      refine codeAny_mono (codeAny_call_builtin (R := wants (fun r s2 => r = .none ∧ ∃ h' tk c, s2 = { s with heap := h', toks := tk } ∧ SetR w h' s.heap.objs.size (fun j => decide (j ∈ ns)) c ∧ c ≤ ns.length ∧ (∀ b o, s.heap.get? b = some o → h'.get? b = some o)) E) F.called_set.init.plain F.entry_set_init (check_set_init_1 hT ?_)) fun r2 s2 hr2 => ?_
      · obtain ⟨ol, hol, hcl, nl, hdl⟩ := hl
        obtain ⟨ocls, odict, odata, oslots⟩ := ol
        simp only at hcl hdl
        subst hcl; subst hdl
        have hol' : (s.heap.push { cls := .type "set", dict := none, data := .set #[] 0 (.fresh 0 0 (!w.params.followText "set-order")) }).get? l = some { cls := .type "list", dict := odict, data := .seq items nl, slots := oslots } := Heap.get?_push_of_some _ hol
        have hsls := F.sub_list_set
        have hslf := F.sub_list_frozenset
        have hne : (Value.type "list" == Value.type "dict") = false := by decide
        have hl1 : (s.heap.push { cls := .type "set", dict := none, data := .set #[] 0 (.fresh 0 0 (!w.params.followText "set-order")) }).IsList l items := ⟨_, hol', rfl, nl, rfl⟩
        unfold Builtin.«set.__init__» noKeywords Builtin.Frozenset.updateFrom
        generalize hPI : pyIter = PI
        wp_walk
        subst hPI
        refine wpAny_pyIter_list hl1 ?_
        refine wpAny_bind (wpAny_runValue ?_)
        have hlS : l < s.heap.objs.size := Heap.lt_size hol
        have hh3 : A.in1.in1.in1.handled = none := by simp [hh]
        have hz1 : (s.heap.push { cls := .type "set", dict := none, data := .set #[] 0 (.fresh 0 0 (!w.params.followText "set-order")) }).objs.size = s.heap.objs.size + 1 := Heap.size_push ..
        have hneI : l ≠ (s.heap.push { cls := .type "set", dict := none, data := .set #[] 0 (.fresh 0 0 (!w.params.followText "set-order")) }).objs.size := by
          rw [Heap.size_push]; exact Nat.ne_of_lt (Nat.lt_succ_of_lt hlS)
        have off : s.heap.objs.size ∉ [(s.heap.push { cls := .type "set", dict := none, data := .set #[] 0 (.fresh 0 0 (!w.params.followText "set-order")) }).objs.size, l] := by
          rw [Heap.size_push]; simp only [List.mem_cons, List.mem_singleton, List.not_mem_nil, or_false, not_or]
          exact ⟨Nat.ne_of_lt (Nat.lt_succ_self _), Nat.ne_of_gt hlS⟩
        have hval : ∀ (i : Nat) (v : Value), items[i]? = some v → ∃ k t, ns[i]? = some k ∧ v = .int k t := fun i v hv => by
          have hi : i < ns.length := by rw [← hisz]; exact (Array.getElem?_eq_some_iff.mp hv).1
          obtain ⟨t, e⟩ := IntsAre.int_at hit i v (by rw [Array.getElem?_toList]; exact hv)
          refine ⟨ns[i], t, List.getElem?_eq_getElem hi, ?_⟩
          rw [e, List.getD_eq_getElem?_getD, List.getElem?_eq_getElem hi]
          rfl
        refine set_update_ints ((Walks.list hh3 _ l hneI items).toS) s.heap.objs.size off ns hisz hb hval (items.size - 0) 0 _ (by omega) (Nat.zero_le _)
          ⟨⟨_, Heap.get?_push_size _ rfl, rfl, rfl⟩, (hl1.push _)⟩ ⟨0, Nat.le_refl 0, setR_new_at (Heap.get?_push_of_some _ hS)⟩ ?_
        intro s' c' hm hc' R
        obtain ⟨h', g2, d', tk', os'⟩ := s'
        have eg : g2 = s.gens := hm.gens
        have ed : d' = s.drawn := hm.drawn
        have eo : os' = s.os := hm.os
        subst eg; subst ed; subst eo
        show wpAny _ _ _ _ _ _
        refine wpAny_pure ?_
        show wpAny _ _ (ret Value.none) _ _ _
        rw [hisz] at hc'
        refine wpAny_pure ⟨rfl, h', tk', c', rfl, R, hc', fun b o e => ?_⟩
        have b0 := Heap.lt_size e
        refine hm.heap b o ?_ (Heap.get?_push_of_some _ (Heap.get?_push_of_some _ e))
        rw [Heap.size_push]
        simp only [List.mem_cons, List.not_mem_nil, or_false, not_or]
        exact ⟨Nat.ne_of_lt b0, Nat.ne_of_lt (Nat.lt_succ_of_lt b0)⟩
      · cases r2 with
        | error e => exact hr2
        | ok fl2 =>
          cases fl2 with
          | ret r =>
            obtain ⟨rfl, h', tk, c', rfl, R, hc', hk'⟩ := hr2
            repeat (any_goals (first | assumption | wp_step))
            exact h _ _ _ R hc' hk'
          | _ => exact hr2.elim
    | _ => exact hr.elim
end
theorem mem_insU {x k : Int} : ∀ {ys : List Int}, k ∈ insU x ys ↔ k = x ∨ k ∈ ys
  | [] => by simp [insU]
  | y :: ys => by
    unfold insU
    split
    · simp
    · split
      · rename_i h
        subst h
        simp
      · rw [List.mem_cons, mem_insU, List.mem_cons]
        constructor
        · rintro (h | h | h)
          · exact .inr (.inl h)
          · exact .inl h
          · exact .inr (.inr h)
        · rintro (h | h | h)
          · exact .inr (.inl h)
          · exact .inl h
          · exact .inr (.inr h)
theorem mem_setS {k : Int} : ∀ {xs : List Int}, k ∈ setS xs ↔ k ∈ xs
  | [] => Iff.rfl
  | x :: xs => by
    rw [setS, mem_insU, mem_setS, List.mem_cons]
theorem insU_lt {x : Int} : ∀ {ys : List Int}, ys.Pairwise (· < ·) → (insU x ys).Pairwise (· < ·)
  | [], _ => List.pairwise_singleton _ _
  | y :: ys, h => by
    obtain ⟨h1, h2⟩ := List.pairwise_cons.mp h
    unfold insU
    split
    · rename_i c
      refine List.pairwise_cons.mpr ⟨fun z hz => ?_, h⟩
      rcases List.mem_cons.mp hz with rfl | hz
      · exact c
      · exact Int.lt_trans c (h1 z hz)
    · split
      · exact h
      · rename_i c d
        refine List.pairwise_cons.mpr ⟨fun z hz => ?_, insU_lt h2⟩
        rcases mem_insU.mp hz with rfl | hz
        · omega
        · exact h1 z hz
theorem setS_lt : ∀ xs : List Int, (setS xs).Pairwise (· < ·)
  | [] => List.Pairwise.nil
  | x :: xs => insU_lt (setS_lt xs)
/-- ascending lists with the same members -/
theorem asc_eq : ∀ {xs ys : List Int}, xs.Pairwise (· < ·) → ys.Pairwise (· < ·) → (∀ k, k ∈ xs ↔ k ∈ ys) → xs = ys
  | [], [], _, _, _ => rfl
  | [], y :: _, _, _, h => nomatch (h y).mpr List.mem_cons_self
  | x :: _, [], _, _, h => nomatch (h x).mp List.mem_cons_self
  | x :: xs, y :: ys, hx, hy, h => by
    obtain ⟨x1, x2⟩ := List.pairwise_cons.mp hx
    obtain ⟨y1, y2⟩ := List.pairwise_cons.mp hy
    have e : x = y := by
      rcases List.mem_cons.mp ((h x).mp List.mem_cons_self) with a | a
      · exact a
      · rcases List.mem_cons.mp ((h y).mpr List.mem_cons_self) with b | b
        · exact b.symm
        · have := x1 y b
          have := y1 x a
          omega
    subst e
    congr 1
    refine asc_eq x2 y2 fun k => ⟨fun m => ?_, fun m => ?_⟩
    · rcases List.mem_cons.mp ((h k).mp (List.mem_cons_of_mem _ m)) with a | a
      · subst a; exact absurd (x1 k m) (Int.lt_irrefl k)
      · exact a
    · rcases List.mem_cons.mp ((h k).mpr (List.mem_cons_of_mem _ m)) with a | a
      · subst a; exact absurd (y1 k m) (Int.lt_irrefl k)
      · exact a
/-- each once within others: not more -/
theorem nodup_le : ∀ {xs ys : List Int}, xs.Nodup → (∀ k ∈ xs, k ∈ ys) → xs.length ≤ ys.length
  | [], _, _, _ => Nat.zero_le _
  | x :: xs, ys, hd, h => by
    obtain ⟨d1, d2⟩ := List.nodup_cons.mp hd
    have hx := h x List.mem_cons_self
    have ih := nodup_le (ys := ys.erase x) d2 fun k hk => (List.mem_erase_of_ne (fun z => d1 (by rw [← z]; exact hk))).mpr (h k (List.mem_cons_of_mem _ hk))
    have := List.length_erase_of_mem hx
    have : 0 < ys.length := List.length_pos_of_mem hx
    rw [List.length_cons]
    omega
theorem setR_few {w : World} {h : Heap} {a : Addr} {ns : List Int} {c : Nat} (R : SetR w h a (fun j => decide (j ∈ ns)) c) : c ≤ (setS ns).length := by
  obtain ⟨o, es, ep, t, _, _, _, _, nd, hm, _, _, hn, _⟩ := R
  have := nodup_le nd (ys := setS ns) fun k hk => mem_setS.mpr (by simpa using (hm k).mpr hk)
  rw [List.length_map, Array.length_toList, hn] at this
  exact this
section
variable {X : Cx} {ec : EC} {W : WX} {e : Expr} {pos p p2 q2 : Pos} {φ : EX}
def rSetI (K : PySem.W.Frag) (w : World) : List V → Hp → VK → Prop := fun xs H Q => ∃ (l : Addr) (ns : List Int), xs = [V.ref l] ∧ SqL K H l (ns.map V.int) ∧ ns.length ≤ 2000 ∧ ∀ a c, H a = none → c ≤ (setS ns).length → Q (.ref a) (upd H a (SetO w a (fun j => decide (j ∈ ns)) c))
theorem cr_setI (hc : X.calm = true) : CallR X (.type "set") (rSetI X.K X.w) := by
  intro pins s σ H xs us Q I r h
  obtain ⟨l, ns, rfl, hl, hn, q⟩ := h
  rw [Vals.ref1 r]
  obtain ⟨its, rv, pl, hz⟩ := I.list hl
  have hi : IntsAre its ns := intsAre_of rv
  refine set_listI (P := X.prog) (w := X.w) ns (I.ok.hd hc) pl.isList (by simpa using hi) (Nat.lt_of_le_of_lt (Nat.succ_le_succ hn) (by decide)) fun h' tk c R hle k => ?_
  exact ⟨.ref s.heap.objs.size, _, I.laid (t' := tk) k (Nat.le_refl _) (setO_new R), rfl, q _ c (I.hok.fresh (Nat.le_refl _)) (setR_few R)⟩
theorem dl_sortset (hg : Gl X "sorted") (hm : X.mg "sorted" = none) (hg2 : Gl X "set") (hm2 : X.mg "set" = none) (ha : DX X ec W e φ) (hv : bootBuiltins "sorted" = some (.builtin "sorted")) (hv2 : bootBuiltins "set" = some (.type "set")) (hc : X.calm = true := by rfl)
    (na : starEach [e] X.env = (false, eval e X.env) :: starEach [] X.env := by rfl) (nb : starEach [.Call (.Name "set" p2) [e] [] q2] X.env = (false, eval (.Call (.Name "set" p2) [e] [] q2) X.env) :: starEach [] X.env := by rfl) :
    DLi X ec W (.Call (.Name "sorted" p) [.Call (.Name "set" p2) [e] [] q2] [] pos) (l1 lSortS φ) :=
  peImp (pe_callB (cr_sortedSet hc) hg hm hv (pa_cons (pe_callTy (cr_setI hc) hg2 hm2 hv2 (pa_cons ha pa_nil na) (by decide) (by decide) na (by rfl)) pa_nil nb) (by decide) (by decide) nb (by rfl)) fun σ H Q ⟨r, F, F0, B, S, q⟩ => by
    refine ⟨r, F, F0, B, S, (Thn.bind q).imp fun d F1 H1 _ g1 k1 v rv => ?_⟩
    obtain ⟨xs', ex, k2⟩ := k1.po
    cases d with
    | list ys =>
      obtain ⟨a, vs, rfl, h1, h2⟩ := rv
      have ex' : (match numsOf ys with
        | some ns => if ns.length ≤ 2000 ∧ (setS ns).length < 64 then some ((setS ns).map PyData.int) else none
        | none => none) = some xs' := ex
      match hn : numsOf ys with
      | none => rw [hn] at ex'; cases ex'
      | some ns =>
        rw [hn] at ex'
        dsimp only at ex'
        split at ex'
        · rename_i c
          cases ex'
          rw [numsOf_eq hn] at h2
          have ev : vs = ns.map V.int := by
            rw [rep_ints h2, List.map_map]
            rfl
          rw [ev] at h1
          refine ⟨a, ns, rfl, h1, c.1, fun p n hp hle => ⟨p, _, n, rfl, upd_same, Nat.lt_of_le_of_lt hle c.2, fun ms l hs hm hlen hl => ?_⟩⟩
          have em : ms = setS ns := asc_eq hs (setS_lt ns) fun k => by rw [hm k, mem_setS, decide_eq_true_eq]
          subst em
          refine k2 F1 _ (Gr.own g1.i hp _) l _ hl ?_
          have := keyInts (K := X.K) (F := F1) (setS ns)
          rw [List.map_map] at this
          exact this
        · cases ex'
    | _ => cases ex
end
end DL
/-! len(set(..)) of whole numbers. -/
namespace DL
open PySem PySem.Spec PyProof.Rows L2
theorem numsOf_rep {K : PySem.W.Frag} {F : Hp} : ∀ {xs : List D} {ns : List Int} {vs : List V}, numsOf xs = some ns → RepL K F xs vs → vs = ns.map V.int
  | [], ns, vs, h, r => by
    have e : ns = [] := by
      have h' : some ([] : List Int) = some ns := h
      exact (Option.some.inj h').symm
    have r' : vs = [] := r
    rw [e, r']; rfl
  | .int i :: xs, ns, vs, h, ⟨v, us, e, h1, h2⟩ => by
    have h' : (numsOf xs).map (i :: ·) = some ns := h
    obtain ⟨ms, e1, e2⟩ := Option.map_eq_some_iff.mp h'
    subst e2
    have h1' : v = .int i := h1
    rw [e, h1', numsOf_rep e1 h2]
    rfl
  | .none :: _, _, _, h, _ => by cases h
  | .bool _ :: _, _, _, h, _ => by cases h
  | .str _ :: _, _, _, h, _ => by cases h
  | .list _ :: _, _, _, h, _ => by cases h
  | .tuple _ :: _, _, _, h, _ => by cases h
  | .dict _ :: _, _, _, h, _ => by cases h
theorem numsOf_len : ∀ {xs : List D} {ns : List Int}, numsOf xs = some ns → ns.length = xs.length
  | [], ns, h => by
    have h' : some ([] : List Int) = some ns := h
    rw [← Option.some.inj h']; rfl
  | .int i :: xs, ns, h => by
    have h' : (numsOf xs).map (i :: ·) = some ns := h
    obtain ⟨ms, e1, e2⟩ := Option.map_eq_some_iff.mp h'
    subst e2
    rw [List.length_cons, List.length_cons, numsOf_len e1]
  | .none :: _, _, h => by cases h
  | .bool _ :: _, _, h => by cases h
  | .str _ :: _, _, h => by cases h
  | .list _ :: _, _, h => by cases h
  | .tuple _ :: _, _, h => by cases h
  | .dict _ :: _, _, h => by cases h
theorem met_uniq (ns : List Int) : firstMet (fun i => ns.getD i 0) ns.length = uniq ns := by
  have e : (List.range ns.length).map (fun i => ns.getD i 0) = ns := by
    apply List.ext_getElem?
    intro j
    by_cases hj : j < ns.length
    · rw [List.getElem?_map, List.getElem?_range hj, List.getElem?_eq_getElem hj]
      show some (ns.getD j 0) = _
      rw [List.getD_eq_getElem?_getD, List.getElem?_eq_getElem hj]
      rfl
    · rw [List.getElem?_eq_none (by rw [List.length_map, List.length_range]; omega), List.getElem?_eq_none (by omega)]
  unfold firstMet uniq
  rw [e]
  rfl
theorem uniq_le : ∀ (ns acc : List Int), (ns.foldl addU acc).length ≤ acc.length + ns.length
  | [], acc => Nat.le_refl _
  | n :: ns, acc => by
    have h := uniq_le ns (addU acc n)
    have h2 : (addU acc n).length ≤ acc.length + 1 := by
      unfold addU
      split
      · omega
      · rw [List.length_append]; exact Nat.le_refl _
    rw [List.foldl_cons, List.length_cons]
    omega
section
variable {X : Cx} {ec : EC} {W : WX} {e : Expr} {pos p p2 q : Pos} {φ : EX}
theorem de_lensetI (hg : Gl X "len") (hm : X.mg "len" = none) (hg2 : Gl X "set") (hm2 : X.mg "set" = none) (ha : DX X ec W e φ) (hc : X.calm = true := by rfl)
    (na : starEach [e] X.env = (false, eval e X.env) :: starEach [] X.env := by rfl) : DE X ec W (.Call (.Name "len" p) [.Call (.Name "set" p2) [e] [] q] [] pos) (v1 dLenSetI φ) := by
  refine ⟨fun pins s σ H Q I h => ?_⟩
  obtain ⟨r, F, F0, B, S, h⟩ := h
  refine Call_ (ld_blt I hg hm boot_len ?_)
  refine PyProof.Rows.callWith_builtin1 (PyProof.Rows.args_cons ?_ rfl) rfl rfl
  refine Call_ (ld_blt I hg2 hm2 boot_set ?_)
  refine PyProof.Rows.callWith_type1 (PyProof.Rows.args_cons (thn (ha.run pins s σ H (fun x H1 => ∃ a vs ns, x = .ref a ∧ SqL X.K H1 a vs ∧ vs = ns.map V.int ∧ ns.length ≤ 2000 ∧ Q (.int ((uniq ns).length : Nat)) H1) I
    ⟨r, F, F0, B, S, (Thn.bind h).imp fun d F1 H1 _ g k v rv => ?_⟩) fun v s1 ⟨x, H1, I1, r1, q1⟩ => PyProof.Rows.args_nil ?_) na) na rfl
  · obtain ⟨y, ey, k⟩ := Thn.po k
    unfold dLenSetI at ey
    split at ey
    · rename_i xs
      split at ey
      · rename_i ns hn
        split at ey
        · rename_i c
          cases ey
          obtain ⟨a, vs, rfl, h1, h2⟩ := rv
          exact ⟨a, vs, ns, rfl, h1, numsOf_rep hn h2, c, k F1 H1 (Gr.refl g.i) _ rfl⟩
        · cases ey
      · cases ey
    · cases ey
  · obtain ⟨a, vs, ns, rfl, h1, e1, hn, q1⟩ := q1
    subst e1
    cases r1
    obtain ⟨its, rv, pl, hz⟩ := I1.list h1
    have hi : IntsAre its ns := intsAre_of rv
    have hsz : its.toArray.size = ns.length := by
      have := IntsAre.length hi
      rw [List.size_toArray]
      exact this
    refine PySem.call_set_list (items := its.toArray) (ns := ns) (I1.ok.hd hc) pl.isList (by simpa using hi) (by rw [hsz]; exact Nat.lt_of_le_of_lt (Nat.succ_le_succ hn) (by decide)) fun h' tk hS hk => PyProof.Rows.args_nil ?_
    rw [hsz, met_uniq] at hS
    obtain ⟨o, es, ep, t, ho, hex, hd, _, _, _, hf, he⟩ := hS
    have I2 : Inv X pins σ H1 { s1 with heap := h', toks := tk } := I1.kept fun b o e => hk b o (Heap.lt_size e) e
    have hle := uniq_le ns []
    exact call_len_set ho hex hd hf (by rw [he]; unfold uniq; simp only [List.length_nil] at hle; omega) ⟨.int ((uniq ns).length : Nat), H1, I2.tok _, ⟨_, by rw [← he]⟩, q1⟩
end
end DL
/-! xs[::-1] of a list or a tuple. -/
namespace HT
open PySem PySem.Spec PyProof.Rows
section
variable {prog : Program} {w : World} {A : Around} {E : Value → Shared → Prop} {s : Shared}
theorem sliceApplied_rev {sl : Addr} {vs : Value} {n : Nat} {Q : Int × Int × Nat → Shared → Prop} (hs : s.heap.IsSliceOf sl .none .none vs) (ps : IsPart vs (some (-1)))
    (h : Q ((n : Int) - 1, -1, n) s) : wpAny (model prog w) A (Builtin.Slice.sliceApplied (.ref sl) (pure (n : Int))) Q E s := by
  obtain ⟨os, hos, hcs, hds⟩ := id hs
  unfold Builtin.Slice.sliceApplied Builtin.Slice.sliceFields
  refine wpAny_bind (wpAny_bind (wpAny_field hos hds (x := .none) rfl (wpAny_bind (wpAny_field hos hds (x := .none) rfl (wpAny_bind (wpAny_field hos hds (x := vs) rfl (wpAny_pure ?_)))))))
  refine wpAny_bind (slicePart_ ps ?_)
  show wpAny _ _ (if ((-1 : Int) == 0) = true then _ else _) _ _ s
  rw [if_neg (by decide)]
  refine wpAny_bind (slicePart_none (wpAny_bind (slicePart_none (wpAny_bind (wpAny_pure ?_)))))
  show wpAny _ _ (match Builtin.Slice.sliceAdjust none none (-1) (n : Int) with | (lo, hi) => pure (lo, (-1 : Int), Builtin.Slice.slicePlaces lo hi (-1))) _ _ s
  have e1 : Builtin.Slice.sliceAdjust none none (-1) (n : Int) = ((n : Int) - 1, -1) := rfl
  have e2 : Builtin.Slice.slicePlaces ((n : Int) - 1) (-1) (-1) = n := by
    unfold Builtin.Slice.slicePlaces
    have h1 : ¬ ((-1 : Int) > 0) := by decide
    rw [if_neg h1]
    by_cases c : (n : Int) - 1 > -1
    · rw [if_pos c]
      have : ((n : Int) - 1 - -1 - 1) / (- -1) = (n : Int) - 1 := by
        rw [show (- -1 : Int) = 1 from rfl, Int.ediv_one]
        omega
      rw [this]
      omega
    · rw [if_neg c]
      omega
  rw [e1]
  show wpAny _ _ (pure ((n : Int) - 1, (-1 : Int), Builtin.Slice.slicePlaces ((n : Int) - 1) (-1) (-1))) _ _ s
  rw [e2]
  exact wpAny_pure h
theorem fm_congr {α β : Type} {f g : α → Option β} : ∀ {l : List α}, (∀ x ∈ l, f x = g x) → l.filterMap f = l.filterMap g
  | [], _ => rfl
  | x :: xs, h => by rw [List.filterMap_cons, List.filterMap_cons, h x List.mem_cons_self, fm_congr fun y hy => h y (List.mem_cons_of_mem _ hy)]
theorem pick_rev (xs : Array Value) : ((List.range xs.size).filterMap fun (m : Nat) => xs[((xs.size : Int) - 1 + (m : Int) * -1).toNat]?).toArray = xs.toList.reverse.toArray := by
  congr 1
  have e : ∀ m, m < xs.size → xs[((xs.size : Int) - 1 + (m : Int) * -1).toNat]? = xs.toList.reverse[m]? := fun m hm => by
    rw [List.getElem?_reverse (by rw [Array.length_toList]; exact hm), Array.length_toList, Array.getElem?_toList]
    congr 1
    omega
  have h1 : (List.range xs.size).filterMap (fun (m : Nat) => xs[((xs.size : Int) - 1 + (m : Int) * -1).toNat]?) = (List.range xs.size).filterMap fun m => xs.toList.reverse[m]? := fm_congr fun m hm => e m (List.mem_range.mp hm)
  rw [h1]
  have h2 : ∀ l : List Value, (List.range l.length).filterMap (fun m => l[m]?) = l := fun l => by
    have := PySem.W.krv_all l.toArray
    simpa using this
  have h3 := h2 xs.toList.reverse
  rw [List.length_reverse, Array.length_toList] at h3
  exact h3
theorem getItem_tuple_rev {t sl : Addr} {items : Array Value} {vs : Value} {Q : Value → Shared → Prop} (ht : IsTup s.heap t items) (hs : s.heap.IsSliceOf sl .none .none vs) (ps : IsPart vs (some (-1)))
    (h : Q (.ref s.heap.objs.size) { s with heap := s.heap.push { cls := .type "tuple", data := .seq items.toList.reverse.toArray } })
    (hsz : items.size ≤ sizeLine) : wpAny (model prog w) A (getItem (.ref t) (.ref sl)) Q E s := by
  have htake : sizeOk (.seq items.toList.reverse.toArray) := by
    show items.toList.reverse.toArray.size ≤ sizeLine
    rw [List.size_toArray, List.length_reverse, Array.length_toList]
    exact hsz
  obtain ⟨os, hos, hcs, hds⟩ := id hs
  have hTs : s.TypeIs (.ref sl) "slice" := ⟨os, hos, hcs⟩
  unfold getItem
  try with_reducible refine wpAny_holding ?_
  first | refine wpAny_bind (wpAny_pure ?_) | skip
  refine wpAny_bind (wpAny_sequenceKey ht.typeIs (by decide) ?_)
  refine wpAny_bind (wpAny_callSpecial?_slot (name := Str.ofString "__getitem__") ht.typeIs PyProof.Rows.slot_tuple_getitem
    (wpAny_call_entry PyProof.Rows.slot_tuple_getitem ht.typeIs entry_tuple_getitem ?_ (args_tuple_getitem _ _)))
  show wpAny _ _ (Builtin.Tuple.tupleItemsOf (.ref t) >>= _) _ _ s
  refine wpAny_bind (tupleItemsOf_ ht ?_)
  refine wpAny_bind (wpAny_typeOf hTs ?_)
  rw [if_pos (by decide)]
  refine wpAny_bind (sliceApplied_rev hs ps ?_)
  show wpAny _ _ (if (((items.size : Int) - 1) == 0 && (-1 : Int) == 1 && items.size == items.size) = true then _ else _) _ _ s
  have hno : ¬ ((((items.size : Int) - 1) == 0 && (-1 : Int) == 1 && items.size == items.size) = true) := by
    intro q
    rw [Bool.and_eq_true, Bool.and_eq_true] at q
    exact absurd q.1.2 (by decide)
  rw [if_neg hno, pick_rev]
  first
    | exact wpAny_bind (m := Builtin.Tuple.tupleExact _) (wpAny_newObj_type (wpAny_pure ⟨_, rfl, wpAny_pure h⟩) htake)
    | exact wpAny_bind (m := Builtin.Tuple.tupleExact _) (wpAny_newObj_type (wpAny_bind (wpAny_pure (wpAny_pure ⟨_, rfl, wpAny_pure h⟩))) htake)
    | exact wpAny_bind (wpAny_bind (m := Builtin.Tuple.tupleExact _) (wpAny_newObj_type (wpAny_pure (wpAny_pure ⟨_, rfl, wpAny_pure h⟩)) htake))
    | exact wpAny_bind (wpAny_bind (m := Builtin.Tuple.tupleExact _) (wpAny_newObj_type (wpAny_pure ⟨_, rfl, wpAny_pure h⟩) htake))
end
end HT
namespace L2
open PySem PySem.Spec PyProof.Rows
section
variable {X : Cx}
def tRevA (K : PySem.W.Frag) (te : TE) : TE := fun σ H Q => te σ H fun x H1 => (∃ a xs, x = .ref a ∧ SqL K H1 a xs ∧ ∀ p, H1 p = none → Q (.ref p) (upd H1 p (.lst xs.reverse))) ∨ ∃ a xs, x = .ref a ∧ SqT K H1 a xs ∧ ∀ p, H1 p = none → Q (.ref p) (upd H1 p (.tup xs.reverse))
theorem pe_revA {e : Expr} {te : TE} {k : Nat} {p1 p2 p3 pos : Pos} (he : PE X e te) : PE X (.Subscript e (.Slice none none (some (.UnaryOp .USub (.Constant (.int 1) k p1) p2)) p3) pos) (tRevA X.K te) := by
  refine ⟨fun pins s σ H Q I h => ?_⟩
  refine Subscript_ (thn (he.run pins s σ H _ I h) fun v s1 ⟨x, H1, I1, r1, q1⟩ => ?_)
  have hst : PO X (some (.UnaryOp .USub (.Constant (.int 1) k p1) p2)) (tPart (tUn (rU fun i => .int (-i)) (tC (.int 1)))) := po_some (pe_un un_neg pe_int)
  refine wpAny_Slice (thn (po_none.run pins s1 σ H1 (fun o H2 => o = none ∧ H2 = H1) I1 ⟨rfl, rfl⟩) fun vl s2 ⟨l, H2, I2, pl, el, e2⟩ => ?_)
  subst el e2
  refine thn (po_none.run pins s2 σ H2 (fun o H3 => o = none ∧ H3 = H2) I2 ⟨rfl, rfl⟩) fun vu s3 ⟨u, H3, I3, pu, eu, e3⟩ => ?_
  subst eu e3
  refine thn (hst.run pins s3 σ H3 (fun o H4 => o = some (-1) ∧ H4 = H3) I3 ⟨1, rfl, -1, rfl, rfl, rfl⟩) fun vs s4 ⟨o, H4, I4, ps, eo, e4⟩ => ?_
  subst eo e4
  have I5 : Inv X pins σ H4 { s4 with heap := s4.heap.push { cls := .type "slice", data := .fields #[vl, vu, vs] } } := I4.kept (t' := s4.toks) fun b ob q => Heap.get?_push_of_some _ q
  rcases q1 with ⟨a, xs, ex, hx, q⟩ | ⟨a, xs, ex, hx, q⟩
  · subst ex
    cases r1
    obtain ⟨its, r, ht, hz⟩ := I5.list hx
    have hlen := r.length
    show wpAny (model X.prog X.w) X.A (subscriptTail e (.Slice none none (some (.UnaryOp .USub (.Constant (.int 1) k p1) p2)) p3) (.ref a) (.ref s4.heap.objs.size)) (EP X pins σ Q) X.xe { s4 with heap := s4.heap.push { cls := .type "slice", data := .fields #[vl, vu, vs] } }
    refine tail_any (ops := [.ref a, .ref s4.heap.objs.size]) ht.isList.typeIs (PySem.slot_list_getitem.lookup) ?_ (by with_unfolding_all rfl)
    refine wpAny_getItem_list_slice ht.isList (Heap.IsSliceOf.new _ vl vu vs) pl pu ps (by decide) ?_ (by rw [List.size_toArray]; omega)
    rw [PySem.W.krv_pick]
    refine ⟨.ref _, _, I5.laid (t' := s4.toks) (o := .lst xs.reverse) (fun b ob q => Heap.get?_push_of_some _ q) (Nat.le_refl _) ?_, rfl, q _ (I5.hok.fresh (Nat.le_refl _))⟩
    exact ⟨by rw [List.length_reverse]; exact hz, _, 0, r.reverse, Heap.get?_push_size _ rfl⟩
  · subst ex
    cases r1
    cases pl
    cases pu
    obtain ⟨its, r, ht, hz⟩ := I5.tuple hx
    have hlen := r.length
    show wpAny (model X.prog X.w) X.A (subscriptTail e (.Slice none none (some (.UnaryOp .USub (.Constant (.int 1) k p1) p2)) p3) (.ref a) (.ref s4.heap.objs.size)) (EP X pins σ Q) X.xe { s4 with heap := s4.heap.push { cls := .type "slice", data := .fields #[.none, .none, vs] } }
    refine tail_any (ops := [.ref a, .ref s4.heap.objs.size]) ht.typeIs (PyProof.Rows.slot_tuple_getitem.lookup) ?_ (by with_unfolding_all rfl)
    refine HT.getItem_tuple_rev ht (Heap.IsSliceOf.new _ .none .none vs) ps ?_ (by rw [List.size_toArray]; omega)
    refine ⟨.ref _, _, I5.laid (t' := s4.toks) (o := .tup xs.reverse) (fun b ob q => Heap.get?_push_of_some _ q) (Nat.le_refl _) ?_, rfl, q _ (I5.hok.fresh (Nat.le_refl _))⟩
    exact ⟨by rw [List.length_reverse]; exact hz, _, r.reverse, IsTup.new _ _⟩
end
end L2
namespace DL
open PySem PySem.Spec PyProof.Rows L2
theorem RepL.reverse {K : PySem.W.Frag} {F : Hp} : ∀ {ds : List D} {vs : List V}, RepL K F ds vs → RepL K F ds.reverse vs.reverse
  | [], vs, h => by
    have e : vs = [] := h
    rw [e]
    rfl
  | d :: ds, vs, ⟨v, us, e, h1, h2⟩ => by
    rw [e, List.reverse_cons, List.reverse_cons]
    exact h2.reverse.append ⟨v, [], rfl, h1, rfl⟩
section
variable {X : Cx} {ec : EC} {W : WX} {e : Expr} {pos : Pos} {φ : EX}
theorem de_rev {k : Nat} {p1 p2 p3 : Pos} (ha : DX X ec W e φ) : DE X ec W (.Subscript e (.Slice none none (some (.UnaryOp .USub (.Constant (.int 1) k p1) p2)) p3) pos) (v1 dRev φ) := peImp (pe_revA ha) fun σ H Q ⟨r, F, F0, B, S, q⟩ => by
  refine ⟨r, F, F0, B, S, (Thn.bind q).imp fun x F1 H1 _ g1 h1 v rv => ?_⟩
  obtain ⟨d, ed, k⟩ := h1.po
  unfold dRev at ed
  split at ed
  · cases ed
    obtain ⟨a, vs, rfl, h4, h5⟩ := rv
    refine .inl ⟨a, vs, rfl, h4, fun p hp => ?_⟩
    have g' := Gr.new g1.i hp (.lst vs.reverse)
    exact k _ _ g' _ ⟨p, _, rfl, .inl (.inl upd_same), h5.reverse.mono g'.f⟩
  · cases ed
    obtain ⟨a, vs, rfl, h4, h5⟩ := rv
    refine .inr ⟨a, vs, rfl, tupT g1.i h4, fun p hp => ?_⟩
    have g' := Gr.new g1.i hp (.tup vs.reverse)
    exact k _ _ g' _ ⟨p, _, rfl, upd_same, h5.reverse.mono g'.f⟩
  · cases ed
end
end DL
/-! tuple(range(..)), xs.index(x) -/
namespace DL
open PySem PySem.Spec PyProof.Rows L2
section
variable {X : Cx} {ec : EC} {W : WX} {e b : Expr} {pos p p2 q apos : Pos} {φ ψ : EX}
theorem de_tupRg1 (hc : X.calm = true) (hg : Gl X "tuple") (hm : X.mg "tuple" = none) (hg2 : Gl X "range") (hm2 : X.mg "range" = none) (ha : DX X ec W e φ) (na : starEach [e] X.env = (false, eval e X.env) :: starEach [] X.env := by rfl)
    (nb : starEach [.Call (.Name "range" p2) [e] [] q] X.env = (false, eval (.Call (.Name "range" p2) [e] [] q) X.env) :: starEach [] X.env := by rfl) : DE X ec W (.Call (.Name "tuple" p) [.Call (.Name "range" p2) [e] [] q] [] pos) (v1 dTupRg1 φ) :=
  peImp (pe_tupRg hc hg hm (prg_1 hg2 hm2 ha na) nb) fun σ H Q ⟨r, F, F0, B, S, q⟩ => by
    refine ⟨r, F, F0, B, S, (Thn.bind q).imp fun x F1 H1 ex1 g1 h1 v rv => ?_⟩
    obtain ⟨d, ex, k⟩ := h1.po
    unfold dTupRg1 at ex
    obtain ⟨xs, ex, rfl⟩ := Option.map_eq_some_iff.mp ex
    unfold lRange1 at ex
    split at ex
    · rename_i j _
      split at ex
      · rename_i hj
        cases ex
        refine ⟨j, rv, small_ok (by decide) hj.1 (by simpa using hj.2), fun q hq => ?_⟩
        have g' := Gr.new g1.i hq (.tup (rgV 0 j))
        have h := rgV_rng (K := X.K) (F := F1) 0 j
        rw [Int.sub_zero] at h
        exact k _ _ g' (.ref q) ⟨q, _, rfl, upd_same, h.mono g'.f⟩
      · cases ex
    · cases ex
theorem de_tupRg2 (hc : X.calm = true) (hg : Gl X "tuple") (hm : X.mg "tuple" = none) (hg2 : Gl X "range") (hm2 : X.mg "range" = none) (ha : DX X ec W e φ) (hb : DX X ec W b ψ) (na : starEach [e, b] X.env = (false, eval e X.env) :: starEach [b] X.env := by rfl) (na2 : starEach [b] X.env = (false, eval b X.env) :: starEach [] X.env := by rfl)
    (hp : (backTo q (starEach [b] X.env)).any (·.1) = false := by rfl)
    (nb : starEach [.Call (.Name "range" p2) [e, b] [] q] X.env = (false, eval (.Call (.Name "range" p2) [e, b] [] q) X.env) :: starEach [] X.env := by rfl) : DE X ec W (.Call (.Name "tuple" p) [.Call (.Name "range" p2) [e, b] [] q] [] pos) (v2 dTupRg2 φ ψ) :=
  peImp (pe_tupRg hc hg hm (prg_2 hg2 hm2 ha hb na na2 hp) nb) fun σ H Q ⟨r, F, F0, B, S, q⟩ => by
    refine ⟨r, F, F0, B, S, (Thn.bind q).imp fun x F1 H1 ex1 g1 h1 v rv => ⟨r, F1, F0, B, S.grow g1, (Thn.bind h1).imp fun y F2 H2 ey g2 h2 u ru => ?_⟩⟩
    obtain ⟨d, ex, k⟩ := h2.po
    unfold dTupRg2 at ex
    obtain ⟨xs, ex, rfl⟩ := Option.map_eq_some_iff.mp ex
    unfold lRange2 at ex
    split at ex
    · rename_i i j _
      split at ex
      · rename_i hj
        cases ex
        refine ⟨i, j, rv, ru, small_ok hj.1 hj.2.1 hj.2.2, fun q hq => ?_⟩
        have g' := Gr.new g2.i hq (.tup (rgV i j))
        exact k _ _ g' (.ref q) ⟨q, _, rfl, upd_same, (rgV_rng i j).mono g'.f⟩
      · cases ex
    · cases ex
theorem find_first {ds : List D} {t : D → Bool} {j : Nat} (h : ds.findIdx? t = some j) : ∃ z, ds[j]? = some z ∧ t z = true ∧ ∀ m z', m < j → ds[m]? = some z' → t z' = false := by
  obtain ⟨hj, h1, h2⟩ := List.findIdx?_eq_some_iff_getElem.mp h
  refine ⟨ds[j], List.getElem?_eq_getElem hj, h1, fun m z' hm hz => ?_⟩
  obtain ⟨hl, rfl⟩ := List.getElem?_eq_some_iff.mp hz
  have := h2 m hm
  simpa using this
theorem de_index (hu : X.A.units + 65 < cLine) (ha : DX X ec W e φ) (hb : DX X ec W b ψ) (h1 : attributeBase e "index" X.env (eval e X.env) = eval e X.env := by rfl)
    (h2 : ((((backTo pos (starEach [b] X.env)).all fun x => !x.fst) && (backToKw pos (keywordEach [] X.env)).all fun x => x.fst.isSome) && decide (([b].length + ([] : List Keyword).length + if ([] : List Keyword).isEmpty = true then 0 else 1) < 30)) = true := by rfl) (h3 : (apos.endLine == pos.line) = true := by rfl) (h4 : starEach [b] X.env = (false, eval b X.env) :: starEach [] X.env := by rfl) (h5 : ((backTo pos (starEach [] X.env)).any fun x => x.fst) = false := by rfl) :
    DE X ec W (.Call (.Attribute e "index" apos) [b] [] pos) (vIndex φ ψ) :=
  peImp (pe_bm F.plainAttrs_list F.slot_list_index F.type_list_index (mt_indexD hu) ha (pa_cons hb pa_nil h4) h1 h2 h3 h4 h5) fun σ H Q ⟨r, F, F0, B, S, q⟩ => by
    refine ⟨r, F, F0, B, S, (Thn.bind q).imp fun x F1 H1 ex1 g1 h1 v rv => ?_⟩
    split at h1
    · rename_i ds
      refine ⟨?_, r, F1, F0, B, S.grow g1, (Thn.bind h1).imp fun y F2 H2 ey g2 h2 u ru => ?_⟩
      · obtain ⟨a, vs, rfl, h, _⟩ := rv
        exact .inl ⟨rfl, vs, h⟩
      · obtain ⟨d, ex, k⟩ := h2.po
        unfold dIndexOf at ex
        dsimp only at ex
        split at ex
        · rename_i hs
          rw [Bool.and_eq_true] at hs
          obtain ⟨j, hj, rfl⟩ := Option.map_eq_some_iff.mp ex
          obtain ⟨z, z1, z2, z3⟩ := find_first hj
          have rv2 := RepX.mono g2 rv
          obtain ⟨a, vs, rfl, _⟩ := id rv2
          exact ⟨a, u, y, ds, j, z, rfl, rfl, RepX.dp g2.i rv2 hs.1, ru.dp g2.i hs.2, hs.1, hs.2, z1, z2, z3, k F2 H2 (Gr.refl g2.i) _ rfl⟩
        · cases ex
    · exact False.elim h1
end
end DL
/-! Rules for working the functions of data out. -/
namespace DL
open PySem
/-! ### each combinator at an environment -/
section
variable {r : Env} {a b c e : EX} {l m : EL} {t u : EB} {as : List EX} {p q : SX} {i j : Nat} {x : D} {f : D → Option D} {g : D → D → Option D} {ft fu : D → D → Option Bool} {gt : D → Option Bool} {gl : D → Option (List D)} {hl : D → D → Option (List D)}
theorem e_vVar : vVar i r = (match r[i]? with | some (.d x) => ok x | some (.tg xs) => ok (.list xs) | _ => none) := (rfl)
theorem e_vRd : vRd i r = (match r[i]? with | some (.d x) => ok x | some (.own xs) => ok (.list xs) | some (.tg xs) => ok (.list xs) | _ => none) := (rfl)
theorem e_vC : vC x r = ok x := (rfl)
theorem e_v1 : v1 f a r = rb (a r) fun x => po (f x) := (rfl)
theorem e_v2 : v2 g a b r = rb (a r) fun x => rb (b r) fun y => po (g x y) := (rfl)
theorem e_c1 : c1 gt a r = rb (a r) fun x => po (gt x) := (rfl)
theorem e_c2 : c2 ft a b r = rb (a r) fun x => rb (b r) fun y => po (ft x y) := (rfl)
theorem e_l1 : l1 gl a r = rb (a r) fun x => po (gl x) := (rfl)
theorem e_l2 : l2 hl a b r = rb (a r) fun x => rb (b r) fun y => po (hl x y) := (rfl)
theorem e_vL : vL l r = rb (l r) fun xs => ok (.list xs) := (rfl)
theorem e_vB : vB t r = rb (t r) fun b => ok (.bool b) := (rfl)
theorem e_vArgs0 : vArgs [] r = ok [] := (rfl)
theorem e_vArgs : vArgs (a :: as) r = rb (a r) fun x => rb (vArgs as r) fun xs => ok (x :: xs) := (rfl)
theorem e_vTup : vTup as r = rb (vArgs as r) fun xs => ok (.tuple xs) := (rfl)
theorem e_vCall {f : List D → R D} : vCall f as r = rb (vArgs as r) f := (rfl)
theorem e_vIf : vIf t a b r = rb (t r) fun k => if k = true then a r else b r := (rfl)
theorem e_bTr : bTr a r = rb (a r) fun x => po (dTr x) := (rfl)
theorem e_bNot : bNot t r = rb (t r) fun b => ok (!b) := (rfl)
theorem e_bAnd : bAnd t u r = rb (t r) fun k => if k = true then u r else ok false := (rfl)
theorem e_bOr : bOr t u r = rb (t r) fun k => if k = true then ok true else u r := (rfl)
theorem e_bChain : bChain ft fu a b c r = rb (a r) fun x => rb (b r) fun y => rb (po (ft x y)) fun k => if k = true then rb (c r) fun z => po (fu y z) else ok false := (rfl)
theorem e_iSeq : iSeq a r = rb (a r) fun x => po (seqOf x) := (rfl)
theorem e_iEnumE : iEnumE a r = rb (a r) fun x => po (enum1 x) := (rfl)
theorem e_iRange1 : iRange1 a r = rb (a r) fun x => po (rng1 x) := (rfl)
theorem e_iRange2 : iRange2 a b r = rb (a r) fun x => rb (b r) fun y => po (rng2 x y) := (rfl)
theorem e_vCut {lo hi : Option EX} : vCut a lo hi r = rb (a r) fun x => rb (vOpt lo r) fun i => rb (vOpt hi r) fun j => po (dCut i j x) := (rfl)
theorem e_vOpt0 : vOpt none r = ok none := (rfl)
theorem e_vOpt : vOpt (some a) r = rb (a r) fun x => match x with | .int i => ok (some i) | _ => none := (rfl)
theorem e_sNx : sNx r = some (.nx r) := (rfl)
theorem e_sBk : sBk r = some (.bk r) := (rfl)
theorem e_sCt : sCt r = some (.ct r) := (rfl)
theorem e_sSeq : sSeq p q r = (match p r with | some (.nx r1) => q r1 | o => o) := (rfl)
theorem e_sSet : sSet i a r = so (a r) r fun x => some (.nx (r.set i (.d x))) := (rfl)
theorem e_sOwn : sOwn i l r = so (l r) r fun xs => some (.nx (r.set i (.own xs))) := (rfl)
theorem e_sPut {g : Tg} : sPut g a r = so (a r) r fun x => (g.put x r).map .nx := (rfl)
theorem e_sFreeze : sFreeze i r = some (.nx (frz i r)) := (rfl)
theorem e_sRet : sRet a r = so (a r) r fun x => some (.rt x) := (rfl)
theorem e_sExpr : sExpr a r = so (a r) r fun _ => some (.nx r) := (rfl)
theorem e_sIf : sIf t p q r = so (t r) r fun k => if k = true then p r else q r := (rfl)
theorem e_sApp : sApp i a r = (match r[i]? with | some (.own xs) => so (a r) r fun x => if xs.length < lim then some (.nx (r.set i (.own (xs ++ [x])))) else none | _ => none) := (rfl)
theorem e_sPar : sPar i j a b r = so (vArgs [a, b] r) r fun xs => match xs with | [x, y] => some (.nx ((r.set i (.d x)).set j (.d y))) | _ => none := (rfl)
theorem e_sSetIx : sSetIx i a b r = (match r[i]? with | some (.own xs) => so (b r) r fun x => so (a r) r fun j => (match j with | .int j => (match ixAt xs.length j with | some n => some (.nx (r.set i (.own (xs.set n x)))) | none => none) | _ => none) | _ => none) := (rfl)
theorem e_sFor {g : Tg} : sFor l g p r = so (l r) r fun xs => loopF g p xs r := (rfl)
theorem e_sErr {c : String} : sErr c r = some (.er ⟨c, none⟩ r) := (rfl)
theorem e_sTry {tab : List ((String × String) × Bool)} {hs : List (String × SX)} : sTry tab p hs r = (match p r with | some (.er e r1) => pickH tab e r1 hs | o => o) := (rfl)
theorem po_some {α : Type} (a : α) : po (some a) = ok a := (rfl)
theorem isi_int (n : String) (k : Int) : cIsi n (.int k) = some ("int" == n || (n == "int" && "int" == "bool")) := (rfl)
end
theorem put_one (i : Nat) (x : D) (r : Env) : (Tg.one i).put x r = some (r.set i (.d x)) := (rfl)
/-- a loop all of whose turns go on -/
theorem loop_nx {g : Tg} {b : SX} (I : Nat → Env → Prop) : ∀ (xs : List D) (n : Nat) (r : Env), I n r →
    (∀ k x r, xs[k]? = some x → I (n + k) r → ∃ r1 r2, g.put x r = some r1 ∧ b r1 = some (.nx r2) ∧ I (n + k + 1) r2) → ∃ r', loopF g b xs r = some (.nx r') ∧ I (n + xs.length) r'
  | [], n, r, h, _ => ⟨r, rfl, h⟩
  | x :: xs, n, r, h, st => by
    obtain ⟨r1, r2, h1, h2, h3⟩ := st 0 x r rfl h
    obtain ⟨r', h4, h5⟩ := loop_nx I xs (n + 1) r2 h3 fun k y r hk hr => by
      have := st (k + 1) y r hk (by rw [show n + (k + 1) = n + 1 + k by omega]; exact hr)
      rw [show n + (k + 1) = n + 1 + k by omega] at this
      exact this
    refine ⟨r', ?_, by rw [List.length_cons, show n + (xs.length + 1) = n + 1 + xs.length by omega]; exact h5⟩
    unfold loopF
    rw [h1]
    dsimp only
    rw [h2]
    exact h4
/-- the list of what is kept -/
theorem comp_filter {i : Nat} {t : EB} {e : EX} {r : Env} {T : D → Bool} {G : D → D} : ∀ (xs : List D), (∀ x ∈ xs, t (r.set i (.d x)) = ok (T x)) → (∀ x ∈ xs, T x = true → e (r.set i (.d x)) = ok (G x)) → compL (.one i) t e r xs = ok ((xs.filter T).map G)
  | [], _, _ => rfl
  | x :: xs, ht, he => by
    have ih := comp_filter xs (fun y hy => ht y (List.mem_cons_of_mem _ hy)) (fun y hy => he y (List.mem_cons_of_mem _ hy))
    unfold compL
    rw [put_one]
    dsimp only
    rw [ht x List.mem_cons_self, rb_ok, List.filter_cons]
    split
    · rename_i h
      rw [he x List.mem_cons_self h, rb_ok, ih, rb_ok, List.map_cons]
    · exact ih
theorem comp_map {i : Nat} {e : EX} {r : Env} {G : D → D} (xs : List D) (he : ∀ x ∈ xs, e (r.set i (.d x)) = ok (G x)) : compL (.one i) bYes e r xs = ok (xs.map G) := by
  have h := comp_filter (i := i) (t := bYes) (e := e) (r := r) (T := fun _ => true) (G := G) xs (fun _ _ => rfl) fun x hx _ => he x hx
  rw [h, List.filter_eq_self.mpr fun _ _ => rfl]
theorem lcomp_map {it : EL} {i : Nat} {e : EX} {r : Env} {xs : List D} (G : D → D) (hi : it r = ok xs) (hl : xs.length ≤ lim) (he : ∀ x ∈ xs, e ((r.set i .un).set i (.d x)) = ok (G x)) : lComp it (.one i) bYes e r = ok (xs.map G) := by
  unfold lComp
  rw [hi, rb_ok, if_pos hl]
  show noEr (compL (.one i) bYes e (r.set i .un) xs) = _
  rw [comp_map xs he]
  rfl
theorem lcomp_filter {it : EL} {i : Nat} {t : EB} {e : EX} {r : Env} {xs : List D} (T : D → Bool) (G : D → D) (hi : it r = ok xs) (hl : xs.length ≤ lim) (ht : ∀ x ∈ xs, t ((r.set i .un).set i (.d x)) = ok (T x)) (he : ∀ x ∈ xs, T x = true → e ((r.set i .un).set i (.d x)) = ok (G x)) : lComp it (.one i) t e r = ok ((xs.filter T).map G) := by
  unfold lComp
  rw [hi, rb_ok, if_pos hl]
  show noEr (compL (.one i) t e (r.set i .un) xs) = _
  rw [comp_filter xs ht he]
  rfl
theorem bools_map (xs : List D) (f : D → Bool) : bools (xs.map fun x => .bool (f x)) = some (xs.map f) := by
  induction xs with
  | nil => rfl
  | cons x xs ih => rw [List.map_cons, List.map_cons]; unfold bools; rw [ih]; rfl
theorem cAll_map (xs : List D) (f : D → Bool) : cAll (.list (xs.map fun x => .bool (f x))) = some (xs.all f) := by
  show (match bools (xs.map fun x => .bool (f x)) with | some bs => some (bs.all id) | none => none) = _
  rw [bools_map]
  dsimp only
  rw [List.all_map]
  rfl
theorem eq_int (i j : Int) : cEq (.int i) (.int j) = some (i == j) := (rfl)
/-! ### numbers and tuples -/
def isNum (lo hi : Int) : D → Bool
  | .int i => decide (lo ≤ i) && decide (i ≤ hi)
  | _ => false
def isTup (n : Int) : D → Bool
  | .tuple xs => ((xs.length : Nat) : Int) == n
  | _ => false
theorem isNum_int {lo hi : Int} {d : D} (h : isNum lo hi d = true) : ∃ i, d = .int i ∧ lo ≤ i ∧ i ≤ hi := by
  cases d with
  | int i => simp only [isNum, Bool.and_eq_true, decide_eq_true_eq] at h; exact ⟨i, rfl, h⟩
  | _ => cases h
/-! ### each once -/
def fresh : List D → List D → Bool
  | _, [] => true
  | seen, x :: xs => !(seen.any fun z => PyData.eqv z x) && fresh (seen ++ [x]) xs
theorem unlike_len : ∀ (xs seen : List D), (unlike seen xs).length ≤ seen.length + xs.length ∧ (((unlike seen xs).length == seen.length + xs.length) = fresh seen xs)
  | [], seen => by simp [unlike, fresh]
  | x :: xs, seen => by
    unfold unlike fresh
    split
    · rename_i h
      obtain ⟨h1, h2⟩ := unlike_len xs seen
      refine ⟨by rw [List.length_cons]; omega, ?_⟩
      rw [h]
      have : (unlike seen xs).length ≠ seen.length + (x :: xs).length := by rw [List.length_cons]; omega
      simpa using this
    · rename_i h
      obtain ⟨h1, h2⟩ := unlike_len xs (seen ++ [x])
      have e : seen.length + (x :: xs).length = (seen ++ [x]).length + xs.length := by simp only [List.length_append, List.length_cons, List.length_nil]; omega
      rw [e, h2]
      refine ⟨h1, ?_⟩
      simp [h]
theorem fresh_iff : ∀ (xs seen : List D), fresh seen xs = true ↔ ∀ k x, xs[k]? = some x → ((seen ++ xs.take k).any fun z => PyData.eqv z x) = false
  | [], seen => by simp [fresh]
  | x :: xs, seen => by
    unfold fresh
    rw [Bool.and_eq_true, fresh_iff xs (seen ++ [x])]
    constructor
    · rintro ⟨h1, h2⟩ k y hk
      cases k with
      | zero =>
        cases hk
        simpa using h1
      | succ k =>
        have := h2 k y hk
        simpa using this
    · intro h
      refine ⟨?_, fun k y hk => ?_⟩
      · have := h 0 x rfl
        simpa using this
      · have := h (k + 1) y hk
        simpa using this
theorem fresh_snoc {xs : List D} {x : D} (h : fresh [] xs = true) (hx : (xs.any fun z => PyData.eqv z x) = false) : fresh [] (xs ++ [x]) = true := by
  rw [fresh_iff] at h ⊢
  intro k y hk
  rcases Nat.lt_trichotomy k xs.length with c | c | c
  · rw [List.getElem?_append_left c] at hk
    rw [List.take_append_of_le_length (Nat.le_of_lt c)]
    exact h k y hk
  · subst c
    rw [List.getElem?_append_right (Nat.le_refl _), Nat.sub_self] at hk
    cases hk
    rw [List.take_left']
    · exact hx
    · rfl
  · rw [List.getElem?_eq_none (by rw [List.length_append]; exact c)] at hk
    cases hk
/-! ### the size of data: how deep, how many parts -/
def lv : Nat → D → Bool
  | 0, .list _ => false
  | 0, .tuple _ => false
  | n + 1, .list xs => xs.all (lv n)
  | n + 1, .tuple xs => xs.all (lv n)
  | _, _ => true
theorem lv_up : ∀ (n m : Nat) {d : D}, n ≤ m → lv n d = true → lv m d = true := by
  intro n
  induction n with
  | zero => intro m d _ h; cases d <;> cases m <;> first | rfl | cases h
  | succ n ih =>
    intro m d hm h
    obtain ⟨m, rfl⟩ : ∃ k, m = k + 1 := ⟨m - 1, by omega⟩
    cases d with
    | list xs => exact List.all_eq_true.mpr fun x hx => ih m (by omega) (List.all_eq_true.mp (show xs.all (lv n) = true from h) x hx)
    | tuple xs => exact List.all_eq_true.mpr fun x hx => ih m (by omega) (List.all_eq_true.mp (show xs.all (lv n) = true from h) x hx)
    | _ => rfl
mutual
def wt : D → Nat
  | .list xs => 1 + wts xs
  | .tuple xs => 1 + wts xs
  | _ => 1
def wts : List D → Nat
  | [] => 0
  | x :: xs => wt x + wts xs
end
theorem wts_app (xs ys : List D) : wts (xs ++ ys) = wts xs + wts ys := by
  induction xs with
  | nil => simp [wts]
  | cons x xs ih => rw [List.cons_append, wts, wts, ih]; omega
theorem wt_pos (d : D) : 1 ≤ wt d := by cases d <;> simp [wt]
theorem wts_len (xs : List D) : xs.length ≤ wts xs := by
  induction xs with
  | nil => exact Nat.zero_le _
  | cons x xs ih => have := wt_pos x; rw [wts, List.length_cons]; omega
theorem wts_take (xs : List D) (n : Nat) : wts (xs.take n) + wts (xs.drop n) = wts xs := by rw [← wts_app, List.take_append_drop]
/-! ### operations on numbers -/
theorem int_int (i : Int) : dInt (.int i) = some (.int i) := (rfl)
theorem add_int (i j : Int) : dAdd (.int i) (.int j) = some (.int (i + j)) := (rfl)
theorem sub_int (i j : Int) : dSub (.int i) (.int j) = some (.int (i - j)) := (rfl)
theorem neg_int (i : Int) : dNeg (.int i) = some (.int (-i)) := (rfl)
theorem lt_int (i j : Int) : cLt (.int i) (.int j) = some (decide (i < j)) := (rfl)
theorem le_int (i j : Int) : cLe (.int i) (.int j) = some (decide (i ≤ j)) := (rfl)
theorem gt_int (i j : Int) : cGt (.int i) (.int j) = some (decide (j < i)) := (rfl)
theorem ge_int (i j : Int) : cGe (.int i) (.int j) = some (decide (j ≤ i)) := (rfl)
theorem min_int (i j : Int) : dMin (.int i) (.int j) = some (.int (if j < i then j else i)) := (rfl)
theorem max_int (i j : Int) : dMax (.int i) (.int j) = some (.int (if j > i then j else i)) := (rfl)
theorem ne_int (i j : Int) : cNe (.int i) (.int j) = some (!(i == j)) := (rfl)
theorem mod_int (i j : Int) (h : 0 < j) : dMod (.int i) (.int j) = some (.int (i % j)) := if_pos h
theorem div_int (i j : Int) (h : 0 < j) (h2 : j < 1073741824) : dDiv (.int i) (.int j) = some (.int (i / j)) := if_pos ⟨h, h2⟩
theorem mulL (i j : Int) (h : small64 i = true) : dMul (.int i) (.int j) = some (.int (i * j)) := if_pos (by rw [h]; rfl)
theorem mulR (i j : Int) (h : small64 j = true) : dMul (.int i) (.int j) = some (.int (i * j)) := if_pos (by rw [h, Bool.or_true])
theorem small_mod (i m : Int) (h : 0 < m) (h2 : m < 18446744073709551616) : small64 (i % m) = true := by
  have h3 := Int.emod_nonneg i (Int.ne_of_gt h)
  have h4 := Int.emod_lt_of_pos i h
  have h5 : -(2 ^ 64 : Int) < i % m := by omega
  have h6 : i % m < (2 ^ 64 : Int) := by omega
  simp only [small64, h5, h6, decide_true, Bool.and_self]
theorem small_of (i : Int) (h1 : -18446744073709551616 < i) (h2 : i < 18446744073709551616) : small64 i = true := by
  have h5 : -(2 ^ 64 : Int) < i := by omega
  have h6 : i < (2 ^ 64 : Int) := by omega
  simp only [small64, h5, h6, decide_true, Bool.and_self]
theorem len_list (xs : List D) : dLen (.list xs) = some (.int (xs.length : Nat)) := (rfl)
theorem len_tup (xs : List D) : dLen (.tuple xs) = some (.int (xs.length : Nat)) := (rfl)
theorem enum_tup (xs : List D) : enum1 (.tuple xs) = some (enumL 0 xs) := (rfl)
theorem enum_list (xs : List D) : enum1 (.list xs) = some (enumL 0 xs) := (rfl)
theorem seq_list (xs : List D) : seqOf (.list xs) = some xs := (rfl)
theorem seq_tup (xs : List D) : seqOf (.tuple xs) = some xs := (rfl)
theorem cut_list (lo hi : Option Int) (xs : List D) : dCut lo hi (.list xs) = some (.list (cutD xs lo hi)) := (rfl)
theorem cut_tup (lo hi : Option Int) (xs : List D) : dCut lo hi (.tuple xs) = some (.tuple (cutD xs lo hi)) := (rfl)
theorem tup_list (xs : List D) : dTup (.list xs) = some (.tuple xs) := (rfl)
theorem add_list (xs ys : List D) (h : (xs ++ ys).length ≤ lim) : dAdd (.list xs) (.list ys) = some (.list (xs ++ ys)) := if_pos h
theorem add_tup (xs ys : List D) (h : (xs ++ ys).length ≤ lim) : dAdd (.tuple xs) (.tuple ys) = some (.tuple (xs ++ ys)) := if_pos h
theorem tr_bool (b : Bool) : dTr (.bool b) = some b := (rfl)
/-! ### places -/
theorem at_nat (xs : List D) (k : Nat) : atD xs (k : Nat) = xs[k]? := by
  unfold atD ixAt
  by_cases h : k < xs.length
  · have h' : ((k : Nat) : Int) < ((xs.length : Nat) : Int) := by omega
    have h0 : (0 : Int) ≤ ((k : Nat) : Int) := by omega
    simp [h, List.getElem?_eq_getElem h]
  · have h0 : (0 : Int) ≤ ((k : Nat) : Int) := by omega
    simp [h]
theorem ixl (xs : List D) (k : Nat) : dIx (.list xs) (.int (k : Nat)) = xs[k]? := at_nat xs k
theorem ixt (xs : List D) (k : Nat) : dIx (.tuple xs) (.int (k : Nat)) = xs[k]? := at_nat xs k
theorem ix_mem (xs : List D) (v : Int) (h0 : 0 ≤ v) (h : v < (xs.length : Nat)) : ∃ d ∈ xs, dIx (.list xs) (.int v) = some d := by
  obtain ⟨k, rfl⟩ : ∃ k : Nat, v = k := ⟨v.toNat, by omega⟩
  have hk : k < xs.length := by omega
  exact ⟨xs[k], List.getElem_mem hk, by rw [ixl, List.getElem?_eq_getElem hk]⟩
theorem cutD_sub {xs : List D} {lo hi : Option Int} {x : D} (h : x ∈ cutD xs lo hi) : x ∈ xs := List.mem_of_mem_drop (List.mem_of_mem_take h)
theorem wts_cut (xs : List D) (lo hi : Option Int) : wts (cutD xs lo hi) ≤ wts xs := by
  have h1 := wts_take xs (cutAt xs.length 0 lo)
  have h2 := wts_take (xs.drop (cutAt xs.length 0 lo)) (cutAt xs.length xs.length hi - cutAt xs.length 0 lo)
  unfold cutD
  omega
theorem cut_len (xs : List D) (lo hi : Option Int) : (cutD xs lo hi).length ≤ xs.length := by
  unfold cutD
  rw [List.length_take, List.length_drop]
  omega
theorem cut_from1 (x : D) (xs : List D) (hi : Option Int) : (cutD (x :: xs) (some 1) hi).length ≤ xs.length := by
  have : cutAt (x :: xs).length 0 (some 1) = 1 := by
    unfold cutAt
    simp only [List.length_cons]
    rw [if_neg (by omega)]
    omega
  unfold cutD
  rw [this, List.length_take, List.length_drop, List.length_cons]
  omega
theorem cut_to (xs : List D) (k : Nat) (h : k ≤ xs.length) : cutD xs none (some ((k : Nat) : Int)) = xs.take k := by
  have h0 : ¬ ((k : Nat) : Int) < 0 := by omega
  have : cutAt xs.length xs.length (some ((k : Nat) : Int)) = k := by
    unfold cutAt
    dsimp only
    rw [if_neg h0]
    omega
  unfold cutD
  rw [this]
  rfl
theorem cut_from (xs : List D) (k : Nat) (h : k ≤ xs.length) : cutD xs (some ((k : Nat) : Int)) none = xs.drop k := by
  have h0 : ¬ ((k : Nat) : Int) < 0 := by omega
  have : cutAt xs.length 0 (some ((k : Nat) : Int)) = k := by
    unfold cutAt
    dsimp only
    rw [if_neg h0]
    omega
  unfold cutD
  rw [this]
  show (xs.drop k).take (xs.length - k) = _
  rw [List.take_of_length_le (by rw [List.length_drop]; exact Nat.le_refl _)]
theorem rng_at (lo : Int) (n k : Nat) (h : k < n) : (rng lo n)[k]? = some (.int (lo + k)) := by
  unfold rng
  rw [List.getElem?_map, List.getElem?_range h]
  rfl
theorem rng_size (lo : Int) (n : Nat) : (rng lo n).length = n := by
  unfold rng
  rw [List.length_map, List.length_range]
theorem rng_mem {n : Nat} {x : D} (h : x ∈ rng 0 n) : ∃ k : Nat, k < n ∧ x = .int (k : Nat) := by
  unfold rng at h
  obtain ⟨k, hk, e⟩ := List.mem_map.mp h
  exact ⟨k, List.mem_range.mp hk, by rw [← e]; simp⟩
theorem small_nat {n : Nat} (h : n ≤ lim) : small62 ((n : Nat) : Int) = true := by
  have h1 : -(2 ^ 62 : Int) ≤ ((n : Nat) : Int) := by omega
  have h2 : ((n : Nat) : Int) < 2 ^ 62 := by have : lim = 16777216 := rfl; omega
  simp only [small62, h1, h2, decide_true, Bool.and_self]
theorem rng1_nat {n : Nat} (h : n ≤ lim) : rng1 (.int (n : Nat)) = some (rng 0 n) := by simp only [rng1, small_nat h, if_true, Int.toNat_natCast]
theorem lrng1_nat {n : Nat} (h : n ≤ lim) : lRange1 (.int (n : Nat)) = some (rng 0 n) := by simp only [lRange1, small_nat h, Int.toNat_natCast, h, and_self, if_true]
theorem loop_out {g : Tg} {b : SX} {xs : List D} {r : DL.Env} {L : Option Out} (hL : loopF g b xs r = L) (I : Nat → DL.Env → Prop) (h0 : I 0 r)
    (st : ∀ k x r, xs[k]? = some x → I k r → ∃ r1 r2, g.put x r = some r1 ∧ b r1 = some (.nx r2) ∧ I (k + 1) r2) : ∃ r', L = some (.nx r') ∧ I xs.length r' := by
  obtain ⟨r', h1, h2⟩ := loop_nx (g := g) (b := b) I xs 0 r h0 (fun k x r hx hI => by
    rw [Nat.zero_add] at hI ⊢
    exact st k x r hx hI)
  rw [Nat.zero_add] at h2
  exact ⟨r', hL ▸ h1, h2⟩
theorem enum_len : ∀ (xs : List D) (k : Nat), (enumL k xs).length = xs.length
  | [], _ => rfl
  | x :: xs, k => by rw [enumL, List.length_cons, List.length_cons, enum_len xs]
theorem rng_cons (lo : Int) (n : Nat) : rng lo (n + 1) = .int lo :: rng (lo + 1) n := by
  unfold rng
  rw [List.range_succ_eq_map, List.map_cons, List.map_map]
  congr 1
  · simp
  · refine List.map_congr_left fun k _ => ?_
    simp only [Function.comp]
    rw [show lo + ((k + 1 : Nat) : Int) = lo + 1 + (k : Int) by omega]
/-- over enumerate(..), the numbers kept -/
theorem comp_enum {i j : Nat} {t : EB} {e : EX} {r : DL.Env} {T : D → Bool} : ∀ (xs : List D) (n : Nat),
    (∀ k x, xs[k]? = some x → t ((r.set i (.d (.int ((n + k : Nat) : Int)))).set j (.d x)) = ok (T (.int ((n + k : Nat) : Int)))) →
    (∀ k x, xs[k]? = some x → e ((r.set i (.d (.int ((n + k : Nat) : Int)))).set j (.d x)) = ok (.int ((n + k : Nat) : Int))) → compL (.many [i, j]) t e r (enumL n xs) = ok ((rng (n : Nat) xs.length).filter T)
  | [], n, _, _ => rfl
  | x :: xs, n, ht, he => by
    have ih := comp_enum (i := i) (j := j) (t := t) (e := e) (r := r) (T := T) xs (n + 1) (fun k y hk => by
      have := ht (k + 1) y hk
      rw [show n + (k + 1) = n + 1 + k by omega] at this
      exact this) (fun k y hk => by
      have := he (k + 1) y hk
      rw [show n + (k + 1) = n + 1 + k by omega] at this
      exact this)
    have h0 := ht 0 x rfl
    have h1 := he 0 x rfl
    rw [Nat.add_zero] at h0 h1
    rw [enumL]
    show (match (Tg.many [i, j]).put (.tuple [.int n, x]) r with | none => none | some r1 => rb (t r1) fun k => if k = true then rb (e r1) fun y => rb (compL (.many [i, j]) t e r (enumL (n + 1) xs)) fun ys => ok (y :: ys) else compL (.many [i, j]) t e r (enumL (n + 1) xs)) = _
    have hp : (Tg.many [i, j]).put (.tuple [.int n, x]) r = some ((r.set i (.d (.int n))).set j (.d x)) := rfl
    rw [hp]
    dsimp only
    rw [h0, rb_ok, ih, List.length_cons, rng_cons, List.filter_cons]
    split
    · rw [h1, rb_ok, rb_ok]
      rfl
    · rfl
/-- whole numbers, one from each -/
theorem comp_ints {g : Tg} {e : EX} {r : DL.Env} : ∀ (xs : List D), (∀ x ∈ xs, ∃ r1 i, g.put x r = some r1 ∧ e r1 = ok (.int i)) → ∃ ns : List Int, compL g bYes e r xs = ok (ns.map PyData.int) ∧ ns.length = xs.length
  | [], _ => ⟨[], rfl, rfl⟩
  | x :: xs, h => by
    obtain ⟨ns, h1, h2⟩ := comp_ints xs fun y hy => h y (List.mem_cons_of_mem _ hy)
    obtain ⟨r1, i, h3, h4⟩ := h x List.mem_cons_self
    refine ⟨i :: ns, ?_, by rw [List.length_cons, List.length_cons, h2]⟩
    unfold compL
    rw [h3]
    dsimp only
    show rb (ok true) _ = _
    rw [rb_ok, if_pos rfl, h4, rb_ok, h1, rb_ok]
    rfl
theorem lcomp_ints {it : EL} {i : Nat} {e : EX} {r : DL.Env} {xs : List D} (hi : it r = ok xs) (hl : xs.length ≤ lim) (he : ∀ x ∈ xs, ∃ k, e ((r.set i .un).set i (.d x)) = ok (.int k)) : ∃ ns : List Int, lComp it (.one i) bYes e r = ok (ns.map PyData.int) ∧ ns.length = xs.length := by
  obtain ⟨ns, h1, h2⟩ := comp_ints (g := .one i) (e := e) (r := r.set i .un) xs fun x hx => by
    obtain ⟨k, hk⟩ := he x hx
    exact ⟨_, k, rfl, hk⟩
  refine ⟨ns, ?_, h2⟩
  unfold lComp
  rw [hi, rb_ok, if_pos hl]
  show noEr (compL (.one i) bYes e (r.set i .un) xs) = _
  rw [h1]
  rfl
/-- each the parent of its node -/
def pOk : Nat → List D → Bool
  | _, [] => true
  | k, x :: xs => isNum (-1) ((k : Nat) - 1) x && pOk (k + 1) xs
theorem comp_pOk {i j : Nat} {e : EX} {r : DL.Env} : ∀ (xs : List D) (n : Nat), (∀ k x, xs[k]? = some x → e ((r.set i (.d (.int ((n + k : Nat) : Int)))).set j (.d x)) = ok (.bool (isNum (-1) (((n + k : Nat) : Int) - 1) x))) →
    ∃ L bs, compL (.many [i, j]) bYes e r (enumL n xs) = ok L ∧ bools L = some bs ∧ bs.all id = pOk n xs
  | [], n, _ => ⟨[], [], rfl, rfl, rfl⟩
  | x :: xs, n, he => by
    obtain ⟨L, bs, h1, h2, h3⟩ := comp_pOk (i := i) (j := j) (e := e) (r := r) xs (n + 1) (fun k y hk => by
      have := he (k + 1) y hk
      rw [show n + (k + 1) = n + 1 + k by omega] at this
      exact this)
    have h0 := he 0 x rfl
    rw [Nat.add_zero] at h0
    refine ⟨.bool (isNum (-1) ((n : Nat) - 1) x) :: L, isNum (-1) ((n : Nat) - 1) x :: bs, ?_, ?_, ?_⟩
    · rw [enumL]
      show (match (Tg.many [i, j]).put (.tuple [.int n, x]) r with | none => none | some r1 => rb (bYes r1) fun k => if k = true then rb (e r1) fun y => rb (compL (.many [i, j]) bYes e r (enumL (n + 1) xs)) fun ys => ok (y :: ys) else compL (.many [i, j]) bYes e r (enumL (n + 1) xs)) = _
      have hp : (Tg.many [i, j]).put (.tuple [.int n, x]) r = some ((r.set i (.d (.int n))).set j (.d x)) := rfl
      rw [hp]
      dsimp only
      show rb (ok true) _ = _
      rw [rb_ok, if_pos rfl, h0, rb_ok, h1, rb_ok]
    · unfold bools
      rw [h2]
      rfl
    · rw [List.all_cons, h3]
      rfl
end DL
/-! The defs of the text as functions of data. Made by wip/tools/gen.py from the program's own text. -/
namespace K24
open PySem DL
def fuel : Nat := 1000000000
def tabl : List ((String × String) × Bool) := []
/-! is_integer(thing): thing 0 -/
def b_is_integer : SX := (sRet (vB (bAnd (c1 (cIsi "int") (vVar 0)) (bNot (c1 (cIsi "bool") (vVar 0))))))
def f_is_integer : List D → R D := runD 1 1 b_is_integer
/-! is_integer_from(thing, low, high): thing 0, low 1, high 2 -/
def b_is_integer_from : SX := (sRet (vB (bAnd (bTr (vCall f_is_integer [(vVar 0)])) (bChain cLe cLe (vVar 1) (vVar 0) (vVar 2)))))
def f_is_integer_from : List D → R D := runD 3 3 b_is_integer_from
/-! is_number_below(thing, limit): thing 0, limit 1 -/
def b_is_number_below : SX := (sRet (vCall f_is_integer_from [(vVar 0), (vC (.int 0)), (v2 dSub (vVar 1) (vC (.int 1)))]))
def f_is_number_below : List D → R D := runD 2 2 b_is_number_below
/-! is_tuple_of(thing, length): thing 0, length 1 -/
def b_is_tuple_of : SX := (sRet (vB (bAnd (c1 (cIsi "tuple") (vVar 0)) (c2 cEq (v1 dLen (vVar 0)) (vVar 1)))))
def f_is_tuple_of : List D → R D := runD 2 2 b_is_tuple_of
/-! are_numbers_below(things, limit): things 0, limit 1, thing 2 -/
def b_are_numbers_below : SX := (sRet (vB (c1 cAll (vL (lComp (iSeq (vVar 0)) (.one 2) bYes (vCall f_is_number_below [(vVar 2), (vVar 1)]))))))
def f_are_numbers_below : List D → R D := runD 3 2 b_are_numbers_below
/-! is_rule(n, thing): n 0, thing 1, above 2, own 3, new 4, signal 5 -/
def b_is_rule : SX := (sSeq (sIf (bNot (bTr (vCall f_is_tuple_of [(vVar 1), (vC (.int 4))]))) (sRet (vC (.bool false))) sNx) (sSeq (sPut (.many [2, 3, 4, 5]) (vVar 1)) (sSeq (sIf (bOr (bNot (bTr (vCall f_are_numbers_below [(vTup [(vVar 2), (vVar 3), (vVar 4)]), (vVar 0)]))) (c2 cEq (vVar 3) (vVar 4))) (sRet (vC (.bool false))) sNx) (sRet (vB (bAnd (bTr (vCall f_is_tuple_of [(vVar 5), (vVar 0)])) (bTr (vCall f_are_numbers_below [(vVar 5), (vVar 0)]))))))))
def f_is_rule : List D → R D := runD 6 2 b_is_rule
/-! is_book(thing): thing 0, n 1, rules 2, rule 3 -/
def b_is_book : SX := (sSeq (sIf (bNot (bTr (vCall f_is_tuple_of [(vVar 0), (vC (.int 2))]))) (sRet (vC (.bool false))) sNx) (sSeq (sPut (.many [1, 2]) (vVar 0)) (sSeq (sIf (bNot (bTr (vCall f_is_integer_from [(vVar 1), (vC (.int 1)), (vC (.int (4)))]))) (sRet (vC (.bool false))) sNx) (sSeq (sIf (bOr (bNot (c1 (cIsi "tuple") (vVar 2))) (c2 cGt (v1 dLen (vVar 2)) (vC (.int (12))))) (sRet (vC (.bool false))) sNx) (sSeq (sIf (bNot (c1 cAll (vL (lComp (iSeq (vVar 2)) (.one 3) bYes (vCall f_is_rule [(vVar 1), (vVar 3)]))))) (sRet (vC (.bool false))) sNx) (sRet (vB (c2 cEq (v1 dLenSet (vVar 2)) (v1 dLen (vVar 2))))))))))
def f_is_book : List D → R D := runD 4 1 b_is_book
/-! check_book(thing): thing 0 -/
def b_check_book : SX := (sIf (bNot (bTr (vCall f_is_book [(vVar 0)]))) (sErr "BadBook") sNx)
def f_check_book : List D → R D := runD 1 1 b_check_book
/-! check_state(book, thing): book 0, thing 1 -/
def b_check_state : SX := (sIf (bNot (bTr (vCall f_is_number_below [(vVar 1), (v2 dIx (vVar 0) (vC (.int 0)))]))) (sErr "BadState") sNx)
def f_check_state : List D → R D := runD 2 2 b_check_state
/-! fitting_rules(book, above, own): book 0, above 1, own 2, number 3, rule 4 -/
def b_fitting_rules : SX := (sRet (vL (lComp (iEnumE (v2 dIx (vVar 0) (vC (.int 1)))) (.many [3, 4]) (bAnd (c2 cEq (v2 dIx (vVar 4) (vC (.int 0))) (vVar 1)) (c2 cEq (v2 dIx (vVar 4) (vC (.int 1))) (vVar 2))) (vVar 3))))
def f_fitting_rules : List D → R D := runD 5 3 b_fitting_rules
/-! rules_for(book, above, own): book 0, above 1, own 2 -/
def b_rules_for : SX := (sSeq (sExpr (vCall f_check_book [(vVar 0)])) (sSeq (sExpr (vCall f_check_state [(vVar 0), (vVar 1)])) (sSeq (sExpr (vCall f_check_state [(vVar 0), (vVar 2)])) (sRet (vCall f_fitting_rules [(vVar 0), (vVar 1), (vVar 2)])))))
def f_rules_for : List D → R D := runD 3 3 b_rules_for
/-! ranks_under(book, above): book 0, above 1, n 2, rules 3, ranks 4, _ 5, own 6, rule 7 -/
def b_ranks_under : SX := (sSeq (sPut (.many [2, 3]) (vVar 0)) (sSeq (sSet 4 (vL (l2 lRep (vL (vArgs [(vC (.int 0))])) (vVar 2)))) (sSeq (sFor (iRange1 (vVar 2)) (.one 5) (sSet 4 (vL (lComp (iRange1 (vVar 2)) (.one 6) bYes (v1 (dMaxD 0) (vL (lComp (iSeq (vVar 3)) (.one 7) (bAnd (c2 cEq (v2 dIx (vVar 7) (vC (.int 0))) (vVar 1)) (c2 cEq (v2 dIx (vVar 7) (vC (.int 1))) (vVar 6))) (v2 dAdd (v2 dIx (vVar 4) (v2 dIx (vVar 7) (vC (.int 2)))) (vC (.int 1)))))))))) (sRet (vVar 4)))))
def f_ranks_under : List D → R D := runD 8 2 b_ranks_under
/-! has_ring_in(ranks): ranks 0 -/
def b_has_ring_in : SX := (sRet (vB (c2 cIn (v1 dLen (vVar 0)) (vVar 0))))
def f_has_ring_in : List D → R D := runD 1 1 b_has_ring_in
/-! has_ring(book): book 0, above 1 -/
def b_has_ring : SX := (sRet (vB (c1 cAny (vL (lComp (iRange1 (v2 dIx (vVar 0) (vC (.int 0)))) (.one 1) bYes (vCall f_has_ring_in [(vCall f_ranks_under [(vVar 0), (vVar 1)])]))))))
def f_has_ring : List D → R D := runD 2 1 b_has_ring
/-! check_ends(book): book 0 -/
def b_check_ends : SX := (sIf (bTr (vCall f_has_ring [(vVar 0)])) (sErr "NoEnd") sNx)
def f_check_ends : List D → R D := runD 1 1 b_check_ends
/-! check_states(book, states): book 0, states 1, state 2 -/
def b_check_states : SX := (sSeq (sExpr (vCall f_check_book [(vVar 0)])) (sFor (iSeq (vVar 1)) (.one 2) (sExpr (vCall f_check_state [(vVar 0), (vVar 2)]))))
def f_check_states : List D → R D := runD 3 2 b_check_states
/-! signal_of(book, numbers): book 0, numbers 1, signal 2, number 3, state 4 -/
def b_signal_of : SX := (sSeq (sSet 2 (vL (l1 lRange1 (v2 dIx (vVar 0) (vC (.int 0)))))) (sSeq (sFor (iSeq (vVar 1)) (.one 3) (sSet 2 (vL (lComp (iSeq (vVar 2)) (.one 4) bYes (v2 dIx (v2 dIx (v2 dIx (v2 dIx (vVar 0) (vC (.int 1))) (vVar 3)) (vC (.int 3))) (vVar 4)))))) (sRet (v1 dTup (vVar 2)))))
def f_signal_of : List D → R D := runD 5 2 b_signal_of
/-! way_result(book, above, own, numbers): book 0, above 1, own 2, numbers 3, place 4, number 5 -/
def b_way_result : SX := (sSeq (sExpr (vCall f_check_states [(vVar 0), (vTup [(vVar 1), (vVar 2)])])) (sSeq (sFor (iEnumE (vVar 3)) (.many [4, 5]) (sSeq (sIf (bOr (bNot (bTr (vCall f_is_number_below [(vVar 5), (v1 dLen (v2 dIx (vVar 0) (vC (.int 1))))]))) (c2 cNotIn (vVar 5) (vCall f_fitting_rules [(vVar 0), (vVar 1), (vVar 2)]))) (sErrF "BadWay" (PySem.Str.ofString "place") (vVar 4)) sNx) (sSet 2 (v2 dIx (v2 dIx (v2 dIx (vVar 0) (vC (.int 1))) (vVar 5)) (vC (.int 2)))))) (sRet (vTup [(vVar 2), (vCall f_signal_of [(vVar 0), (vVar 3)])]))))
def f_way_result : List D → R D := runD 6 4 b_way_result
/-! rest_ways(book, above, own, child): book 0, above 1, own 2, child 3, ways 4, met 5, at 6, state 7, below 8, number 9, _ 10, new 11, signal 12, pair 13 -/
def b_rest_ways : SX := (sSeq (sDct1 4 (vTup [(vVar 2), (vVar 3)]) (vL (vArgs []))) (sSeq (sOwn 5 (vArgs [(vTup [(vVar 2), (vVar 3)])])) (sSeq (sSet 6 (vC (.int 0))) (sSeq (sWhile fuel (c2 cLt (vVar 6) (v1 dLen (vRd 5))) (sSeq (sPut (.many [7, 8]) (v2 dIx (vRd 5) (vVar 6))) (sSeq (sFor (iSeq (vCall f_fitting_rules [(vVar 0), (vVar 1), (vVar 7)])) (.one 9) (sSeq (sPut (.many [10, 10, 11, 12]) (v2 dIx (v2 dIx (vVar 0) (vC (.int 1))) (vVar 9))) (sSeq (sSet 13 (vTup [(vVar 11), (v2 dIx (vVar 12) (vVar 8))])) (sIf (bDnin 4 (vVar 13)) (sSeq (sDput 4 (vVar 13) (v2 dAdd (vDget 4 (vTup [(vVar 7), (vVar 8)])) (vL (vArgs [(vVar 9)])))) (sApp 5 (vVar 13))) sNx)))) (sAugI 6 (fun m n => m + n) (vC (.int 1)))))) (sRet (vDComp (iSeq (vRd 5)) (.one 13) (c2 cEq (vCall f_fitting_rules [(vVar 0), (vVar 1), (v2 dIx (vVar 13) (vC (.int 0)))]) (vL (vArgs []))) (vVar 13) (vDget 4 (vVar 13))))))))
def f_rest_ways : List D → R D := runD 14 4 b_rest_ways
/-! results_of(book, above, own, child): book 0, above 1, own 2, child 3 -/
def b_results_of : SX := (sRet (vL (l1 lSortP (vL (l1 lKeys (vCall f_rest_ways [(vVar 0), (vVar 1), (vVar 2), (vVar 3)]))))))
def f_results_of : List D → R D := runD 4 4 b_results_of
/-! node_rests(book, above, own): book 0, above 1, own 2, rest 3, _ 4 -/
def b_node_rests : SX := (sSeq (sExpr (vCall f_check_states [(vVar 0), (vTup [(vVar 1), (vVar 2)])])) (sSeq (sExpr (vCall f_check_ends [(vVar 0)])) (sRet (vL (l1 lSortS (vL (lComp (iSeq (vCall f_results_of [(vVar 0), (vVar 1), (vVar 2), (vVar 2)])) (.many [3, 4]) bYes (vVar 3))))))))
def f_node_rests : List D → R D := runD 5 3 b_node_rests
/-! node_results(book, above, own, child): book 0, above 1, own 2, child 3 -/
def b_node_results : SX := (sSeq (sExpr (vCall f_check_states [(vVar 0), (vTup [(vVar 1), (vVar 2), (vVar 3)])])) (sSeq (sExpr (vCall f_check_ends [(vVar 0)])) (sRet (vCall f_results_of [(vVar 0), (vVar 1), (vVar 2), (vVar 3)]))))
def f_node_results : List D → R D := runD 4 4 b_node_results
/-! way_by_least_numbers(book, above, own): book 0, above 1, own 2, way 3, fitting 4 -/
def b_way_by_least_numbers : SX := (sSeq (sOwn 3 (vArgs [])) (sSeq (sSet 4 (vCall f_fitting_rules [(vVar 0), (vVar 1), (vVar 2)])) (sSeq (sWhile fuel (c2 cNe (vVar 4) (vL (vArgs []))) (sSeq (sApp 3 (v2 dIx (vVar 4) (vC (.int 0)))) (sSet 4 (vCall f_fitting_rules [(vVar 0), (vVar 1), (v2 dIx (v2 dIx (v2 dIx (vVar 0) (vC (.int 1))) (v2 dIx (vVar 4) (vC (.int 0)))) (vC (.int 2)))])))) (sSeq (sFreeze 3) (sRet (vVar 3))))))
def f_way_by_least_numbers : List D → R D := runD 5 3 b_way_by_least_numbers
/-! first_way(book, above, own): book 0, above 1, own 2 -/
def b_first_way : SX := (sSeq (sExpr (vCall f_check_states [(vVar 0), (vTup [(vVar 1), (vVar 2)])])) (sSeq (sExpr (vCall f_check_ends [(vVar 0)])) (sRet (vCall f_way_by_least_numbers [(vVar 0), (vVar 1), (vVar 2)]))))
def f_first_way : List D → R D := runD 3 3 b_first_way
/-! law_cell(script, k): script 0, k 1 -/
def b_law_cell : SX := (sSeq (sIf (c2 cLt (vVar 1) (v1 dLen (vVar 0))) (sRet (v2 dIx (vVar 0) (vVar 1))) sNx) (sRet (vC (.int 0))))
def f_law_cell : List D → R D := runD 2 2 b_law_cell
/-! law_draws(cell, many): cell 0, many 1, found 2, rest 3, k 4, number 5 -/
def b_law_draws : SX := (sSeq (sOwn 2 (vArgs [])) (sSeq (sSet 3 (vVar 0)) (sSeq (sFor (iRange1 (vVar 1)) (.one 4) (sSeq (sSet 5 (v2 dMod (v1 dInt (v2 dAdd (v2 dAdd (v2 dMul (v2 dMod (v1 dInt (vVar 0)) (vC (.int 2147483647))) (v2 dAdd (vVar 4) (vC (.int 2)))) (v2 dMul (vC (.int 12345)) (vVar 4))) (vC (.int 1)))) (vC (.int 2147483647)))) (sSeq (sSet 5 (v2 dMod (v1 dInt (v2 dMul (vVar 5) (vVar 5))) (vC (.int 2147483629)))) (sSeq (sSet 5 (v2 dDiv (v2 dMod (v1 dInt (v2 dAdd (v2 dMul (vVar 5) (vC (.int 69621))) (v2 dMul (vC (.int 40692)) (v2 dAdd (vVar 4) (vC (.int 1)))))) (vC (.int 2147483423))) (vC (.int 8)))) (sSeq (sIf (bAnd (c2 cGe (vVar 0) (v2 dPow (vC (.int 10)) (vC (.int 18)))) (c2 cGt (vVar 3) (vC (.int 0)))) (sSeq (sSet 5 (vVar 3)) (sSet 3 (v2 dDiv (vVar 3) (vC (.int 1000000))))) sNx) (sApp 2 (v2 dMod (v1 dInt (vVar 5)) (vC (.int 1000000))))))))) (sSeq (sFreeze 2) (sRet (vVar 2))))))
def f_law_draws : List D → R D := runD 6 2 b_law_draws
/-! law_rule(x, many, kind): x 0, many 1, kind 2, above 3, own 4, new 5, rest 6, signal 7, state 8 -/
def b_law_rule : SX := (sSeq (sSet 3 (v2 dMod (v1 dInt (vVar 0)) (vVar 1))) (sSeq (sSet 4 (v2 dMod (v1 dInt (v2 dDiv (vVar 0) (vVar 1))) (vVar 1))) (sSeq (sSet 5 (v2 dMod (v1 dInt (v2 dAdd (v2 dAdd (vVar 4) (vC (.int 1))) (v2 dMod (v1 dInt (v2 dDiv (vVar 0) (v2 dMul (vVar 1) (vVar 1)))) (v2 dSub (vVar 1) (vC (.int 1)))))) (vVar 1))) (sSeq (sIf (bOr (c2 cEq (vVar 2) (vC (.int 1))) (bAnd (c2 cEq (vVar 2) (vC (.int 2))) (c2 cGt (vVar 3) (vC (.int 1))))) (sPar 4 5 (v2 dMin (vVar 4) (vVar 5)) (v2 dMax (vVar 4) (vVar 5))) (sIf (c2 cEq (vVar 2) (vC (.int 2))) (sPar 4 5 (v2 dMax (vVar 4) (vVar 5)) (v2 dMin (vVar 4) (vVar 5))) sNx)) (sSeq (sSet 6 (v2 dDiv (vVar 0) (v2 dMul (v2 dMul (vVar 1) (vVar 1)) (v2 dSub (vVar 1) (vC (.int 1)))))) (sSeq (sOwn 7 (vArgs [])) (sSeq (sFor (iRange1 (vVar 1)) (.one 8) (sSeq (sApp 7 (v2 dMod (v1 dInt (vVar 6)) (vVar 1))) (sSet 6 (v2 dDiv (vVar 6) (vVar 1))))) (sSeq (sIf (c2 cEq (v2 dMod (v1 dInt (vVar 6)) (vC (.int 3))) (vC (.int 0))) (sOwn 7 (l1 lRange1 (vVar 1))) sNx) (sRet (vTup [(vVar 3), (vVar 4), (vVar 5), (v1 dTup (vRd 7))]))))))))))
def f_law_rule : List D → R D := runD 9 3 b_law_rule
/-! law_same(found, due): found 0, due 1, alike 2, k 3 -/
def b_law_same (g : List D → R D) : SX := (sSeq (sIf (c2 cIs (vVar 1) (vC .none)) (sRet (vB (c2 cIs (vVar 0) (vC .none)))) sNx) (sSeq (sIf (c1 (cIsi "bool") (vVar 1)) (sRet (vB (bAnd (c1 (cIsi "bool") (vVar 0)) (c2 cEq (vVar 0) (vVar 1))))) sNx) (sSeq (sIf (c1 (cIsi "int") (vVar 1)) (sRet (vB (bAnd (c1 (cIsi "int") (vVar 0)) (bAnd (bNot (c1 (cIsi "bool") (vVar 0))) (c2 cEq (vVar 0) (vVar 1)))))) sNx) (sSeq (sIf (c1 (cIsi "str") (vVar 1)) (sRet (vB (bAnd (c1 (cIsi "str") (vVar 0)) (c2 cEq (vVar 0) (vVar 1))))) sNx) (sSeq (sSet 2 (vB (bOr (bAnd (c1 (cIsi "tuple") (vVar 1)) (c1 (cIsi "tuple") (vVar 0))) (bAnd (c1 (cIsi "list") (vVar 1)) (c1 (cIsi "list") (vVar 0)))))) (sSeq (sIf (bOr (bNot (bTr (vVar 2))) (c2 cNe (v1 dLen (vVar 0)) (v1 dLen (vVar 1)))) (sRet (vC (.bool false))) sNx) (sRet (vB (c2 cEq (vL (lComp (iRange1 (v1 dLen (vVar 1))) (.one 3) (bNot (bTr (vCall g [(v2 dIx (vVar 0) (vVar 3)), (v2 dIx (vVar 1) (vVar 3))]))) (vVar 3))) (vL (vArgs [])))))))))))
def r_law_same : Nat → List D → R D
  | 0 => fun _ => none
  | k + 1 => runD 4 2 (b_law_same (r_law_same k))
def f_law_same : List D → R D := r_law_same 12
/-! law_ending_book(xs): xs 0, many 1, rules 2, x 3, rule 4 -/
def b_law_ending_book : SX := (sSeq (sSet 1 (v2 dIx (vL (vArgs [(vC (.int 2)), (vC (.int 3)), (vC (.int 4)), (vC (.int 3))])) (v2 dMod (v1 dInt (v2 dIx (vVar 0) (vC (.int 0)))) (vC (.int 4))))) (sSeq (sOwn 2 (vArgs [])) (sSeq (sFor (iSeq (vCut (vVar 0) (some (vC (.int 1))) (some (v2 dAdd (v2 dMod (v1 dInt (v2 dDiv (v2 dIx (vVar 0) (vC (.int 0))) (vC (.int 4)))) (vC (.int 12))) (vC (.int 2)))))) (.one 3) (sSeq (sSet 4 (vCall f_law_rule [(vVar 3), (vVar 1), (v2 dAdd (vC (.int 1)) (v2 dMod (v1 dInt (v2 dDiv (v2 dIx (vVar 0) (vC (.int 0))) (vC (.int 48)))) (vC (.int 2))))])) (sIf (c2 cNotIn (vVar 4) (vRd 2)) (sApp 2 (vVar 4)) sNx))) (sRet (vTup [(vVar 1), (v1 dTup (vRd 2))])))))
def f_law_ending_book : List D → R D := runD 5 1 b_law_ending_book
/-! law_whole_way(book, above, own, x): book 0, above 1, own 2, x 3, state 4, numbers 5, turn 6, can 7, k 8 -/
def b_law_whole_way : SX := (sSeq (sSet 4 (vVar 2)) (sSeq (sOwn 5 (vArgs [])) (sSeq (sFor (iRange1 (v2 dIx (vVar 0) (vC (.int 0)))) (.one 6) (sSeq (sSet 7 (vL (lComp (iRange1 (v1 dLen (v2 dIx (vVar 0) (vC (.int 1))))) (.one 8) (c2 cEq (vCut (v2 dIx (v2 dIx (vVar 0) (vC (.int 1))) (vVar 8)) none (some (vC (.int 2)))) (vTup [(vVar 1), (vVar 4)])) (vVar 8)))) (sIf (c2 cNe (vVar 7) (vL (vArgs []))) (sSeq (sApp 5 (v2 dIx (vVar 7) (v2 dMod (v1 dInt (vVar 3)) (v1 dLen (vVar 7))))) (sSeq (sSet 3 (v2 dDiv (vVar 3) (vC (.int 7)))) (sSet 4 (v2 dIx (v2 dIx (v2 dIx (vVar 0) (vC (.int 1))) (v2 dIx (vRd 5) (v1 dNeg (vC (.int 1))))) (vC (.int 2)))))) sNx))) (sSeq (sFreeze 5) (sRet (vVar 5))))))
def f_law_whole_way : List D → R D := runD 9 4 b_law_whole_way
/-! law_found_ways(book, above, own, child): book 0, above 1, own 2, child 3, met 4, ways 5, turn 6, k 7, rule 8, pair 9 -/
def b_law_found_ways : SX := (sSeq (sOwn 4 (vArgs [(vTup [(vVar 2), (vVar 3)])])) (sSeq (sOwn 5 (vArgs [(vL (vArgs []))])) (sSeq (sFor (iRange1 (v2 dMul (v2 dIx (vVar 0) (vC (.int 0))) (v2 dIx (vVar 0) (vC (.int 0))))) (.one 6) (sIf (c2 cLt (vVar 6) (v1 dLen (vRd 4))) (sFor (iRange1 (v1 dLen (v2 dIx (vVar 0) (vC (.int 1))))) (.one 7) (sSeq (sSet 8 (v2 dIx (v2 dIx (vVar 0) (vC (.int 1))) (vVar 7))) (sSeq (sSet 9 (vTup [(v2 dIx (vVar 8) (vC (.int 2))), (v2 dIx (v2 dIx (vVar 8) (vC (.int 3))) (v2 dIx (v2 dIx (vRd 4) (vVar 6)) (vC (.int 1))))])) (sIf (bAnd (c2 cEq (vCut (vVar 8) none (some (vC (.int 2)))) (vTup [(vVar 1), (v2 dIx (v2 dIx (vRd 4) (vVar 6)) (vC (.int 0)))])) (c2 cNotIn (vVar 9) (vRd 4))) (sSeq (sApp 4 (vVar 9)) (sApp 5 (v2 dAdd (v2 dIx (vRd 5) (vVar 6)) (vL (vArgs [(vVar 7)]))))) sNx)))) sNx)) (sSeq (sFreeze 5) (sSeq (sFreeze 4) (sRet (vTup [(vVar 4), (vVar 5)])))))))
def f_law_found_ways : List D → R D := runD 10 4 b_law_found_ways
/-! law_right(book, above, own, ways): book 0, above 1, own 2, ways 3, rests 4, states 5, child 6, found 7, met 8, known 9, pair 10, state 11, signal 12, way 13 -/
def b_law_right : SX := (sSeq (sSet 4 (vCall f_node_rests [(vVar 0), (vVar 1), (vVar 2)])) (sSeq (sSet 5 (vL (vArgs []))) (sSeq (sFor (iRange1 (v2 dIx (vVar 0) (vC (.int 0)))) (.one 6) (sSeq (sSet 7 (vCall f_node_results [(vVar 0), (vVar 1), (vVar 2), (vVar 6)])) (sSeq (sPut (.many [8, 9]) (vCall f_law_found_ways [(vVar 0), (vVar 1), (vVar 2), (vVar 6)])) (sSeq (sFor (iSeq (vVar 7)) (.one 10) (sSeq (sIf (c2 cNotIn (vVar 10) (vVar 8)) (sRet (vC (.bool false))) sNx) (sSeq (sPut (.many [11, 12]) (vCall f_way_result [(vVar 0), (vVar 1), (vVar 2), (vL (l1 lOf (v2 dIx (vVar 9) (vIndex (vVar 8) (vVar 10)))))])) (sIf (bOr (bNot (bTr (vCall f_law_same [(vVar 10), (vTup [(vVar 11), (v2 dIx (vVar 12) (vVar 6))])]))) (bNot (bTr (vCall f_law_same [(vCall f_rules_for [(vVar 0), (vVar 1), (vVar 11)]), (vL (vArgs []))])))) (sRet (vC (.bool false))) sNx)))) (sSeq (sSet 5 (v2 dAdd (vVar 5) (vL (lComp (iSeq (vVar 7)) (.one 10) bYes (v2 dIx (vVar 10) (vC (.int 0))))))) (sFor (iSeq (v2 dAdd (vVar 3) (vL (vArgs [(vCall f_first_way [(vVar 0), (vVar 1), (vVar 2)])])))) (.one 13) (sSeq (sPut (.many [11, 12]) (vCall f_way_result [(vVar 0), (vVar 1), (vVar 2), (vL (l1 lOf (vVar 13)))])) (sIf (bOr (bNot (bTr (vCall f_law_same [(vCall f_rules_for [(vVar 0), (vVar 1), (vVar 11)]), (vL (vArgs []))]))) (c2 cNotIn (vTup [(vVar 11), (v2 dIx (vVar 12) (vVar 6))]) (vVar 7))) (sRet (vC (.bool false))) sNx)))))))) (sRet (vCall f_law_same [(vVar 4), (vL (l1 lSortS (vVar 5)))])))))
def f_law_right : List D → R D := runD 14 4 b_law_right
/-! law(script): script 0, book 1, cells 2, above 3, own 4, ways 5, k 6, cell 7 -/
def b_law : SX := (sSeq (sSet 1 (vCall f_law_ending_book [(vCall f_law_draws [(vCall f_law_cell [(vVar 0), (vC (.int 0))]), (vC (.int 13))])])) (sSeq (sSet 2 (v2 dAdd (vL (vArgs [(vCall f_law_cell [(vVar 0), (vC (.int 1))])])) (vCut (vVar 0) (some (vC (.int 2))) (some (vC (.int 63)))))) (sSeq (sFor (iRange1 (v2 dIx (vVar 1) (vC (.int 0)))) (.one 3) (sFor (iRange1 (v2 dIx (vVar 1) (vC (.int 0)))) (.one 4) (sSeq (sOwn 5 (vArgs [])) (sSeq (sFor (iRange1 (vC (.int 5))) (.one 6) (sSeq (sSet 7 (v2 dIx (vVar 2) (v2 dMod (v1 dInt (v2 dAdd (v2 dMul (vC (.int 5)) (v2 dAdd (v2 dMul (vVar 3) (v2 dIx (vVar 1) (vC (.int 0)))) (vVar 4))) (vVar 6))) (v1 dLen (vVar 2))))) (sApp 5 (vCall f_law_whole_way [(vVar 1), (vVar 3), (vVar 4), (v2 dIx (vCall f_law_draws [(vVar 7), (v2 dAdd (vVar 6) (vC (.int 1)))]) (vVar 6))])))) (sSeq (sFreeze 5) (sIf (bNot (bTr (vCall f_law_right [(vVar 1), (vVar 3), (vVar 4), (vVar 5)]))) (sRet (vC (.bool false))) sNx)))))) (sRet (vC (.bool true))))))
def f_law : List D → R D := runD 8 1 b_law
end K24
namespace K24
open PySem DL
theorem is_integer_ (d : D) : f_is_integer [d] = ok (.bool (match d with | .int _ => true | _ => false)) := by
  cases d <;> rfl
theorem int_from (d : D) (lo hi : Int) : f_is_integer_from [d, .int lo, .int hi] = ok (.bool (isNum lo hi d)) := by
  cases d with
  | int i =>
    by_cases h1 : lo ≤ i <;> by_cases h2 : i ≤ hi <;>
    simp [f_is_integer_from, b_is_integer_from, isNum, e_vVar, e_vRd, e_vC, e_v1, e_v2, e_c1, e_c2, e_l1, e_l2, e_vL, e_vB, e_vArgs0, e_vArgs, e_vTup, e_vCall, e_vIf, e_bTr, e_bNot, e_bAnd, e_bOr, e_bChain, e_iSeq, e_iRange1, e_iRange2, e_vCut, e_vOpt0, e_vOpt, e_sNx, e_sBk, e_sCt, e_sSeq, e_sSet, e_sOwn, e_sPut, e_sFreeze, e_sRet, e_sExpr, e_sIf, e_sApp, e_sPar, e_sFor, runD, slots, so_ok, rb_ok, rb_none, so_none, po_some, List.getElem?_cons_zero, List.getElem?_cons_succ, List.set_cons_zero, List.set_cons_succ, List.map_cons, List.map_nil, List.length_cons, List.length_nil, List.replicate, List.append_nil, List.cons_append, List.nil_append, rb_er, so_er, e_sErr, e_sTry, e_iEnumE, e_sSetIx, is_integer_, dTr, cLe, h1, h2]
  | _ => rfl
theorem below (d : D) (n : Int) : f_is_number_below [d, .int n] = ok (.bool (isNum 0 (n - 1) d)) := by
  simp [f_is_number_below, b_is_number_below, e_vVar, e_vRd, e_vC, e_v1, e_v2, e_c1, e_c2, e_l1, e_l2, e_vL, e_vB, e_vArgs0, e_vArgs, e_vTup, e_vCall, e_vIf, e_bTr, e_bNot, e_bAnd, e_bOr, e_bChain, e_iSeq, e_iRange1, e_iRange2, e_vCut, e_vOpt0, e_vOpt, e_sNx, e_sBk, e_sCt, e_sSeq, e_sSet, e_sOwn, e_sPut, e_sFreeze, e_sRet, e_sExpr, e_sIf, e_sApp, e_sPar, e_sFor, runD, slots, so_ok, rb_ok, rb_none, so_none, po_some, List.getElem?_cons_zero, List.getElem?_cons_succ, List.set_cons_zero, List.set_cons_succ, List.map_cons, List.map_nil, List.length_cons, List.length_nil, List.replicate, List.append_nil, List.cons_append, List.nil_append, rb_er, so_er, e_sErr, e_sTry, e_iEnumE, e_sSetIx, int_from, dSub]
theorem tup_of (d : D) (n : Int) : f_is_tuple_of [d, .int n] = ok (.bool (isTup n d)) := by
  cases d with
  | tuple xs => simp [f_is_tuple_of, b_is_tuple_of, e_vVar, e_vRd, e_vC, e_v1, e_v2, e_c1, e_c2, e_l1, e_l2, e_vL, e_vB, e_vArgs0, e_vArgs, e_vTup, e_vCall, e_vIf, e_bTr, e_bNot, e_bAnd, e_bOr, e_bChain, e_iSeq, e_iRange1, e_iRange2, e_vCut, e_vOpt0, e_vOpt, e_sNx, e_sBk, e_sCt, e_sSeq, e_sSet, e_sOwn, e_sPut, e_sFreeze, e_sRet, e_sExpr, e_sIf, e_sApp, e_sPar, e_sFor, runD, slots, so_ok, rb_ok, rb_none, so_none, po_some, List.getElem?_cons_zero, List.getElem?_cons_succ, List.set_cons_zero, List.set_cons_succ, List.map_cons, List.map_nil, List.length_cons, List.length_nil, List.replicate, List.append_nil, List.cons_append, List.nil_append, rb_er, so_er, e_sErr, e_sTry, e_iEnumE, e_sSetIx, cIsi, isInst, tyName, dLen, eq_int, isTup]
  | _ => rfl
theorem are_below (xs : List D) (n : Int) (h : xs.length ≤ lim) : f_are_numbers_below [.tuple xs, .int n] = ok (.bool (xs.all (isNum 0 (n - 1)))) := by
  have := lcomp_map (it := iSeq (vVar 0)) (i := 2) (e := vCall f_is_number_below [vVar 2, vVar 1]) (r := [.d (.tuple xs), .d (.int n), .un]) (xs := xs) (fun x => .bool (isNum 0 (n - 1) x)) rfl h (fun x _ => by simp [e_vVar, e_vRd, e_vC, e_v1, e_v2, e_c1, e_c2, e_l1, e_l2, e_vL, e_vB, e_vArgs0, e_vArgs, e_vTup, e_vCall, e_vIf, e_bTr, e_bNot, e_bAnd, e_bOr, e_bChain, e_iSeq, e_iRange1, e_iRange2, e_vCut, e_vOpt0, e_vOpt, e_sNx, e_sBk, e_sCt, e_sSeq, e_sSet, e_sOwn, e_sPut, e_sFreeze, e_sRet, e_sExpr, e_sIf, e_sApp, e_sPar, e_sFor, runD, slots, so_ok, rb_ok, rb_none, so_none, po_some, List.getElem?_cons_zero, List.getElem?_cons_succ, List.set_cons_zero, List.set_cons_succ, List.map_cons, List.map_nil, List.length_cons, List.length_nil, List.replicate, List.append_nil, List.cons_append, List.nil_append, rb_er, so_er, e_sErr, e_sTry, e_iEnumE, e_sSetIx, below])
  simp [f_are_numbers_below, b_are_numbers_below, e_vVar, e_vRd, e_vC, e_v1, e_v2, e_c1, e_c2, e_l1, e_l2, e_vL, e_vB, e_vArgs0, e_vArgs, e_vTup, e_vCall, e_vIf, e_bTr, e_bNot, e_bAnd, e_bOr, e_bChain, e_iSeq, e_iRange1, e_iRange2, e_vCut, e_vOpt0, e_vOpt, e_sNx, e_sBk, e_sCt, e_sSeq, e_sSet, e_sOwn, e_sPut, e_sFreeze, e_sRet, e_sExpr, e_sIf, e_sApp, e_sPar, e_sFor, runD, slots, so_ok, rb_ok, rb_none, so_none, po_some, List.getElem?_cons_zero, List.getElem?_cons_succ, List.set_cons_zero, List.set_cons_succ, List.map_cons, List.map_nil, List.length_cons, List.length_nil, List.replicate, List.append_nil, List.cons_append, List.nil_append, rb_er, so_er, e_sErr, e_sTry, e_iEnumE, e_sSetIx, this, cAll_map]
/-- a rule of a book with n states -/
def isRule (n : Int) : D → Bool
  | .tuple [a, b, c, .tuple s] => isNum 0 (n - 1) a && isNum 0 (n - 1) b && isNum 0 (n - 1) c && !(PyData.eqv b c) && (((s.length : Nat) : Int) == n) && s.all (isNum 0 (n - 1))
  | _ => false
theorem four (xs : List D) (h : xs.length = 4) : ∃ a b c d, xs = [a, b, c, d] := by
  match xs, h with
  | [a, b, c, d], _ => exact ⟨a, b, c, d, rfl⟩
theorem two (xs : List D) (h : xs.length = 2) : ∃ a b, xs = [a, b] := by
  match xs, h with
  | [a, b], _ => exact ⟨a, b, rfl⟩
theorem eq_num {lo hi : Int} {x y : D} (h1 : isNum lo hi x = true) (h2 : isNum lo hi y = true) : cEq x y = some (PyData.eqv x y) := by
  obtain ⟨i, rfl, _⟩ := isNum_int h1
  obtain ⟨j, rfl, _⟩ := isNum_int h2
  rfl
theorem is_rule_ (n : Int) (hn : n ≤ lim) (d : D) : f_is_rule [.int n, d] = ok (.bool (isRule n d)) := by
  by_cases h4 : isTup 4 d = true
  · cases d with
    | tuple xs =>
      obtain ⟨a, b, c, s, rfl⟩ := four xs (by simp [isTup] at h4; omega)
      have h3 : ([a, b, c] : List D).length ≤ lim := (show 3 ≤ lim by decide)
      have e0 : (Tg.many [2, 3, 4, 5]).put (.tuple [a, b, c, s]) [.d (.int n), .d (.tuple [a, b, c, s]), .un, .un, .un, .un] = some [.d (.int n), .d (.tuple [a, b, c, s]), .d a, .d b, .d c, .d s] := rfl
      by_cases ha : (([a, b, c] : List D).all (isNum 0 (n - 1))) = true
      · have hbc : isNum 0 (n - 1) a = true ∧ isNum 0 (n - 1) b = true ∧ isNum 0 (n - 1) c = true := by simpa using ha
        have e1 := eq_num hbc.2.1 hbc.2.2
        by_cases he : PyData.eqv b c = true
        · have : isRule n (.tuple [a, b, c, s]) = false := by cases s <;> simp [isRule, he]
          simp [f_is_rule, b_is_rule, e_vVar, e_vRd, e_vC, e_v1, e_v2, e_c1, e_c2, e_l1, e_l2, e_vL, e_vB, e_vArgs0, e_vArgs, e_vTup, e_vCall, e_vIf, e_bTr, e_bNot, e_bAnd, e_bOr, e_bChain, e_iSeq, e_iRange1, e_iRange2, e_vCut, e_vOpt0, e_vOpt, e_sNx, e_sBk, e_sCt, e_sSeq, e_sSet, e_sOwn, e_sPut, e_sFreeze, e_sRet, e_sExpr, e_sIf, e_sApp, e_sPar, e_sFor, runD, slots, so_ok, rb_ok, rb_none, so_none, po_some, List.getElem?_cons_zero, List.getElem?_cons_succ, List.set_cons_zero, List.set_cons_succ, List.map_cons, List.map_nil, List.length_cons, List.length_nil, List.replicate, List.append_nil, List.cons_append, List.nil_append, rb_er, so_er, e_sErr, e_sTry, e_iEnumE, e_sSetIx, tup_of, h4, dTr, e0, are_below _ _ h3, ha, e1, he, this]
        · by_cases hs : isTup n s = true
          · cases s with
            | tuple s =>
              have hs' : ((s.length : Nat) : Int) = n := by simpa [isTup] using hs
              have hl : s.length ≤ lim := by omega
              simp [f_is_rule, b_is_rule, e_vVar, e_vRd, e_vC, e_v1, e_v2, e_c1, e_c2, e_l1, e_l2, e_vL, e_vB, e_vArgs0, e_vArgs, e_vTup, e_vCall, e_vIf, e_bTr, e_bNot, e_bAnd, e_bOr, e_bChain, e_iSeq, e_iRange1, e_iRange2, e_vCut, e_vOpt0, e_vOpt, e_sNx, e_sBk, e_sCt, e_sSeq, e_sSet, e_sOwn, e_sPut, e_sFreeze, e_sRet, e_sExpr, e_sIf, e_sApp, e_sPar, e_sFor, runD, slots, so_ok, rb_ok, rb_none, so_none, po_some, List.getElem?_cons_zero, List.getElem?_cons_succ, List.set_cons_zero, List.set_cons_succ, List.map_cons, List.map_nil, List.length_cons, List.length_nil, List.replicate, List.append_nil, List.cons_append, List.nil_append, rb_er, so_er, e_sErr, e_sTry, e_iEnumE, e_sSetIx, tup_of, h4, dTr, e0, are_below _ _ h3, ha, e1, he, hs, are_below _ _ hl, isRule, hbc, hs']
            | _ => cases hs
          · have : isRule n (.tuple [a, b, c, s]) = false := by
              cases s with
              | tuple s => simp only [isTup, Bool.not_eq_true] at hs; simp [isRule, hs]
              | _ => rfl
            simp [f_is_rule, b_is_rule, e_vVar, e_vRd, e_vC, e_v1, e_v2, e_c1, e_c2, e_l1, e_l2, e_vL, e_vB, e_vArgs0, e_vArgs, e_vTup, e_vCall, e_vIf, e_bTr, e_bNot, e_bAnd, e_bOr, e_bChain, e_iSeq, e_iRange1, e_iRange2, e_vCut, e_vOpt0, e_vOpt, e_sNx, e_sBk, e_sCt, e_sSeq, e_sSet, e_sOwn, e_sPut, e_sFreeze, e_sRet, e_sExpr, e_sIf, e_sApp, e_sPar, e_sFor, runD, slots, so_ok, rb_ok, rb_none, so_none, po_some, List.getElem?_cons_zero, List.getElem?_cons_succ, List.set_cons_zero, List.set_cons_succ, List.map_cons, List.map_nil, List.length_cons, List.length_nil, List.replicate, List.append_nil, List.cons_append, List.nil_append, rb_er, so_er, e_sErr, e_sTry, e_iEnumE, e_sSetIx, tup_of, h4, dTr, e0, are_below _ _ h3, ha, e1, he, hs, this]
      · have : isRule n (.tuple [a, b, c, s]) = false := by
          cases s with
          | tuple s => simp only [List.all_cons, List.all_nil, Bool.and_true, Bool.not_eq_true] at ha; simp only [isRule, Bool.and_assoc]; revert ha; cases isNum 0 (n - 1) a <;> cases isNum 0 (n - 1) b <;> cases isNum 0 (n - 1) c <;> simp
          | _ => rfl
        simp [f_is_rule, b_is_rule, e_vVar, e_vRd, e_vC, e_v1, e_v2, e_c1, e_c2, e_l1, e_l2, e_vL, e_vB, e_vArgs0, e_vArgs, e_vTup, e_vCall, e_vIf, e_bTr, e_bNot, e_bAnd, e_bOr, e_bChain, e_iSeq, e_iRange1, e_iRange2, e_vCut, e_vOpt0, e_vOpt, e_sNx, e_sBk, e_sCt, e_sSeq, e_sSet, e_sOwn, e_sPut, e_sFreeze, e_sRet, e_sExpr, e_sIf, e_sApp, e_sPar, e_sFor, runD, slots, so_ok, rb_ok, rb_none, so_none, po_some, List.getElem?_cons_zero, List.getElem?_cons_succ, List.set_cons_zero, List.set_cons_succ, List.map_cons, List.map_nil, List.length_cons, List.length_nil, List.replicate, List.append_nil, List.cons_append, List.nil_append, rb_er, so_er, e_sErr, e_sTry, e_iEnumE, e_sSetIx, tup_of, h4, dTr, e0, are_below _ _ h3, ha, this]
    | _ => cases h4
  · have : isRule n d = false := by
      unfold isRule
      split
      · exact absurd rfl h4
      · rfl
    simp [f_is_rule, b_is_rule, e_vVar, e_vRd, e_vC, e_v1, e_v2, e_c1, e_c2, e_l1, e_l2, e_vL, e_vB, e_vArgs0, e_vArgs, e_vTup, e_vCall, e_vIf, e_bTr, e_bNot, e_bAnd, e_bOr, e_bChain, e_iSeq, e_iRange1, e_iRange2, e_vCut, e_vOpt0, e_vOpt, e_sNx, e_sBk, e_sCt, e_sSeq, e_sSet, e_sOwn, e_sPut, e_sFreeze, e_sRet, e_sExpr, e_sIf, e_sApp, e_sPar, e_sFor, runD, slots, so_ok, rb_ok, rb_none, so_none, po_some, List.getElem?_cons_zero, List.getElem?_cons_succ, List.set_cons_zero, List.set_cons_succ, List.map_cons, List.map_nil, List.length_cons, List.length_nil, List.replicate, List.append_nil, List.cons_append, List.nil_append, rb_er, so_er, e_sErr, e_sTry, e_iEnumE, e_sSetIx, tup_of, h4, dTr, this]
def isBook : D → Bool
  | .tuple [.int n, .tuple rs] => isNum 1 4 (.int n) && decide (rs.length ≤ 12) && rs.all (isRule n) && fresh [] rs
  | _ => false
theorem rule_deep {n : Int} {d : D} (h : isRule n d = true) : deepI 2 d = true ∧ ∃ xs, d = .tuple xs := by
  unfold isRule at h
  split at h
  · rename_i a b c s
    simp only [Bool.and_eq_true] at h
    obtain ⟨⟨⟨⟨⟨h1, h2⟩, h3⟩, _⟩, _⟩, h4⟩ := h
    refine ⟨?_, _, rfl⟩
    obtain ⟨i, rfl, _⟩ := isNum_int h1
    obtain ⟨j, rfl, _⟩ := isNum_int h2
    obtain ⟨k, rfl, _⟩ := isNum_int h3
    have : s.all (deepI 0) = true := List.all_eq_true.mpr fun x hx => by
      obtain ⟨m, rfl, _⟩ := isNum_int (List.all_eq_true.mp h4 x hx)
      rfl
    simp only [deepI, List.all_cons, List.all_nil, this, Bool.and_true]
  · cases h
theorem deep_up : ∀ (n : Nat) {d : D}, deepI n d = true → deepI (n + 1) d = true := by
  intro n
  induction n with
  | zero => intro d h; cases d <;> first | rfl | cases h
  | succ n ih =>
    intro d h
    cases d with
    | int i => rfl
    | tuple xs => exact List.all_eq_true.mpr fun x hx => ih (List.all_eq_true.mp (show xs.all (deepI n) = true from h) x hx)
    | _ => cases h
theorem shaped_of {n : Nat} {d : D} (h : deepI n d = true) (hn : n ≤ 64 := by omega) : SeqAt.shaped d = true := by
  obtain ⟨h1, h2⟩ := deepI_lay n h
  unfold SeqAt.shaped
  rw [h1, decide_eq_true (Nat.le_trans h2 hn)]
  rfl
theorem len_set {n : Int} {rs : List D} (h : rs.all (isRule n) = true) (hl : rs.length ≤ 40) : dLenSet (.tuple rs) = some (.int ((unlike [] rs).length : Nat)) := by
  have : (rs.all (fun d => (match d with | .tuple _ => true | _ => false) && deepI 3 d) && decide (rs.length ≤ 40)) = true := by
    rw [Bool.and_eq_true, decide_eq_true_eq]
    refine ⟨List.all_eq_true.mpr fun x hx => ?_, hl⟩
    obtain ⟨h1, xs, rfl⟩ := rule_deep (List.all_eq_true.mp h x hx)
    exact deep_up 2 h1
  exact if_pos this
theorem len_fresh (rs : List D) : ((((unlike [] rs).length : Nat) : Int) == ((rs.length : Nat) : Int)) = fresh [] rs := by
  have h := (unlike_len rs []).2
  rw [← h, List.length_nil, Nat.zero_add]
  rw [Bool.eq_iff_iff, beq_iff_eq, beq_iff_eq]
  omega
theorem is_book_ (d : D) : f_is_book [d] = ok (.bool (isBook d)) := by
  by_cases h2 : isTup 2 d = true
  · cases d with
    | tuple xs =>
      obtain ⟨n, rs, rfl⟩ := two xs (by simp [isTup] at h2; omega)
      have e0 : (Tg.many [1, 2]).put (.tuple [n, rs]) [.d (.tuple [n, rs]), .un, .un, .un] = some [.d (.tuple [n, rs]), .d n, .d rs, .un] := rfl
      by_cases hn : isNum 1 4 n = true
      · obtain ⟨n, rfl, n1, n4⟩ := isNum_int hn
        cases rs with
        | tuple rs =>
          by_cases hl : rs.length ≤ 12
          · have hl' : ¬ (12 : Int) < ((rs.length : Nat) : Int) := by omega
            have hlim : rs.length ≤ lim := Nat.le_trans hl (by decide)
            have e1 := lcomp_map (it := iSeq (vVar 2)) (i := 3) (e := vCall f_is_rule [vVar 1, vVar 3]) (r := [.d (.tuple [.int n, .tuple rs]), .d (.int n), .d (.tuple rs), .un]) (xs := rs) (fun x => .bool (isRule n x)) rfl hlim
              (fun x _ => by simp [e_vVar, e_vRd, e_vC, e_v1, e_v2, e_c1, e_c2, e_l1, e_l2, e_vL, e_vB, e_vArgs0, e_vArgs, e_vTup, e_vCall, e_vIf, e_bTr, e_bNot, e_bAnd, e_bOr, e_bChain, e_iSeq, e_iRange1, e_iRange2, e_vCut, e_vOpt0, e_vOpt, e_sNx, e_sBk, e_sCt, e_sSeq, e_sSet, e_sOwn, e_sPut, e_sFreeze, e_sRet, e_sExpr, e_sIf, e_sApp, e_sPar, e_sFor, runD, slots, so_ok, rb_ok, rb_none, so_none, po_some, List.getElem?_cons_zero, List.getElem?_cons_succ, List.set_cons_zero, List.set_cons_succ, List.map_cons, List.map_nil, List.length_cons, List.length_nil, List.replicate, List.append_nil, List.cons_append, List.nil_append, rb_er, so_er, e_sErr, e_sTry, e_iEnumE, e_sSetIx, is_rule_ n (Int.le_trans n4 (by decide))])
            by_cases hr : rs.all (isRule n) = true
            · have e2 := len_set hr (by omega)
              have e3 := len_fresh rs
              simp [f_is_book, b_is_book, e_vVar, e_vRd, e_vC, e_v1, e_v2, e_c1, e_c2, e_l1, e_l2, e_vL, e_vB, e_vArgs0, e_vArgs, e_vTup, e_vCall, e_vIf, e_bTr, e_bNot, e_bAnd, e_bOr, e_bChain, e_iSeq, e_iRange1, e_iRange2, e_vCut, e_vOpt0, e_vOpt, e_sNx, e_sBk, e_sCt, e_sSeq, e_sSet, e_sOwn, e_sPut, e_sFreeze, e_sRet, e_sExpr, e_sIf, e_sApp, e_sPar, e_sFor, runD, slots, so_ok, rb_ok, rb_none, so_none, po_some, List.getElem?_cons_zero, List.getElem?_cons_succ, List.set_cons_zero, List.set_cons_succ, List.map_cons, List.map_nil, List.length_cons, List.length_nil, List.replicate, List.append_nil, List.cons_append, List.nil_append, rb_er, so_er, e_sErr, e_sTry, e_iEnumE, e_sSetIx, tup_of, h2, dTr, e0, int_from, hn, cIsi, isInst, tyName, dLen, cGt, hl', e1, cAll_map, hr, e2, eq_int, e3, isBook, hl]
            · simp [f_is_book, b_is_book, e_vVar, e_vRd, e_vC, e_v1, e_v2, e_c1, e_c2, e_l1, e_l2, e_vL, e_vB, e_vArgs0, e_vArgs, e_vTup, e_vCall, e_vIf, e_bTr, e_bNot, e_bAnd, e_bOr, e_bChain, e_iSeq, e_iRange1, e_iRange2, e_vCut, e_vOpt0, e_vOpt, e_sNx, e_sBk, e_sCt, e_sSeq, e_sSet, e_sOwn, e_sPut, e_sFreeze, e_sRet, e_sExpr, e_sIf, e_sApp, e_sPar, e_sFor, runD, slots, so_ok, rb_ok, rb_none, so_none, po_some, List.getElem?_cons_zero, List.getElem?_cons_succ, List.set_cons_zero, List.set_cons_succ, List.map_cons, List.map_nil, List.length_cons, List.length_nil, List.replicate, List.append_nil, List.cons_append, List.nil_append, rb_er, so_er, e_sErr, e_sTry, e_iEnumE, e_sSetIx, tup_of, h2, dTr, e0, int_from, hn, cIsi, isInst, tyName, dLen, cGt, hl', e1, cAll_map, hr, isBook]
          · have hl' : (12 : Int) < ((rs.length : Nat) : Int) := by omega
            simp [f_is_book, b_is_book, e_vVar, e_vRd, e_vC, e_v1, e_v2, e_c1, e_c2, e_l1, e_l2, e_vL, e_vB, e_vArgs0, e_vArgs, e_vTup, e_vCall, e_vIf, e_bTr, e_bNot, e_bAnd, e_bOr, e_bChain, e_iSeq, e_iRange1, e_iRange2, e_vCut, e_vOpt0, e_vOpt, e_sNx, e_sBk, e_sCt, e_sSeq, e_sSet, e_sOwn, e_sPut, e_sFreeze, e_sRet, e_sExpr, e_sIf, e_sApp, e_sPar, e_sFor, runD, slots, so_ok, rb_ok, rb_none, so_none, po_some, List.getElem?_cons_zero, List.getElem?_cons_succ, List.set_cons_zero, List.set_cons_succ, List.map_cons, List.map_nil, List.length_cons, List.length_nil, List.replicate, List.append_nil, List.cons_append, List.nil_append, rb_er, so_er, e_sErr, e_sTry, e_iEnumE, e_sSetIx, tup_of, h2, dTr, e0, int_from, hn, cIsi, isInst, tyName, dLen, cGt, hl', isBook, hl]
        | _ => simp [f_is_book, b_is_book, e_vVar, e_vRd, e_vC, e_v1, e_v2, e_c1, e_c2, e_l1, e_l2, e_vL, e_vB, e_vArgs0, e_vArgs, e_vTup, e_vCall, e_vIf, e_bTr, e_bNot, e_bAnd, e_bOr, e_bChain, e_iSeq, e_iRange1, e_iRange2, e_vCut, e_vOpt0, e_vOpt, e_sNx, e_sBk, e_sCt, e_sSeq, e_sSet, e_sOwn, e_sPut, e_sFreeze, e_sRet, e_sExpr, e_sIf, e_sApp, e_sPar, e_sFor, runD, slots, so_ok, rb_ok, rb_none, so_none, po_some, List.getElem?_cons_zero, List.getElem?_cons_succ, List.set_cons_zero, List.set_cons_succ, List.map_cons, List.map_nil, List.length_cons, List.length_nil, List.replicate, List.append_nil, List.cons_append, List.nil_append, rb_er, so_er, e_sErr, e_sTry, e_iEnumE, e_sSetIx, tup_of, h2, dTr, e0, int_from, hn, cIsi, isInst, tyName, isBook]
      · have : isBook (.tuple [n, rs]) = false := by
          cases n <;> cases rs <;> first | rfl | (simp only [Bool.not_eq_true] at hn; simp [isBook, hn])
        simp [f_is_book, b_is_book, e_vVar, e_vRd, e_vC, e_v1, e_v2, e_c1, e_c2, e_l1, e_l2, e_vL, e_vB, e_vArgs0, e_vArgs, e_vTup, e_vCall, e_vIf, e_bTr, e_bNot, e_bAnd, e_bOr, e_bChain, e_iSeq, e_iRange1, e_iRange2, e_vCut, e_vOpt0, e_vOpt, e_sNx, e_sBk, e_sCt, e_sSeq, e_sSet, e_sOwn, e_sPut, e_sFreeze, e_sRet, e_sExpr, e_sIf, e_sApp, e_sPar, e_sFor, runD, slots, so_ok, rb_ok, rb_none, so_none, po_some, List.getElem?_cons_zero, List.getElem?_cons_succ, List.set_cons_zero, List.set_cons_succ, List.map_cons, List.map_nil, List.length_cons, List.length_nil, List.replicate, List.append_nil, List.cons_append, List.nil_append, rb_er, so_er, e_sErr, e_sTry, e_iEnumE, e_sSetIx, tup_of, h2, dTr, e0, int_from, hn, this]
    | _ => cases h2
  · have : isBook d = false := by
      unfold isBook
      split
      · exact absurd rfl h2
      · rfl
    simp [f_is_book, b_is_book, e_vVar, e_vRd, e_vC, e_v1, e_v2, e_c1, e_c2, e_l1, e_l2, e_vL, e_vB, e_vArgs0, e_vArgs, e_vTup, e_vCall, e_vIf, e_bTr, e_bNot, e_bAnd, e_bOr, e_bChain, e_iSeq, e_iRange1, e_iRange2, e_vCut, e_vOpt0, e_vOpt, e_sNx, e_sBk, e_sCt, e_sSeq, e_sSet, e_sOwn, e_sPut, e_sFreeze, e_sRet, e_sExpr, e_sIf, e_sApp, e_sPar, e_sFor, runD, slots, so_ok, rb_ok, rb_none, so_none, po_some, List.getElem?_cons_zero, List.getElem?_cons_succ, List.set_cons_zero, List.set_cons_succ, List.map_cons, List.map_nil, List.length_cons, List.length_nil, List.replicate, List.append_nil, List.cons_append, List.nil_append, rb_er, so_er, e_sErr, e_sTry, e_iEnumE, e_sSetIx, tup_of, h2, dTr, this]
/-! ### the same by the law's own words -/
theorem ne_nil (xs : List D) : cNe (.list xs) (.list []) = some (!xs.isEmpty) := by
  cases xs <;> rfl
theorem eq_nil (xs : List D) : cEq (.list xs) (.list []) = some xs.isEmpty := by
  cases xs <;> rfl
theorem filter_none {T : D → Bool} (xs : List D) : (xs.filter fun x => !T x).isEmpty = xs.all T := by
  induction xs with
  | nil => rfl
  | cons x xs ih =>
    rw [List.filter_cons, List.all_cons]
    cases T x
    · simp
    · simpa using ih
theorem ix_nat (xs : List D) (k : Nat) : dIx (.tuple xs) (.int (k : Nat)) = xs[k]? := by
  show atD xs (k : Nat) = _
  unfold atD ixAt
  by_cases h : k < xs.length
  · have h' : ((k : Nat) : Int) < ((xs.length : Nat) : Int) := by omega
    have h0 : (0 : Int) ≤ ((k : Nat) : Int) := by omega
    simp [h, List.getElem?_eq_getElem h]
  · have h0 : (0 : Int) ≤ ((k : Nat) : Int) := by omega
    simp [h]
theorem cut_to_t (xs : List D) (k : Nat) (h : k ≤ xs.length) : dCut none (some ((k : Nat) : Int)) (.tuple xs) = some (.tuple (xs.take k)) := by
  have h0 : ¬ ((k : Nat) : Int) < 0 := by omega
  have : cutAt xs.length xs.length (some ((k : Nat) : Int)) = k := by
    unfold cutAt
    dsimp only
    rw [if_neg h0]
    omega
  show some (PyData.tuple ((xs.drop 0).take (cutAt xs.length xs.length (some ((k : Nat) : Int)) - 0))) = _
  rw [this]
  rfl
theorem rules_shaped {n : Int} {rs : List D} (h : rs.all (isRule n) = true) : SeqAt.shaped (.tuple rs) = true ∧ SeqAt.shaped (.list rs) = true := by
  have h1 : rs.all (deepI 2) = true := List.all_eq_true.mpr fun x hx => (rule_deep (List.all_eq_true.mp h x hx)).1
  have h3 := shaped_of (n := 3) (d := PyData.tuple rs) h1
  exact ⟨h3, h3⟩
theorem in_of {n : Int} {rs : List D} {x : D} (h : rs.all (isRule n) = true) (hx : isRule n x = true) : cIn x (.tuple rs) = some (rs.any fun z => PyData.eqv z x) := by
  have h1 := shaped_of (rule_deep hx).1
  have h2 := (rules_shaped h).1
  show (if _ then _ else _) = _
  rw [if_pos (by rw [h1, h2]; rfl)]
theorem notIn_of {n : Int} {rs : List D} {x : D} (h : rs.all (isRule n) = true) (hx : isRule n x = true) : cNotIn x (.tuple rs) = some (!rs.any fun z => PyData.eqv z x) ∧ cNotIn x (.list rs) = some (!rs.any fun z => PyData.eqv z x) := by
  have h1 := shaped_of (rule_deep hx).1
  have h2 := rules_shaped h
  constructor
  · show (if _ then _ else _) = _
    rw [if_pos (by rw [h1, h2.1]; rfl)]
  · show (if _ then _ else _) = _
    rw [if_pos (by rw [h1, h2.2]; rfl)]
theorem twice_none (rs : List D) {T : D → Bool} (hT : ∀ k x, rs[k]? = some x → T (.int (k : Nat)) = (rs.take k).any fun z => PyData.eqv z x) : ((rng 0 rs.length).filter T).isEmpty = fresh [] rs := by
  rw [Bool.eq_iff_iff, List.isEmpty_iff, List.filter_eq_nil_iff, fresh_iff]
  constructor
  · intro h k x hk
    have hl := (List.getElem?_eq_some_iff.mp hk).1
    have := h (.int (k : Nat)) (List.mem_of_getElem? (i := k) (by rw [rng_at 0 _ k hl]; simp))
    rw [hT k x hk] at this
    simpa using this
  · intro h y hy
    obtain ⟨k, hk, rfl⟩ := rng_mem hy
    have e := List.getElem?_eq_getElem hk
    rw [hT k _ e]
    simpa using h k _ e
def again (rs : List D) : D → Bool
  | .int i => (rs.take i.toNat).any fun z => PyData.eqv z (rs[i.toNat]?.getD .none)
  | _ => false
theorem again_at (rs : List D) (k : Nat) (x : D) (hk : rs[k]? = some x) : again rs (.int (k : Nat)) = (rs.take k).any fun z => PyData.eqv z x := by
  unfold again
  dsimp only
  rw [Int.toNat_natCast, hk]
  rfl
theorem again_comp {n : Int} {rs : List D} (hr : rs.all (isRule n) = true) (hl : rs.length ≤ lim) : ∃ fl, lComp (iRange1 (v1 dLen (v2 dIx (vVar 0) (vC (.int 1))))) (.one 2) (c2 cIn (v2 dIx (v2 dIx (vVar 0) (vC (.int 1))) (vVar 2)) (vCut (v2 dIx (vVar 0) (vC (.int 1))) none (some (vVar 2)))) (vVar 2)
    [.d (.tuple [.int n, .tuple rs]), .un, .un] = ok fl ∧ cEq (.list fl) (.list []) = some (fresh [] rs) := by
  have x1 : dIx (.tuple [.int n, .tuple rs]) (.int 1) = some (.tuple rs) := rfl
  refine ⟨_, lcomp_filter (xs := rng 0 rs.length) (again rs) id ?_ (by rw [rng_size]; exact hl) (fun y hy => ?_) fun x _ _ => rfl, ?_⟩
  · have : rng1 (.int ((rs.length : Nat) : Int)) = some (rng 0 rs.length) := by
      simp only [rng1, small_nat hl, if_true, Int.toNat_natCast]
    simp only [e_vVar, e_vRd, e_vC, e_v1, e_v2, e_c1, e_c2, e_l1, e_l2, e_vL, e_vB, e_vArgs0, e_vArgs, e_vTup, e_vCall, e_vIf, e_bTr, e_bNot, e_bAnd, e_bOr, e_bChain, e_iSeq, e_iRange1, e_iRange2, e_vCut, e_vOpt0, e_vOpt, e_sNx, e_sBk, e_sCt, e_sSeq, e_sSet, e_sOwn, e_sPut, e_sFreeze, e_sRet, e_sExpr, e_sIf, e_sApp, e_sPar, e_sFor, runD, slots, so_ok, rb_ok, rb_none, so_none, po_some, List.getElem?_cons_zero, List.getElem?_cons_succ, List.set_cons_zero, List.set_cons_succ, List.map_cons, List.map_nil, List.length_cons, List.length_nil, List.replicate, List.append_nil, List.cons_append, List.nil_append, rb_er, so_er, e_sErr, e_sTry, e_iEnumE, e_sSetIx, x1, dLen, this]
  · obtain ⟨k, hk, rfl⟩ := rng_mem hy
    have e := List.getElem?_eq_getElem hk
    have a1 := in_of (n := n) (rs := rs.take k) (x := rs[k]) (List.all_eq_true.mpr fun x hx => List.all_eq_true.mp hr x (List.mem_of_mem_take hx)) (List.all_eq_true.mp hr _ (List.getElem_mem hk))
    simp only [e_vVar, e_vRd, e_vC, e_v1, e_v2, e_c1, e_c2, e_l1, e_l2, e_vL, e_vB, e_vArgs0, e_vArgs, e_vTup, e_vCall, e_vIf, e_bTr, e_bNot, e_bAnd, e_bOr, e_bChain, e_iSeq, e_iRange1, e_iRange2, e_vCut, e_vOpt0, e_vOpt, e_sNx, e_sBk, e_sCt, e_sSeq, e_sSet, e_sOwn, e_sPut, e_sFreeze, e_sRet, e_sExpr, e_sIf, e_sApp, e_sPar, e_sFor, runD, slots, so_ok, rb_ok, rb_none, so_none, po_some, List.getElem?_cons_zero, List.getElem?_cons_succ, List.set_cons_zero, List.set_cons_succ, List.map_cons, List.map_nil, List.length_cons, List.length_nil, List.replicate, List.append_nil, List.cons_append, List.nil_append, rb_er, so_er, e_sErr, e_sTry, e_iEnumE, e_sSetIx, x1, ix_nat, e, cut_to_t rs k (Nat.le_of_lt hk), a1, again_at rs k _ e]
  · rw [List.map_id, eq_nil, twice_none rs (again_at rs)]
/-- a list of whole numbers -/
abbrev nums (ns : List Int) : D := .list (ns.map PyData.int)
theorem cell_ (ns : List Int) (k : Nat) : ∃ c, f_law_cell [nums ns, .int (k : Nat)] = ok (.int c) := by
  by_cases h : k < ns.length
  · have e : (ns.map PyData.int)[k]? = some (.int ns[k]) := by rw [List.getElem?_map, List.getElem?_eq_getElem h]; rfl
    refine ⟨ns[k], ?_⟩
    simp [f_law_cell, b_law_cell, e_vVar, e_vRd, e_vC, e_v1, e_v2, e_c1, e_c2, e_l1, e_l2, e_vL, e_vB, e_vArgs0, e_vArgs, e_vTup, e_vCall, e_vIf, e_bTr, e_bNot, e_bAnd, e_bOr, e_bChain, e_iSeq, e_iRange1, e_iRange2, e_vCut, e_vOpt0, e_vOpt, e_sNx, e_sBk, e_sCt, e_sSeq, e_sSet, e_sOwn, e_sPut, e_sFreeze, e_sRet, e_sExpr, e_sIf, e_sApp, e_sPar, e_sFor, runD, slots, so_ok, rb_ok, rb_none, so_none, po_some, List.getElem?_cons_zero, List.getElem?_cons_succ, List.set_cons_zero, List.set_cons_succ, List.map_cons, List.map_nil, List.length_cons, List.length_nil, List.replicate, List.append_nil, List.cons_append, List.nil_append, rb_er, so_er, e_sErr, e_sTry, e_iEnumE, e_sSetIx, len_list, lt_int, h, ixl, e]
  · exact ⟨0, by simp [f_law_cell, b_law_cell, e_vVar, e_vRd, e_vC, e_v1, e_v2, e_c1, e_c2, e_l1, e_l2, e_vL, e_vB, e_vArgs0, e_vArgs, e_vTup, e_vCall, e_vIf, e_bTr, e_bNot, e_bAnd, e_bOr, e_bChain, e_iSeq, e_iRange1, e_iRange2, e_vCut, e_vOpt0, e_vOpt, e_sNx, e_sBk, e_sCt, e_sSeq, e_sSet, e_sOwn, e_sPut, e_sFreeze, e_sRet, e_sExpr, e_sIf, e_sApp, e_sPar, e_sFor, runD, slots, so_ok, rb_ok, rb_none, so_none, po_some, List.getElem?_cons_zero, List.getElem?_cons_succ, List.set_cons_zero, List.set_cons_succ, List.map_cons, List.map_nil, List.length_cons, List.length_nil, List.replicate, List.append_nil, List.cons_append, List.nil_append, rb_er, so_er, e_sErr, e_sTry, e_iEnumE, e_sSetIx, len_list, lt_int, h]⟩
theorem pow18 : dPow (.int 10) (.int 18) = some (.int 1000000000000000000) := rfl
theorem draws_ (c : Int) (m : Nat) (hm : m ≤ 100) : ∃ xs : List Int, f_law_draws [.int c, .int (m : Nat)] = ok (nums xs) ∧ xs.length = m := by
  have hr : rng1 (.int (m : Nat)) = some (rng 0 m) := rng1_nat (Nat.le_trans hm (by decide))
  have s1 : small64 12345 = true := by decide
  have s2 : small64 69621 = true := by decide
  have s3 : small64 40692 = true := by decide
  suffices h : ∃ xs : List Int, xs.length = m ∧ b_law_draws (slots 6 [.int c, .int (m : Nat)]) = some (.rt (nums xs)) by
    obtain ⟨xs, h1, h2⟩ := h
    refine ⟨xs, ?_, h1⟩
    simp only [f_law_draws, runD, h2, List.length_cons, List.length_nil, if_true]
  simp only [b_law_draws, e_vVar, e_vRd, e_vC, e_v1, e_v2, e_c1, e_c2, e_l1, e_l2, e_vL, e_vB, e_vArgs0, e_vArgs, e_vTup, e_vCall, e_vIf, e_bTr, e_bNot, e_bAnd, e_bOr, e_bChain, e_iSeq, e_iRange1, e_iRange2, e_vCut, e_vOpt0, e_vOpt, e_sNx, e_sBk, e_sCt, e_sSeq, e_sSet, e_sOwn, e_sPut, e_sFreeze, e_sRet, e_sExpr, e_sIf, e_sApp, e_sPar, e_sFor, runD, slots, so_ok, rb_ok, rb_none, so_none, po_some, List.getElem?_cons_zero, List.getElem?_cons_succ, List.set_cons_zero, List.set_cons_succ, List.map_cons, List.map_nil, List.length_cons, List.length_nil, List.replicate, List.append_nil, List.cons_append, List.nil_append, rb_er, so_er, e_sErr, e_sTry, e_iEnumE, e_sSetIx, hr]
  generalize hL : loopF _ _ _ _ = L
  obtain ⟨r', rfl, xs, rest, s4, s5, rfl, hl⟩ := loop_out hL (fun k r => ∃ (xs : List Int) (rest : Int) (s4 s5 : Slot), r = [.d (.int c), .d (.int (m : Nat)), .own (xs.map PyData.int), .d (.int rest), s4, s5] ∧ xs.length = k) ⟨[], c, .un, .un, rfl, rfl⟩ (by
    rintro k x r hx ⟨xs, rest, s4, s5, rfl, hl⟩
    have hk : k < m := by have := (List.getElem?_eq_some_iff.mp hx).1; rw [rng_size] at this; exact this
    rw [rng_at 0 m k hk] at hx
    cases hx
    have hn : (xs.map PyData.int).length < lim := by rw [List.length_map]; have : lim = 16777216 := rfl; omega
    generalize (0 + (k : Int)) = j
    by_cases h : 1000000000000000000 ≤ c ∧ 0 < rest
    · refine ⟨_, [.d (.int c), .d (.int (m : Nat)), .own ((xs ++ [rest % 1000000]).map PyData.int), .d (.int (rest / 1000000)), .d (.int j), .d (.int rest)], rfl, ?_, _, _, _, _, rfl, by simp [hl]⟩
      simp [e_vVar, e_vRd, e_vC, e_v1, e_v2, e_c1, e_c2, e_l1, e_l2, e_vL, e_vB, e_vArgs0, e_vArgs, e_vTup, e_vCall, e_vIf, e_bTr, e_bNot, e_bAnd, e_bOr, e_bChain, e_iSeq, e_iRange1, e_iRange2, e_vCut, e_vOpt0, e_vOpt, e_sNx, e_sBk, e_sCt, e_sSeq, e_sSet, e_sOwn, e_sPut, e_sFreeze, e_sRet, e_sExpr, e_sIf, e_sApp, e_sPar, e_sFor, runD, slots, so_ok, rb_ok, rb_none, so_none, po_some, List.getElem?_cons_zero, List.getElem?_cons_succ, List.set_cons_zero, List.set_cons_succ, List.map_cons, List.map_nil, List.length_cons, List.length_nil, List.replicate, List.append_nil, List.cons_append, List.nil_append, rb_er, so_er, e_sErr, e_sTry, e_iEnumE, e_sSetIx, mod_int, int_int, mulL, mulR, small_mod, s1, s2, s3, add_int, div_int, ge_int, gt_int, pow18, h, hn, -List.length_map]
    · have hh : (decide (1000000000000000000 ≤ c) = true → (decide (0 < rest)) = false) := by
        intro h1
        simp only [decide_eq_true_eq, decide_eq_false_iff_not] at h1 ⊢
        exact fun h2 => h ⟨h1, h2⟩
      obtain ⟨v, hv⟩ : ∃ v : Int, v = ((c % 2147483647 * (j + 2) + 12345 * j + 1) % 2147483647 * ((c % 2147483647 * (j + 2) + 12345 * j + 1) % 2147483647) % 2147483629 * 69621 + 40692 * (j + 1)) % 2147483423 / 8 := ⟨_, rfl⟩
      refine ⟨_, [.d (.int c), .d (.int (m : Nat)), .own ((xs ++ [v % 1000000]).map PyData.int), .d (.int rest), .d (.int j), .d (.int v)], rfl, ?_, _, _, _, _, rfl, by simp [hl]⟩
      by_cases h1 : 1000000000000000000 ≤ c
      · have h2 : ¬ 0 < rest := fun h2 => h ⟨h1, h2⟩
        simp [e_vVar, e_vRd, e_vC, e_v1, e_v2, e_c1, e_c2, e_l1, e_l2, e_vL, e_vB, e_vArgs0, e_vArgs, e_vTup, e_vCall, e_vIf, e_bTr, e_bNot, e_bAnd, e_bOr, e_bChain, e_iSeq, e_iRange1, e_iRange2, e_vCut, e_vOpt0, e_vOpt, e_sNx, e_sBk, e_sCt, e_sSeq, e_sSet, e_sOwn, e_sPut, e_sFreeze, e_sRet, e_sExpr, e_sIf, e_sApp, e_sPar, e_sFor, runD, slots, so_ok, rb_ok, rb_none, so_none, po_some, List.getElem?_cons_zero, List.getElem?_cons_succ, List.set_cons_zero, List.set_cons_succ, List.map_cons, List.map_nil, List.length_cons, List.length_nil, List.replicate, List.append_nil, List.cons_append, List.nil_append, rb_er, so_er, e_sErr, e_sTry, e_iEnumE, e_sSetIx, mod_int, int_int, mulL, mulR, small_mod, s1, s2, s3, add_int, div_int, ge_int, gt_int, pow18, h1, h2, hn, hv, -List.length_map]
      · simp [e_vVar, e_vRd, e_vC, e_v1, e_v2, e_c1, e_c2, e_l1, e_l2, e_vL, e_vB, e_vArgs0, e_vArgs, e_vTup, e_vCall, e_vIf, e_bTr, e_bNot, e_bAnd, e_bOr, e_bChain, e_iSeq, e_iRange1, e_iRange2, e_vCut, e_vOpt0, e_vOpt, e_sNx, e_sBk, e_sCt, e_sSeq, e_sSet, e_sOwn, e_sPut, e_sFreeze, e_sRet, e_sExpr, e_sIf, e_sApp, e_sPar, e_sFor, runD, slots, so_ok, rb_ok, rb_none, so_none, po_some, List.getElem?_cons_zero, List.getElem?_cons_succ, List.set_cons_zero, List.set_cons_succ, List.map_cons, List.map_nil, List.length_cons, List.length_nil, List.replicate, List.append_nil, List.cons_append, List.nil_append, rb_er, so_er, e_sErr, e_sTry, e_iEnumE, e_sSetIx, mod_int, int_int, mulL, mulR, small_mod, s1, s2, s3, add_int, div_int, ge_int, gt_int, pow18, h1, hn, hv, -List.length_map])
  rw [rng_size] at hl
  refine ⟨xs, hl, ?_⟩
  simp only [e_vVar, e_vRd, e_vC, e_v1, e_v2, e_c1, e_c2, e_l1, e_l2, e_vL, e_vB, e_vArgs0, e_vArgs, e_vTup, e_vCall, e_vIf, e_bTr, e_bNot, e_bAnd, e_bOr, e_bChain, e_iSeq, e_iRange1, e_iRange2, e_vCut, e_vOpt0, e_vOpt, e_sNx, e_sBk, e_sCt, e_sSeq, e_sSet, e_sOwn, e_sPut, e_sFreeze, e_sRet, e_sExpr, e_sIf, e_sApp, e_sPar, e_sFor, runD, slots, so_ok, rb_ok, rb_none, so_none, po_some, List.getElem?_cons_zero, List.getElem?_cons_succ, List.set_cons_zero, List.set_cons_succ, List.map_cons, List.map_nil, List.length_cons, List.length_nil, List.replicate, List.append_nil, List.cons_append, List.nil_append, rb_er, so_er, e_sErr, e_sTry, e_iEnumE, e_sSetIx, frz]
/-! ### rules -/
theorem rule_pre (x n kind : Int) (h2 : 2 ≤ n) (h4 : n ≤ 4) : ∃ a o w : Int, (0 ≤ a ∧ a ≤ n - 1) ∧ (0 ≤ o ∧ o ≤ n - 1) ∧ (0 ≤ w ∧ w ≤ n - 1) ∧ o ≠ w ∧ ∀ q : SX, (sSeq (sSet 3 (v2 dMod (v1 dInt (vVar 0)) (vVar 1))) (sSeq (sSet 4 (v2 dMod (v1 dInt (v2 dDiv (vVar 0) (vVar 1))) (vVar 1))) (sSeq (sSet 5 (v2 dMod (v1 dInt (v2 dAdd (v2 dAdd (vVar 4) (vC (.int 1))) (v2 dMod (v1 dInt (v2 dDiv (vVar 0) (v2 dMul (vVar 1) (vVar 1)))) (v2 dSub (vVar 1) (vC (.int 1)))))) (vVar 1))) (sSeq (sIf (bOr (c2 cEq (vVar 2) (vC (.int 1))) (bAnd (c2 cEq (vVar 2) (vC (.int 2))) (c2 cGt (vVar 3) (vC (.int 1))))) (sPar 4 5 (v2 dMin (vVar 4) (vVar 5)) (v2 dMax (vVar 4) (vVar 5))) (sIf (c2 cEq (vVar 2) (vC (.int 2))) (sPar 4 5 (v2 dMax (vVar 4) (vVar 5)) (v2 dMin (vVar 4) (vVar 5))) sNx)) q)))) (slots 9 [.int x, .int n, .int kind]) =
    q [.d (.int x), .d (.int n), .d (.int kind), .d (.int a), .d (.int o), .d (.int w), .un, .un, .un] := by
  have hn0 : 0 < n := by omega
  have hb : n < 1073741824 := by omega
  have hn1 : 0 < n - 1 := by omega
  have hn1' : 1 < n := by omega
  have hnn : small64 n = true := small_of n (by omega) (by omega)
  have hsq : 0 < n * n ∧ n * n < 1073741824 := by
    have : n = 2 ∨ n = 3 ∨ n = 4 := by omega
    rcases this with e | e | e <;> subst e <;> decide
  obtain ⟨o, ho⟩ : ∃ o, o = x / n % n := ⟨_, rfl⟩
  obtain ⟨z, hz⟩ : ∃ z, z = x / (n * n) % (n - 1) := ⟨_, rfl⟩
  obtain ⟨w, hw⟩ : ∃ w, w = (o + 1 + z) % n := ⟨_, rfl⟩
  obtain ⟨a, ha⟩ : ∃ a, a = x % n := ⟨_, rfl⟩
  have a1 := Int.emod_nonneg x (Int.ne_of_gt hn0)
  have a2 := Int.emod_lt_of_pos x hn0
  have o1 := Int.emod_nonneg (x / n) (Int.ne_of_gt hn0)
  have o2 := Int.emod_lt_of_pos (x / n) hn0
  have z1 := Int.emod_nonneg (x / (n * n)) (Int.ne_of_gt hn1)
  have z2 := Int.emod_lt_of_pos (x / (n * n)) hn1
  have w1 := Int.emod_nonneg (o + 1 + z) (Int.ne_of_gt hn0)
  have w2 := Int.emod_lt_of_pos (o + 1 + z) hn0
  rw [← ha] at a1 a2
  rw [← ho] at o1 o2
  rw [← hz] at z1 z2
  rw [← hw] at w1 w2
  have ne : o ≠ w := by
    have : n = 2 ∨ n = 3 ∨ n = 4 := by omega
    rcases this with e | e | e <;> subst e <;> omega
  have go : ∀ q : SX, (sSeq (sSet 3 (v2 dMod (v1 dInt (vVar 0)) (vVar 1))) (sSeq (sSet 4 (v2 dMod (v1 dInt (v2 dDiv (vVar 0) (vVar 1))) (vVar 1))) (sSeq (sSet 5 (v2 dMod (v1 dInt (v2 dAdd (v2 dAdd (vVar 4) (vC (.int 1))) (v2 dMod (v1 dInt (v2 dDiv (vVar 0) (v2 dMul (vVar 1) (vVar 1)))) (v2 dSub (vVar 1) (vC (.int 1)))))) (vVar 1))) (sSeq (sIf (bOr (c2 cEq (vVar 2) (vC (.int 1))) (bAnd (c2 cEq (vVar 2) (vC (.int 2))) (c2 cGt (vVar 3) (vC (.int 1))))) (sPar 4 5 (v2 dMin (vVar 4) (vVar 5)) (v2 dMax (vVar 4) (vVar 5))) (sIf (c2 cEq (vVar 2) (vC (.int 2))) (sPar 4 5 (v2 dMax (vVar 4) (vVar 5)) (v2 dMin (vVar 4) (vVar 5))) sNx)) q)))) (slots 9 [.int x, .int n, .int kind]) =
      (if kind = 1 ∨ (kind = 2 ∧ 1 < a) then q [.d (.int x), .d (.int n), .d (.int kind), .d (.int a), .d (.int (if w < o then w else o)), .d (.int (if w > o then w else o)), .un, .un, .un] else
        if kind = 2 then q [.d (.int x), .d (.int n), .d (.int kind), .d (.int a), .d (.int (if w > o then w else o)), .d (.int (if w < o then w else o)), .un, .un, .un] else q [.d (.int x), .d (.int n), .d (.int kind), .d (.int a), .d (.int o), .d (.int w), .un, .un, .un]) := by
    intro q
    by_cases k1 : kind = 1
    · simp [e_vVar, e_vRd, e_vC, e_v1, e_v2, e_c1, e_c2, e_l1, e_l2, e_vL, e_vB, e_vArgs0, e_vArgs, e_vTup, e_vCall, e_vIf, e_bTr, e_bNot, e_bAnd, e_bOr, e_bChain, e_iSeq, e_iRange1, e_iRange2, e_vCut, e_vOpt0, e_vOpt, e_sNx, e_sBk, e_sCt, e_sSeq, e_sSet, e_sOwn, e_sPut, e_sFreeze, e_sRet, e_sExpr, e_sIf, e_sApp, e_sPar, e_sFor, runD, slots, so_ok, rb_ok, rb_none, so_none, po_some, List.getElem?_cons_zero, List.getElem?_cons_succ, List.set_cons_zero, List.set_cons_succ, List.map_cons, List.map_nil, List.length_cons, List.length_nil, List.replicate, List.append_nil, List.cons_append, List.nil_append, rb_er, so_er, e_sErr, e_sTry, e_iEnumE, e_sSetIx, mod_int, int_int, mulL, add_int, sub_int, div_int, gt_int, eq_int, min_int, max_int, hn0, hb, hn1, hn1', hnn, hsq, ← ho, ← hz, ← hw, ← ha, k1]
    · by_cases k2 : kind = 2
      · by_cases k3 : 1 < a <;>
        simp [e_vVar, e_vRd, e_vC, e_v1, e_v2, e_c1, e_c2, e_l1, e_l2, e_vL, e_vB, e_vArgs0, e_vArgs, e_vTup, e_vCall, e_vIf, e_bTr, e_bNot, e_bAnd, e_bOr, e_bChain, e_iSeq, e_iRange1, e_iRange2, e_vCut, e_vOpt0, e_vOpt, e_sNx, e_sBk, e_sCt, e_sSeq, e_sSet, e_sOwn, e_sPut, e_sFreeze, e_sRet, e_sExpr, e_sIf, e_sApp, e_sPar, e_sFor, runD, slots, so_ok, rb_ok, rb_none, so_none, po_some, List.getElem?_cons_zero, List.getElem?_cons_succ, List.set_cons_zero, List.set_cons_succ, List.map_cons, List.map_nil, List.length_cons, List.length_nil, List.replicate, List.append_nil, List.cons_append, List.nil_append, rb_er, so_er, e_sErr, e_sTry, e_iEnumE, e_sSetIx, mod_int, int_int, mulL, add_int, sub_int, div_int, gt_int, eq_int, min_int, max_int, hn0, hb, hn1, hn1', hnn, hsq, ← ho, ← hz, ← hw, ← ha, k1, k2, k3]
      · simp [e_vVar, e_vRd, e_vC, e_v1, e_v2, e_c1, e_c2, e_l1, e_l2, e_vL, e_vB, e_vArgs0, e_vArgs, e_vTup, e_vCall, e_vIf, e_bTr, e_bNot, e_bAnd, e_bOr, e_bChain, e_iSeq, e_iRange1, e_iRange2, e_vCut, e_vOpt0, e_vOpt, e_sNx, e_sBk, e_sCt, e_sSeq, e_sSet, e_sOwn, e_sPut, e_sFreeze, e_sRet, e_sExpr, e_sIf, e_sApp, e_sPar, e_sFor, runD, slots, so_ok, rb_ok, rb_none, so_none, po_some, List.getElem?_cons_zero, List.getElem?_cons_succ, List.set_cons_zero, List.set_cons_succ, List.map_cons, List.map_nil, List.length_cons, List.length_nil, List.replicate, List.append_nil, List.cons_append, List.nil_append, rb_er, so_er, e_sErr, e_sTry, e_iEnumE, e_sSetIx, mod_int, int_int, mulL, add_int, sub_int, div_int, gt_int, eq_int, min_int, max_int, hn0, hb, hn1, hn1', hnn, hsq, ← ho, ← hz, ← hw, ← ha, k1, k2]
  by_cases c1 : kind = 1 ∨ (kind = 2 ∧ 1 < a)
  · refine ⟨a, if w < o then w else o, if w > o then w else o, by omega, by split <;> omega, by split <;> omega, by split <;> split <;> omega, fun q => ?_⟩
    rw [go, if_pos c1]
  · by_cases c2 : kind = 2
    · refine ⟨a, if w > o then w else o, if w < o then w else o, by omega, by split <;> omega, by split <;> omega, by split <;> split <;> omega, fun q => ?_⟩
      rw [go, if_neg c1, if_pos c2]
    · refine ⟨a, o, w, by omega, by omega, by omega, ne, fun q => ?_⟩
      rw [go, if_neg c1, if_neg c2]
theorem num_is {lo hi i : Int} (h1 : lo ≤ i) (h2 : i ≤ hi) : isNum lo hi (.int i) = true := by simp [isNum, h1, h2]
theorem rng_nums (n : Nat) : (rng 0 n).all (isNum 0 ((n : Nat) - 1)) = true := List.all_eq_true.mpr fun x hx => by
  obtain ⟨k, hk, rfl⟩ := rng_mem hx
  exact num_is (by omega) (by omega)
theorem rule_ (x n kind : Int) (h2 : 2 ≤ n) (h4 : n ≤ 4) : ∃ d, f_law_rule [.int x, .int n, .int kind] = ok d ∧ isRule n d = true := by
  obtain ⟨a, o, w, ha, ho, hw, ne, pre⟩ := rule_pre x n kind h2 h4
  obtain ⟨m, rfl⟩ : ∃ m : Nat, n = m := ⟨n.toNat, by omega⟩
  suffices h : ∃ s : List D, s.length = m ∧ s.all (isNum 0 ((m : Nat) - 1)) = true ∧ b_law_rule (slots 9 [.int x, .int (m : Nat), .int kind]) = some (.rt (.tuple [.int a, .int o, .int w, .tuple s])) by
    obtain ⟨s, s1, s2, s3⟩ := h
    refine ⟨.tuple [.int a, .int o, .int w, .tuple s], ?_, ?_⟩
    · simp only [f_law_rule, runD, s3, List.length_cons, List.length_nil, if_true]
    · have e : PyData.eqv (.int o) (.int w) = false := by simpa [PyData.eqv] using ne
      simp [isRule, num_is ha.1 ha.2, num_is ho.1 ho.2, num_is hw.1 hw.2, e, s1, s2]
  rw [b_law_rule, pre]
  have hr : rng1 (.int (m : Nat)) = some (rng 0 m) := rng1_nat (by have : lim = 16777216 := rfl; omega)
  have hr2 : lRange1 (.int (m : Nat)) = some (rng 0 m) := lrng1_nat (by have : lim = 16777216 := rfl; omega)
  have hn0 : 0 < (m : Int) := by omega
  have hb : (m : Int) < 1073741824 := by omega
  have hnn : small64 (m : Int) = true := small_of m (by omega) (by omega)
  have hsq : 0 < (m : Int) * m * (m - 1) ∧ (m : Int) * m * (m - 1) < 1073741824 ∧ small64 ((m : Int) * m) = true := by
    have : m = 2 ∨ m = 3 ∨ m = 4 := by omega
    rcases this with e | e | e <;> subst e <;> decide
  simp only [e_vVar, e_vRd, e_vC, e_v1, e_v2, e_c1, e_c2, e_l1, e_l2, e_vL, e_vB, e_vArgs0, e_vArgs, e_vTup, e_vCall, e_vIf, e_bTr, e_bNot, e_bAnd, e_bOr, e_bChain, e_iSeq, e_iRange1, e_iRange2, e_vCut, e_vOpt0, e_vOpt, e_sNx, e_sBk, e_sCt, e_sSeq, e_sSet, e_sOwn, e_sPut, e_sFreeze, e_sRet, e_sExpr, e_sIf, e_sApp, e_sPar, e_sFor, runD, slots, so_ok, rb_ok, rb_none, so_none, po_some, List.getElem?_cons_zero, List.getElem?_cons_succ, List.set_cons_zero, List.set_cons_succ, List.map_cons, List.map_nil, List.length_cons, List.length_nil, List.replicate, List.append_nil, List.cons_append, List.nil_append, rb_er, so_er, e_sErr, e_sTry, e_iEnumE, e_sSetIx, hr, sub_int, mulL, hnn, hsq, div_int]
  generalize hL : loopF _ _ _ _ = L
  obtain ⟨r', rfl, sg, rest, s8, rfl, hl, hs⟩ := loop_out hL (fun k r => ∃ (sg : List D) (rest : Int) (s8 : Slot), r = [.d (.int x), .d (.int (m : Nat)), .d (.int kind), .d (.int a), .d (.int o), .d (.int w), .d (.int rest), .own sg, s8] ∧ sg.length = k ∧ sg.all (isNum 0 ((m : Nat) - 1)) = true)
    ⟨[], _, .un, rfl, rfl, rfl⟩ (by
    rintro k y r hx ⟨sg, rest, s8, rfl, hl, hs⟩
    have hk : k < m := by have := (List.getElem?_eq_some_iff.mp hx).1; rw [rng_size] at this; exact this
    rw [rng_at 0 m k hk] at hx
    cases hx
    have hn : sg.length < lim := by have : lim = 16777216 := rfl; omega
    have b1 := Int.emod_nonneg rest (Int.ne_of_gt hn0)
    have b2 := Int.emod_lt_of_pos rest hn0
    refine ⟨_, [.d (.int x), .d (.int (m : Nat)), .d (.int kind), .d (.int a), .d (.int o), .d (.int w), .d (.int (rest / m)), .own (sg ++ [.int (rest % m)]), .d (.int (0 + (k : Int)))], rfl, ?_, _, _, _, rfl, by simp [hl], ?_⟩
    · simp [e_vVar, e_vRd, e_vC, e_v1, e_v2, e_c1, e_c2, e_l1, e_l2, e_vL, e_vB, e_vArgs0, e_vArgs, e_vTup, e_vCall, e_vIf, e_bTr, e_bNot, e_bAnd, e_bOr, e_bChain, e_iSeq, e_iRange1, e_iRange2, e_vCut, e_vOpt0, e_vOpt, e_sNx, e_sBk, e_sCt, e_sSeq, e_sSet, e_sOwn, e_sPut, e_sFreeze, e_sRet, e_sExpr, e_sIf, e_sApp, e_sPar, e_sFor, runD, slots, so_ok, rb_ok, rb_none, so_none, po_some, List.getElem?_cons_zero, List.getElem?_cons_succ, List.set_cons_zero, List.set_cons_succ, List.map_cons, List.map_nil, List.length_cons, List.length_nil, List.replicate, List.append_nil, List.cons_append, List.nil_append, rb_er, so_er, e_sErr, e_sTry, e_iEnumE, e_sSetIx, mod_int rest m hn0, int_int, div_int rest m hn0 hb, hn]
    · rw [List.all_append, hs]
      simp [isNum]
      omega)
  rw [rng_size] at hl
  by_cases h3 : rest % 3 = 0
  · exact ⟨rng 0 m, rng_size 0 m, rng_nums m, by simp [e_vVar, e_vRd, e_vC, e_v1, e_v2, e_c1, e_c2, e_l1, e_l2, e_vL, e_vB, e_vArgs0, e_vArgs, e_vTup, e_vCall, e_vIf, e_bTr, e_bNot, e_bAnd, e_bOr, e_bChain, e_iSeq, e_iRange1, e_iRange2, e_vCut, e_vOpt0, e_vOpt, e_sNx, e_sBk, e_sCt, e_sSeq, e_sSet, e_sOwn, e_sPut, e_sFreeze, e_sRet, e_sExpr, e_sIf, e_sApp, e_sPar, e_sFor, runD, slots, so_ok, rb_ok, rb_none, so_none, po_some, List.getElem?_cons_zero, List.getElem?_cons_succ, List.set_cons_zero, List.set_cons_succ, List.map_cons, List.map_nil, List.length_cons, List.length_nil, List.replicate, List.append_nil, List.cons_append, List.nil_append, rb_er, so_er, e_sErr, e_sTry, e_iEnumE, e_sSetIx, mod_int, int_int, eq_int, h3, hr2, tup_list]⟩
  · exact ⟨sg, hl, hs, by simp [e_vVar, e_vRd, e_vC, e_v1, e_v2, e_c1, e_c2, e_l1, e_l2, e_vL, e_vB, e_vArgs0, e_vArgs, e_vTup, e_vCall, e_vIf, e_bTr, e_bNot, e_bAnd, e_bOr, e_bChain, e_iSeq, e_iRange1, e_iRange2, e_vCut, e_vOpt0, e_vOpt, e_sNx, e_sBk, e_sCt, e_sSeq, e_sSet, e_sOwn, e_sPut, e_sFreeze, e_sRet, e_sExpr, e_sIf, e_sApp, e_sPar, e_sFor, runD, slots, so_ok, rb_ok, rb_none, so_none, po_some, List.getElem?_cons_zero, List.getElem?_cons_succ, List.set_cons_zero, List.set_cons_succ, List.map_cons, List.map_nil, List.length_cons, List.length_nil, List.replicate, List.append_nil, List.cons_append, List.nil_append, rb_er, so_er, e_sErr, e_sTry, e_iEnumE, e_sSetIx, mod_int, int_int, eq_int, h3, tup_list]⟩
theorem many_of (v : Int) (h0 : 0 ≤ v) (h : v < 8) : ∃ n : Int, 1 ≤ n ∧ n ≤ 4 ∧ dIx (.list [.int 2, .int 3, .int 4, .int 3, .int 4, .int 2, .int 4, .int 1]) (.int v) = some (.int n) := by
  have : v = 0 ∨ v = 1 ∨ v = 2 ∨ v = 3 ∨ v = 4 ∨ v = 5 ∨ v = 6 ∨ v = 7 := by omega
  rcases this with e | e | e | e | e | e | e | e <;> subst e <;> exact ⟨_, by decide, by decide, rfl⟩
/-- what a law's book is like -/
structure Bk (d : D) (n : Int) (rs : List D) : Prop where
  eq : d = .tuple [.int n, .tuple rs]
  n1 : 1 ≤ n
  n4 : n ≤ 4
  len : rs.length ≤ 12
  ok : rs.all (isRule n) = true
  once : fresh [] rs = true
theorem Bk.is {d : D} {n : Int} {rs : List D} (b : Bk d n rs) : isBook d = true := by
  rw [b.eq]
  simp [isBook, num_is b.n1 b.n4, b.len, b.ok, b.once]
theorem nums_mem {ns : List Int} {x : D} (h : x ∈ ns.map PyData.int) : ∃ i, x = .int i := by
  obtain ⟨i, _, e⟩ := List.mem_map.mp h
  exact ⟨i, e.symm⟩
/-! ### odd things and spoilt ones -/
def OddOk (d : D) : Bool := lv 2 d && decide (wt d ≤ 4)
theorem lv_cut {n : Nat} {xs : List D} {lo hi : Option Int} (h : xs.all (lv n) = true) : (cutD xs lo hi).all (lv n) = true := List.all_eq_true.mpr fun x hx => List.all_eq_true.mp h x (cutD_sub hx)
theorem big : lim = 16777216 := rfl
/-! ### the ways to the parts -/
def okPath : D → List Nat → Prop
  | _, [] => True
  | d, i :: is => ∃ xs e, seqOf d = some xs ∧ xs[i]? = some e ∧ okPath e is
abbrev pth (is : List Nat) : D := .list (is.map fun (i : Nat) => .int (i : Nat))
theorem wt_at {xs : List D} {i : Nat} {e : D} (h : xs[i]? = some e) : wts (xs.take i) + (wt e + wts (xs.drop (i + 1))) = wts xs := by
  have h1 := wts_take xs i
  have h2 : xs.drop i = e :: xs.drop (i + 1) := by
    obtain ⟨hi, rfl⟩ := List.getElem?_eq_some_iff.mp h
    exact (List.getElem_cons_drop hi).symm
  rw [h2, wts] at h1
  exact h1
theorem seq_cases {d : D} {xs : List D} (h : seqOf d = some xs) : d = .list xs ∨ d = .tuple xs := by
  cases d with
  | list ys => cases h; exact .inl rfl
  | tuple ys => cases h; exact .inr rfl
  | _ => cases h
theorem path_len : ∀ (is : List Nat) (n : Nat) (d : D), okPath d is → lv n d = true → is.length ≤ n
  | [], _, _, _, _ => Nat.zero_le _
  | i :: is, n, d, ⟨xs, c, h1, h2, h3⟩, hd => by
    cases n with
    | zero => rcases seq_cases h1 with rfl | rfl <;> cases hd
    | succ n =>
      have hx : xs.all (lv n) = true := by rcases seq_cases h1 with rfl | rfl <;> exact hd
      have := path_len is n c h3 (List.all_eq_true.mp hx c (List.mem_of_getElem? h2))
      rw [List.length_cons]
      omega
/-! ### the law -/
theorem Bk.size {d : D} {n : Int} {rs : List D} (b : Bk d n rs) : lv 4 d = true ∧ wt d ≤ 200 := by
  have one : ∀ x, isRule n x = true → lv 2 x = true ∧ wt x ≤ 9 := by
    intro x hx
    unfold isRule at hx
    split at hx
    · rename_i p q r s
      simp only [Bool.and_eq_true] at hx
      obtain ⟨⟨⟨⟨⟨h1, h2⟩, h3⟩, _⟩, h5⟩, h4⟩ := hx
      obtain ⟨i, rfl, _⟩ := isNum_int h1
      obtain ⟨j, rfl, _⟩ := isNum_int h2
      obtain ⟨k, rfl, _⟩ := isNum_int h3
      have hs : s.all (lv 0) = true ∧ wts s = s.length := by
        clear h5
        induction s with
        | nil => exact ⟨rfl, rfl⟩
        | cons y s ih =>
          rw [List.all_cons, Bool.and_eq_true] at h4
          obtain ⟨m, rfl, _⟩ := isNum_int h4.1
          obtain ⟨g1, g2⟩ := ih h4.2
          exact ⟨by rw [List.all_cons, g1]; rfl, by rw [wts, g2, List.length_cons]; simp only [wt]; omega⟩
      have hl : s.length ≤ 4 := by
        have := b.n4
        rw [beq_iff_eq] at h5
        omega
      refine ⟨?_, ?_⟩
      · show (lv 1 (.int i) && (lv 1 (.int j) && (lv 1 (.int k) && (s.all (lv 0) && true)))) = true
        rw [hs.1]
        rfl
      · simp only [wt, wts, hs.2]
        omega
    · cases hx
  have all : ∀ rs : List D, rs.all (isRule n) = true → rs.all (lv 2) = true ∧ wts rs ≤ 9 * rs.length := by
    intro rs
    induction rs with
    | nil => exact fun _ => ⟨rfl, Nat.le_refl _⟩
    | cons r rs ih =>
      intro h
      rw [List.all_cons, Bool.and_eq_true] at h
      obtain ⟨g1, g2⟩ := ih h.2
      obtain ⟨o1, o2⟩ := one r h.1
      exact ⟨by rw [List.all_cons, o1, g1]; rfl, by rw [wts, List.length_cons]; omega⟩
  obtain ⟨a1, a2⟩ := all rs b.ok
  have hl := b.len
  rw [b.eq]
  refine ⟨?_, ?_⟩
  · show (lv 3 (.int n) && (rs.all (lv 2) && true)) = true
    rw [a1]
    rfl
  · simp only [wt, wts]
    omega
end K24
namespace K24
open PySem DL
theorem check_book_ (d : D) : f_check_book [d] = if isBook d = true then ok .none else er ⟨"BadBook", none⟩ := by
  cases h : isBook d <;> simp [f_check_book, b_check_book, e_vVar, e_vRd, e_vC, e_v1, e_v2, e_c1, e_c2, e_l1, e_l2, e_vL, e_vB, e_vArgs0, e_vArgs, e_vTup, e_vCall, e_vIf, e_bTr, e_bNot, e_bAnd, e_bOr, e_bChain, e_iSeq, e_iRange1, e_iRange2, e_vCut, e_vOpt0, e_vOpt, e_sNx, e_sBk, e_sCt, e_sSeq, e_sSet, e_sOwn, e_sPut, e_sFreeze, e_sRet, e_sExpr, e_sIf, e_sApp, e_sPar, e_sFor, runD, slots, so_ok, rb_ok, rb_none, so_none, po_some, List.getElem?_cons_zero, List.getElem?_cons_succ, List.set_cons_zero, List.set_cons_succ, List.map_cons, List.map_nil, List.length_cons, List.length_nil, List.replicate, List.append_nil, List.cons_append, List.nil_append, rb_er, so_er, e_sErr, e_sTry, e_iEnumE, e_sSetIx, is_book_, h, tr_bool]
theorem book_parts {t : D} (h : isBook t = true) : ∃ n rs, Bk t n rs := by
  unfold isBook at h
  split at h
  · rename_i n rs
    simp only [Bool.and_eq_true, decide_eq_true_eq] at h
    obtain ⟨⟨⟨h1, h2⟩, h3⟩, h4⟩ := h
    obtain ⟨m, e, m1, m4⟩ := isNum_int h1
    cases e
    exact ⟨n, rs, rfl, m1, m4, h2, h3, h4⟩
  · cases h
def okPar : D → Bool
  | .tuple ps => decide (ps.length ≤ 250) && pOk 0 ps
  | _ => false
def isTree (n : Int) : D → Bool
  | .tuple [o, .tuple ps, .tuple ss] => isNum 0 (n - 1) o && (decide (ps.length ≤ 250) && pOk 0 ps) && (((ss.length : Nat) : Int) == ((ps.length : Nat) : Int)) && ss.all (isNum 0 (n - 1))
  | _ => false
theorem three3 (xs : List D) (h : xs.length = 3) : ∃ a b c, xs = [a, b, c] := by
  match xs, h with
  | [a, b, c], _ => exact ⟨a, b, c, rfl⟩
/-- of the form, whatever its entries are -/
def isShape (n : Int) : D → Bool
  | .tuple [o, p, s] => isNum 0 (n - 1) o && okPar p && (match p with | .tuple ps => isTup ((ps.length : Nat) : Int) s | _ => false)
  | _ => false
/-! ### the law's own words -/
theorem loop_pOk {b : SX} {P : DL.Env → Prop} : ∀ (xs : List D) (n : Nat) (r : DL.Env), P r →
    (∀ k x r, xs[k]? = some x → P r → ∃ r1, P r1 ∧ b (r.set 2 (.d (.int ((n + k : Nat) : Int)))) = if isNum (-1) (((n + k : Nat) : Int) - 1) x = true then some (.nx r1) else some (.rt (.bool false))) →
    ∃ r1, P r1 ∧ loopF (.one 2) b (rng (n : Nat) xs.length) r = if pOk n xs = true then some (.nx r1) else some (.rt (.bool false))
  | [], n, r, h, _ => ⟨r, h, rfl⟩
  | x :: xs, n, r, h, st => by
    obtain ⟨r1, p1, e1⟩ := st 0 x r rfl h
    rw [Nat.add_zero] at e1
    obtain ⟨r2, p2, e2⟩ := loop_pOk xs (n + 1) r1 p1 fun k y r hk hr => by
      have := st (k + 1) y r hk hr
      rw [show n + (k + 1) = n + 1 + k by omega] at this
      exact this
    refine ⟨r2, p2, ?_⟩
    rw [List.length_cons, rng_cons]
    show (match b (r.set 2 (.d (.int (n : Nat)))) with | some (.nx r2) => loopF (.one 2) b (rng ((n : Nat) + 1) xs.length) r2 | some (.ct r2) => loopF (.one 2) b (rng ((n : Nat) + 1) xs.length) r2 | some (.bk r2) => some (.nx r2) | o => o) = _
    rw [e1]
    cases hc : isNum (-1) ((n : Nat) - 1) x
    · have : pOk n (x :: xs) = false := by simp only [pOk, hc, Bool.false_and]
      rw [this]
      rfl
    · have : pOk n (x :: xs) = pOk (n + 1) xs := by simp only [pOk, hc, Bool.true_and]
      rw [this, if_pos rfl]
      exact e2
theorem neg1 : dNeg (.int 1) = some (.int (-1)) := rfl
theorem bad_par (n : Int) (d x : D) (ps : List D) (k : Nat) (r3 : Slot) (h1 : dIx d (.int 1) = some (.tuple ps)) (hk : ps[k]? = some x) :
    (sIf (bOr (bNot (c1 (cIsi "int") (v2 dIx (v2 dIx (vVar 1) (vC (.int 1))) (vVar 2)))) (bOr (c1 (cIsi "bool") (v2 dIx (v2 dIx (vVar 1) (vC (.int 1))) (vVar 2))) (bOr (c2 cLt (v2 dIx (v2 dIx (vVar 1) (vC (.int 1))) (vVar 2)) (v1 dNeg (vC (.int 1)))) (c2 cGe (v2 dIx (v2 dIx (vVar 1) (vC (.int 1))) (vVar 2)) (vVar 2))))) (sRet (vC (.bool false))) sNx) ([.d (.int n), .d d, .d (.int (k : Nat)), r3]) = if isNum (-1) ((k : Nat) - 1) x = true then some (.nx [.d (.int n), .d d, .d (.int (k : Nat)), r3]) else some (.rt (.bool false)) := by
  cases x with
  | int i =>
    by_cases c1 : i < -1
    · have : ¬ (-1 ≤ i) := by omega
      simp [e_vVar, e_vRd, e_vC, e_v1, e_v2, e_c1, e_c2, e_l1, e_l2, e_vL, e_vB, e_vArgs0, e_vArgs, e_vTup, e_vCall, e_vIf, e_bTr, e_bNot, e_bAnd, e_bOr, e_bChain, e_iSeq, e_iRange1, e_iRange2, e_vCut, e_vOpt0, e_vOpt, e_sNx, e_sBk, e_sCt, e_sSeq, e_sSet, e_sOwn, e_sPut, e_sFreeze, e_sRet, e_sExpr, e_sIf, e_sApp, e_sPar, e_sFor, runD, slots, so_ok, rb_ok, rb_none, so_none, po_some, List.getElem?_cons_zero, List.getElem?_cons_succ, List.set_cons_zero, List.set_cons_succ, List.map_cons, List.map_nil, List.length_cons, List.length_nil, List.replicate, List.append_nil, List.cons_append, List.nil_append, rb_er, so_er, e_sErr, e_sTry, e_iEnumE, e_sSetIx, h1, ixt, hk, show cIsi "int" (.int i) = some true from rfl, show cIsi "bool" (.int i) = some false from rfl, neg1, lt_int, c1, isNum, this]
    · by_cases c2 : (k : Int) ≤ i
      · have : ¬ (i ≤ (k : Int) - 1) := by omega
        simp [e_vVar, e_vRd, e_vC, e_v1, e_v2, e_c1, e_c2, e_l1, e_l2, e_vL, e_vB, e_vArgs0, e_vArgs, e_vTup, e_vCall, e_vIf, e_bTr, e_bNot, e_bAnd, e_bOr, e_bChain, e_iSeq, e_iRange1, e_iRange2, e_vCut, e_vOpt0, e_vOpt, e_sNx, e_sBk, e_sCt, e_sSeq, e_sSet, e_sOwn, e_sPut, e_sFreeze, e_sRet, e_sExpr, e_sIf, e_sApp, e_sPar, e_sFor, runD, slots, so_ok, rb_ok, rb_none, so_none, po_some, List.getElem?_cons_zero, List.getElem?_cons_succ, List.set_cons_zero, List.set_cons_succ, List.map_cons, List.map_nil, List.length_cons, List.length_nil, List.replicate, List.append_nil, List.cons_append, List.nil_append, rb_er, so_er, e_sErr, e_sTry, e_iEnumE, e_sSetIx, h1, ixt, hk, show cIsi "int" (.int i) = some true from rfl, show cIsi "bool" (.int i) = some false from rfl, neg1, lt_int, ge_int, c1, c2, isNum, this]
      · have h3 : i ≤ (k : Int) - 1 := by omega
        have h4 : -1 ≤ i := by omega
        simp [e_vVar, e_vRd, e_vC, e_v1, e_v2, e_c1, e_c2, e_l1, e_l2, e_vL, e_vB, e_vArgs0, e_vArgs, e_vTup, e_vCall, e_vIf, e_bTr, e_bNot, e_bAnd, e_bOr, e_bChain, e_iSeq, e_iRange1, e_iRange2, e_vCut, e_vOpt0, e_vOpt, e_sNx, e_sBk, e_sCt, e_sSeq, e_sSet, e_sOwn, e_sPut, e_sFreeze, e_sRet, e_sExpr, e_sIf, e_sApp, e_sPar, e_sFor, runD, slots, so_ok, rb_ok, rb_none, so_none, po_some, List.getElem?_cons_zero, List.getElem?_cons_succ, List.set_cons_zero, List.set_cons_succ, List.map_cons, List.map_nil, List.length_cons, List.length_nil, List.replicate, List.append_nil, List.cons_append, List.nil_append, rb_er, so_er, e_sErr, e_sTry, e_iEnumE, e_sSetIx, h1, ixt, hk, show cIsi "int" (.int i) = some true from rfl, show cIsi "bool" (.int i) = some false from rfl, neg1, lt_int, ge_int, c1, c2, isNum, h3, h4]
  | bool b => simp [e_vVar, e_vRd, e_vC, e_v1, e_v2, e_c1, e_c2, e_l1, e_l2, e_vL, e_vB, e_vArgs0, e_vArgs, e_vTup, e_vCall, e_vIf, e_bTr, e_bNot, e_bAnd, e_bOr, e_bChain, e_iSeq, e_iRange1, e_iRange2, e_vCut, e_vOpt0, e_vOpt, e_sNx, e_sBk, e_sCt, e_sSeq, e_sSet, e_sOwn, e_sPut, e_sFreeze, e_sRet, e_sExpr, e_sIf, e_sApp, e_sPar, e_sFor, runD, slots, so_ok, rb_ok, rb_none, so_none, po_some, List.getElem?_cons_zero, List.getElem?_cons_succ, List.set_cons_zero, List.set_cons_succ, List.map_cons, List.map_nil, List.length_cons, List.length_nil, List.replicate, List.append_nil, List.cons_append, List.nil_append, rb_er, so_er, e_sErr, e_sTry, e_iEnumE, e_sSetIx, h1, ixt, hk, show cIsi "int" (.bool b) = some true from rfl, show cIsi "bool" (.bool b) = some true from rfl, isNum]
  | none => simp [e_vVar, e_vRd, e_vC, e_v1, e_v2, e_c1, e_c2, e_l1, e_l2, e_vL, e_vB, e_vArgs0, e_vArgs, e_vTup, e_vCall, e_vIf, e_bTr, e_bNot, e_bAnd, e_bOr, e_bChain, e_iSeq, e_iRange1, e_iRange2, e_vCut, e_vOpt0, e_vOpt, e_sNx, e_sBk, e_sCt, e_sSeq, e_sSet, e_sOwn, e_sPut, e_sFreeze, e_sRet, e_sExpr, e_sIf, e_sApp, e_sPar, e_sFor, runD, slots, so_ok, rb_ok, rb_none, so_none, po_some, List.getElem?_cons_zero, List.getElem?_cons_succ, List.set_cons_zero, List.set_cons_succ, List.map_cons, List.map_nil, List.length_cons, List.length_nil, List.replicate, List.append_nil, List.cons_append, List.nil_append, rb_er, so_er, e_sErr, e_sTry, e_iEnumE, e_sSetIx, h1, ixt, hk, show cIsi "int" .none = some false from rfl, isNum]
  | str z => simp [e_vVar, e_vRd, e_vC, e_v1, e_v2, e_c1, e_c2, e_l1, e_l2, e_vL, e_vB, e_vArgs0, e_vArgs, e_vTup, e_vCall, e_vIf, e_bTr, e_bNot, e_bAnd, e_bOr, e_bChain, e_iSeq, e_iRange1, e_iRange2, e_vCut, e_vOpt0, e_vOpt, e_sNx, e_sBk, e_sCt, e_sSeq, e_sSet, e_sOwn, e_sPut, e_sFreeze, e_sRet, e_sExpr, e_sIf, e_sApp, e_sPar, e_sFor, runD, slots, so_ok, rb_ok, rb_none, so_none, po_some, List.getElem?_cons_zero, List.getElem?_cons_succ, List.set_cons_zero, List.set_cons_succ, List.map_cons, List.map_nil, List.length_cons, List.length_nil, List.replicate, List.append_nil, List.cons_append, List.nil_append, rb_er, so_er, e_sErr, e_sTry, e_iEnumE, e_sSetIx, h1, ixt, hk, show cIsi "int" (.str z) = some false from rfl, isNum]
  | list z => simp [e_vVar, e_vRd, e_vC, e_v1, e_v2, e_c1, e_c2, e_l1, e_l2, e_vL, e_vB, e_vArgs0, e_vArgs, e_vTup, e_vCall, e_vIf, e_bTr, e_bNot, e_bAnd, e_bOr, e_bChain, e_iSeq, e_iRange1, e_iRange2, e_vCut, e_vOpt0, e_vOpt, e_sNx, e_sBk, e_sCt, e_sSeq, e_sSet, e_sOwn, e_sPut, e_sFreeze, e_sRet, e_sExpr, e_sIf, e_sApp, e_sPar, e_sFor, runD, slots, so_ok, rb_ok, rb_none, so_none, po_some, List.getElem?_cons_zero, List.getElem?_cons_succ, List.set_cons_zero, List.set_cons_succ, List.map_cons, List.map_nil, List.length_cons, List.length_nil, List.replicate, List.append_nil, List.cons_append, List.nil_append, rb_er, so_er, e_sErr, e_sTry, e_iEnumE, e_sSetIx, h1, ixt, hk, show cIsi "int" (.list z) = some false from rfl, isNum]
  | tuple z => simp [e_vVar, e_vRd, e_vC, e_v1, e_v2, e_c1, e_c2, e_l1, e_l2, e_vL, e_vB, e_vArgs0, e_vArgs, e_vTup, e_vCall, e_vIf, e_bTr, e_bNot, e_bAnd, e_bOr, e_bChain, e_iSeq, e_iRange1, e_iRange2, e_vCut, e_vOpt0, e_vOpt, e_sNx, e_sBk, e_sCt, e_sSeq, e_sSet, e_sOwn, e_sPut, e_sFreeze, e_sRet, e_sExpr, e_sIf, e_sApp, e_sPar, e_sFor, runD, slots, so_ok, rb_ok, rb_none, so_none, po_some, List.getElem?_cons_zero, List.getElem?_cons_succ, List.set_cons_zero, List.set_cons_succ, List.map_cons, List.map_nil, List.length_cons, List.length_nil, List.replicate, List.append_nil, List.cons_append, List.nil_append, rb_er, so_er, e_sErr, e_sTry, e_iEnumE, e_sSetIx, h1, ixt, hk, show cIsi "int" (.tuple z) = some false from rfl, isNum]
  | dict z => simp [e_vVar, e_vRd, e_vC, e_v1, e_v2, e_c1, e_c2, e_l1, e_l2, e_vL, e_vB, e_vArgs0, e_vArgs, e_vTup, e_vCall, e_vIf, e_bTr, e_bNot, e_bAnd, e_bOr, e_bChain, e_iSeq, e_iRange1, e_iRange2, e_vCut, e_vOpt0, e_vOpt, e_sNx, e_sBk, e_sCt, e_sSeq, e_sSet, e_sOwn, e_sPut, e_sFreeze, e_sRet, e_sExpr, e_sIf, e_sApp, e_sPar, e_sFor, runD, slots, so_ok, rb_ok, rb_none, so_none, po_some, List.getElem?_cons_zero, List.getElem?_cons_succ, List.set_cons_zero, List.set_cons_succ, List.map_cons, List.map_nil, List.length_cons, List.length_nil, List.replicate, List.append_nil, List.cons_append, List.nil_append, rb_er, so_er, e_sErr, e_sTry, e_iEnumE, e_sSetIx, h1, ixt, hk, show cIsi "int" (.dict z) = some false from rfl, isNum]
theorem one_ (c : Int) : ∃ z : Int, f_law_draws [.int c, .int 1] = ok (nums [z]) := by
  obtain ⟨xs, h1, h2⟩ := draws_ c 1 (by decide)
  match xs, h2 with
  | [z], _ => exact ⟨z, h1⟩
theorem cut_nums (ns : List Int) (lo hi : Option Int) : ∃ ms : List Int, cutD (ns.map PyData.int) lo hi = ms.map PyData.int ∧ ms.length ≤ ns.length := by
  refine ⟨(ns.drop (cutAt ns.length 0 lo)).take (cutAt ns.length ns.length hi - cutAt ns.length 0 lo), ?_, ?_⟩
  · unfold cutD
    rw [List.length_map, List.map_take, List.map_drop]
  · rw [List.length_take, List.length_drop]
    omega
end K24
namespace K24
open PySem DL
/-- plain data: no dict -/
def pl : Nat → D → Bool
  | _, .none => true
  | _, .bool _ => true
  | _, .int _ => true
  | _, .str x => cEq (.str x) (.str x) == some true
  | n + 1, .list xs => xs.all (pl n)
  | n + 1, .tuple xs => xs.all (pl n)
  | _, _ => false
theorem pl_up : ∀ (n m : Nat) {d : D}, n ≤ m → pl n d = true → pl m d = true := by
  intro n
  induction n with
  | zero => intro m d _ h; cases d <;> cases m <;> first | rfl | exact h | cases h
  | succ n ih =>
    intro m d hm h
    obtain ⟨m, rfl⟩ : ∃ k, m = k + 1 := ⟨m - 1, by omega⟩
    cases d with
    | list xs => exact List.all_eq_true.mpr fun x hx => ih m (by omega) (List.all_eq_true.mp (show xs.all (pl n) = true from h) x hx)
    | tuple xs => exact List.all_eq_true.mpr fun x hx => ih m (by omega) (List.all_eq_true.mp (show xs.all (pl n) = true from h) x hx)
    | dict => cases h
    | str x => exact h
    | _ => rfl
theorem filter_no {T : D → Bool} {xs : List D} (h : ∀ x ∈ xs, T x = false) : xs.filter T = [] := List.filter_eq_nil_iff.mpr fun x hx => by rw [h x hx]; decide
/-- the same thing is the same -/
theorem same_ : ∀ (k : Nat) (d : D), pl k d = true → wt d ≤ 1000000 → r_law_same (k + 1) [d, d] = ok (.bool true) := by
  intro k
  induction k with
  | zero =>
    intro d hd _
    cases d with
    | none => rfl
    | bool b => cases b <;> rfl
    | int i =>
      simp [r_law_same, b_law_same, e_vVar, e_vRd, e_vC, e_v1, e_v2, e_c1, e_c2, e_l1, e_l2, e_vL, e_vB, e_vArgs0, e_vArgs, e_vTup, e_vCall, e_vIf, e_bTr, e_bNot, e_bAnd, e_bOr, e_bChain, e_iSeq, e_iRange1, e_iRange2, e_vCut, e_vOpt0, e_vOpt, e_sNx, e_sBk, e_sCt, e_sSeq, e_sSet, e_sOwn, e_sPut, e_sFreeze, e_sRet, e_sExpr, e_sIf, e_sApp, e_sPar, e_sFor, runD, slots, so_ok, rb_ok, rb_none, so_none, po_some, List.getElem?_cons_zero, List.getElem?_cons_succ, List.set_cons_zero, List.set_cons_succ, List.map_cons, List.map_nil, List.length_cons, List.length_nil, List.replicate, List.append_nil, List.cons_append, List.nil_append, rb_er, so_er, e_sErr, e_sTry, e_iEnumE, e_sSetIx, cIs, cIsNone, cIsi, isInst, tyName, eq_int]
    | str x =>
      have e : cEq (.str x) (.str x) = some true := by simpa [pl] using hd
      simp [r_law_same, b_law_same, e_vVar, e_vRd, e_vC, e_v1, e_v2, e_c1, e_c2, e_l1, e_l2, e_vL, e_vB, e_vArgs0, e_vArgs, e_vTup, e_vCall, e_vIf, e_bTr, e_bNot, e_bAnd, e_bOr, e_bChain, e_iSeq, e_iRange1, e_iRange2, e_vCut, e_vOpt0, e_vOpt, e_sNx, e_sBk, e_sCt, e_sSeq, e_sSet, e_sOwn, e_sPut, e_sFreeze, e_sRet, e_sExpr, e_sIf, e_sApp, e_sPar, e_sFor, runD, slots, so_ok, rb_ok, rb_none, so_none, po_some, List.getElem?_cons_zero, List.getElem?_cons_succ, List.set_cons_zero, List.set_cons_succ, List.map_cons, List.map_nil, List.length_cons, List.length_nil, List.replicate, List.append_nil, List.cons_append, List.nil_append, rb_er, so_er, e_sErr, e_sTry, e_iEnumE, e_sSetIx, cIs, cIsNone, cIsi, isInst, tyName, e]
    | _ => cases hd
  | succ k ih =>
    intro d hd hw
    cases hs : seqOf d with
    | none =>
      cases d with
      | none => rfl
      | bool b => cases b <;> rfl
      | int i =>
        simp [r_law_same, b_law_same, e_vVar, e_vRd, e_vC, e_v1, e_v2, e_c1, e_c2, e_l1, e_l2, e_vL, e_vB, e_vArgs0, e_vArgs, e_vTup, e_vCall, e_vIf, e_bTr, e_bNot, e_bAnd, e_bOr, e_bChain, e_iSeq, e_iRange1, e_iRange2, e_vCut, e_vOpt0, e_vOpt, e_sNx, e_sBk, e_sCt, e_sSeq, e_sSet, e_sOwn, e_sPut, e_sFreeze, e_sRet, e_sExpr, e_sIf, e_sApp, e_sPar, e_sFor, runD, slots, so_ok, rb_ok, rb_none, so_none, po_some, List.getElem?_cons_zero, List.getElem?_cons_succ, List.set_cons_zero, List.set_cons_succ, List.map_cons, List.map_nil, List.length_cons, List.length_nil, List.replicate, List.append_nil, List.cons_append, List.nil_append, rb_er, so_er, e_sErr, e_sTry, e_iEnumE, e_sSetIx, cIs, cIsNone, cIsi, isInst, tyName, eq_int]
      | str x =>
        have e : cEq (.str x) (.str x) = some true := by simpa [pl] using hd
        simp [r_law_same, b_law_same, e_vVar, e_vRd, e_vC, e_v1, e_v2, e_c1, e_c2, e_l1, e_l2, e_vL, e_vB, e_vArgs0, e_vArgs, e_vTup, e_vCall, e_vIf, e_bTr, e_bNot, e_bAnd, e_bOr, e_bChain, e_iSeq, e_iRange1, e_iRange2, e_vCut, e_vOpt0, e_vOpt, e_sNx, e_sBk, e_sCt, e_sSeq, e_sSet, e_sOwn, e_sPut, e_sFreeze, e_sRet, e_sExpr, e_sIf, e_sApp, e_sPar, e_sFor, runD, slots, so_ok, rb_ok, rb_none, so_none, po_some, List.getElem?_cons_zero, List.getElem?_cons_succ, List.set_cons_zero, List.set_cons_succ, List.map_cons, List.map_nil, List.length_cons, List.length_nil, List.replicate, List.append_nil, List.cons_append, List.nil_append, rb_er, so_er, e_sErr, e_sTry, e_iEnumE, e_sSetIx, cIs, cIsNone, cIsi, isInst, tyName, e]
      | list => cases hs
      | tuple => cases hs
      | dict => cases hd
    | some xs =>
      have hx : xs.all (pl k) = true := by rcases seq_cases hs with rfl | rfl <;> exact hd
      have hwd : wt d = 1 + wts xs := by rcases seq_cases hs with rfl | rfl <;> rfl
      have hlen := wts_len xs
      have hlim : xs.length ≤ lim := by have := big; omega
      have t2 : dLen d = some (.int (xs.length : Nat)) := by rcases seq_cases hs with rfl | rfl <;> rfl
      have t3 : ∀ i : Nat, dIx d (.int (i : Nat)) = xs[i]? := by rcases seq_cases hs with rfl | rfl <;> intro i <;> first | exact ixl xs i | exact ixt xs i
      have key : ∀ z, lComp (iRange1 (v1 dLen (vVar 1))) (.one 3) (bNot (bTr (vCall (r_law_same (k + 1)) [v2 dIx (vVar 0) (vVar 3), v2 dIx (vVar 1) (vVar 3)]))) (vVar 3) [.d d, .d d, .d z, .un] = ok [] := by
        intro z
        have h := lcomp_filter (it := iRange1 (v1 dLen (vVar 1))) (i := 3) (t := bNot (bTr (vCall (r_law_same (k + 1)) [v2 dIx (vVar 0) (vVar 3), v2 dIx (vVar 1) (vVar 3)]))) (e := vVar 3) (r := [.d d, .d d, .d z, .un]) (xs := rng 0 xs.length) (fun _ => false) id
          (by simp only [e_vVar, e_vRd, e_vC, e_v1, e_v2, e_c1, e_c2, e_l1, e_l2, e_vL, e_vB, e_vArgs0, e_vArgs, e_vTup, e_vCall, e_vIf, e_bTr, e_bNot, e_bAnd, e_bOr, e_bChain, e_iSeq, e_iRange1, e_iRange2, e_vCut, e_vOpt0, e_vOpt, e_sNx, e_sBk, e_sCt, e_sSeq, e_sSet, e_sOwn, e_sPut, e_sFreeze, e_sRet, e_sExpr, e_sIf, e_sApp, e_sPar, e_sFor, runD, slots, so_ok, rb_ok, rb_none, so_none, po_some, List.getElem?_cons_zero, List.getElem?_cons_succ, List.set_cons_zero, List.set_cons_succ, List.map_cons, List.map_nil, List.length_cons, List.length_nil, List.replicate, List.append_nil, List.cons_append, List.nil_append, rb_er, so_er, e_sErr, e_sTry, e_iEnumE, e_sSetIx, t2, rng1_nat hlim]) (by rw [rng_size]; exact hlim) (fun y hy => by
            obtain ⟨i, hi, rfl⟩ := rng_mem hy
            have ei := List.getElem?_eq_getElem hi
            have hw' := wt_at ei
            have e := ih xs[i] (List.all_eq_true.mp hx _ (List.getElem_mem hi)) (by omega)
            simp [e_vVar, e_vRd, e_vC, e_v1, e_v2, e_c1, e_c2, e_l1, e_l2, e_vL, e_vB, e_vArgs0, e_vArgs, e_vTup, e_vCall, e_vIf, e_bTr, e_bNot, e_bAnd, e_bOr, e_bChain, e_iSeq, e_iRange1, e_iRange2, e_vCut, e_vOpt0, e_vOpt, e_sNx, e_sBk, e_sCt, e_sSeq, e_sSet, e_sOwn, e_sPut, e_sFreeze, e_sRet, e_sExpr, e_sIf, e_sApp, e_sPar, e_sFor, runD, slots, so_ok, rb_ok, rb_none, so_none, po_some, List.getElem?_cons_zero, List.getElem?_cons_succ, List.set_cons_zero, List.set_cons_succ, List.map_cons, List.map_nil, List.length_cons, List.length_nil, List.replicate, List.append_nil, List.cons_append, List.nil_append, rb_er, so_er, e_sErr, e_sTry, e_iEnumE, e_sSetIx, t3, ei, e, tr_bool]) fun x _ _ => rfl
        rw [h, List.map_id, filter_no fun _ _ => rfl]
      rcases seq_cases hs with rfl | rfl
      · rw [r_law_same]
        simp [b_law_same, e_vVar, e_vRd, e_vC, e_v1, e_v2, e_c1, e_c2, e_l1, e_l2, e_vL, e_vB, e_vArgs0, e_vArgs, e_vTup, e_vCall, e_vIf, e_bTr, e_bNot, e_bAnd, e_bOr, e_bChain, e_iSeq, e_iRange1, e_iRange2, e_vCut, e_vOpt0, e_vOpt, e_sNx, e_sBk, e_sCt, e_sSeq, e_sSet, e_sOwn, e_sPut, e_sFreeze, e_sRet, e_sExpr, e_sIf, e_sApp, e_sPar, e_sFor, runD, slots, so_ok, rb_ok, rb_none, so_none, po_some, List.getElem?_cons_zero, List.getElem?_cons_succ, List.set_cons_zero, List.set_cons_succ, List.map_cons, List.map_nil, List.length_cons, List.length_nil, List.replicate, List.append_nil, List.cons_append, List.nil_append, rb_er, so_er, e_sErr, e_sTry, e_iEnumE, e_sSetIx, cIs, cIsNone, show cIsi "bool" (.list xs) = some false from rfl, show cIsi "int" (.list xs) = some false from rfl, show cIsi "str" (.list xs) = some false from rfl, show cIsi "tuple" (.list xs) = some false from rfl, show cIsi "list" (.list xs) = some true from rfl, tr_bool, t2, ne_int, key, eq_nil]
      · rw [r_law_same]
        simp [b_law_same, e_vVar, e_vRd, e_vC, e_v1, e_v2, e_c1, e_c2, e_l1, e_l2, e_vL, e_vB, e_vArgs0, e_vArgs, e_vTup, e_vCall, e_vIf, e_bTr, e_bNot, e_bAnd, e_bOr, e_bChain, e_iSeq, e_iRange1, e_iRange2, e_vCut, e_vOpt0, e_vOpt, e_sNx, e_sBk, e_sCt, e_sSeq, e_sSet, e_sOwn, e_sPut, e_sFreeze, e_sRet, e_sExpr, e_sIf, e_sApp, e_sPar, e_sFor, runD, slots, so_ok, rb_ok, rb_none, so_none, po_some, List.getElem?_cons_zero, List.getElem?_cons_succ, List.set_cons_zero, List.set_cons_succ, List.map_cons, List.map_nil, List.length_cons, List.length_nil, List.replicate, List.append_nil, List.cons_append, List.nil_append, rb_er, so_er, e_sErr, e_sTry, e_iEnumE, e_sSetIx, cIs, cIsNone, show cIsi "bool" (.tuple xs) = some false from rfl, show cIsi "int" (.tuple xs) = some false from rfl, show cIsi "str" (.tuple xs) = some false from rfl, show cIsi "tuple" (.tuple xs) = some true from rfl, tr_bool, t2, ne_int, key, eq_nil]
end K24
namespace K24
open PySem DL
/-! Books, trees and runs with their parts as numbers. -/
abbrev nd (k : Nat) : D := .int (k : Nat)
abbrev ndl (xs : List Nat) : List D := xs.map nd
abbrev idl (xs : List Int) : List D := xs.map PyData.int
theorem ix_ndl (xs : List Nat) (k : Nat) : dIx (.list (ndl xs)) (.int (k : Nat)) = (xs[k]?).map nd := by rw [ixl, List.getElem?_map]
theorem ix_ndt (xs : List Nat) (k : Nat) : dIx (.tuple (ndl xs)) (.int (k : Nat)) = (xs[k]?).map nd := by rw [ixt, List.getElem?_map]
theorem ix_idt (xs : List Int) (k : Nat) : dIx (.tuple (idl xs)) (.int (k : Nat)) = (xs[k]?).map PyData.int := by rw [ixt, List.getElem?_map]
theorem eq_nd (i j : Nat) : cEq (.int (i : Nat)) (.int (j : Nat)) = some (i == j) := by
  rw [eq_int]
  congr 1
  rw [Bool.eq_iff_iff, beq_iff_eq, beq_iff_eq]
  omega
theorem get_nat {qs : List Nat} {j : Nat} (h : j < qs.length) : qs[j]? = some (qs.getD j 0) := by
  rw [List.getD_eq_getElem?_getD, List.getElem?_eq_getElem h]
  rfl
theorem getD_mem {qs : List Nat} {j : Nat} (h : j < qs.length) : qs.getD j 0 ∈ qs := List.mem_of_getElem? (get_nat h)
theorem eq_no {i j : Int} (h : ¬ i = j) : (i == j) = false := beq_false_of_ne h
theorem ni_no {i j : Nat} (h : ¬ i = j) : (((i : Nat) : Int) == ((j : Nat) : Int)) = false := beq_false_of_ne fun e => h (by omega)
theorem nq_no {i j : Nat} (h : ¬ i = j) : (i == j) = false := beq_false_of_ne h
theorem ndl_snoc (xs : List Nat) (x : Nat) : ndl (xs ++ [x]) = ndl xs ++ [nd x] := List.map_append
structure Rl where
  a : Nat
  o : Nat
  w : Nat
  sg : List Nat
abbrev eR (r : Rl) : D := .tuple [nd r.a, nd r.o, nd r.w, .tuple (ndl r.sg)]
structure okR (n : Nat) (r : Rl) : Prop where
  a : r.a < n
  o : r.o < n
  w : r.w < n
  ne : r.o ≠ r.w
  len : r.sg.length = n
  sg : ∀ x ∈ r.sg, x < n
abbrev eB (n : Nat) (R : List Rl) : D := .tuple [nd n, .tuple (R.map eR)]
structure Bo (n : Nat) (R : List Rl) : Prop where
  n1 : 1 ≤ n
  n4 : n ≤ 4
  len : R.length ≤ 12
  ok : ∀ r ∈ R, okR n r
  is : isBook (eB n R) = true
theorem num_nat {n : Nat} {d : D} (h : isNum 0 ((n : Nat) - 1) d = true) : ∃ k : Nat, d = nd k ∧ k < n := by
  obtain ⟨i, rfl, h1, h2⟩ := isNum_int h
  exact ⟨i.toNat, by show PyData.int i = .int _; congr 1; omega, by omega⟩
theorem nums_nat {n : Nat} : ∀ {xs : List D}, xs.all (isNum 0 ((n : Nat) - 1)) = true → ∃ ks : List Nat, xs = ndl ks ∧ ∀ k ∈ ks, k < n
  | [], _ => ⟨[], rfl, fun _ h => nomatch h⟩
  | x :: xs, h => by
    rw [List.all_cons, Bool.and_eq_true] at h
    obtain ⟨k, rfl, hk⟩ := num_nat h.1
    obtain ⟨ks, rfl, hks⟩ := nums_nat h.2
    exact ⟨k :: ks, rfl, fun j hj => (List.mem_cons.mp hj).elim (fun e => e ▸ hk) (hks j)⟩
theorem rule_nat {n : Nat} {d : D} (h : isRule (n : Nat) d = true) : ∃ r, d = eR r ∧ okR n r := by
  unfold isRule at h
  split at h
  · rename_i a b c s
    simp only [Bool.and_eq_true] at h
    obtain ⟨⟨⟨⟨⟨h1, h2⟩, h3⟩, h6⟩, h5⟩, h4⟩ := h
    obtain ⟨i, rfl, hi⟩ := num_nat h1
    obtain ⟨j, rfl, hj⟩ := num_nat h2
    obtain ⟨k, rfl, hk⟩ := num_nat h3
    obtain ⟨ks, rfl, hks⟩ := nums_nat h4
    refine ⟨⟨i, j, k, ks⟩, rfl, hi, hj, hk, fun e => ?_, ?_, hks⟩
    · have e : j = k := e
      subst e
      have : PyData.eqv (nd j) (nd j) = true := by show (((j : Nat) : Int) == ((j : Nat) : Int)) = true; simp
      rw [this] at h6
      cases h6
    · rw [List.length_map, beq_iff_eq] at h5
      show ks.length = n
      omega
  · cases h
theorem rules_nat {n : Nat} : ∀ {xs : List D}, xs.all (isRule (n : Nat)) = true → ∃ R : List Rl, xs = R.map eR ∧ ∀ r ∈ R, okR n r
  | [], _ => ⟨[], rfl, fun _ h => nomatch h⟩
  | x :: xs, h => by
    rw [List.all_cons, Bool.and_eq_true] at h
    obtain ⟨k, rfl, hk⟩ := rule_nat h.1
    obtain ⟨ks, rfl, hks⟩ := rules_nat h.2
    exact ⟨k :: ks, rfl, fun j hj => (List.mem_cons.mp hj).elim (fun e => e ▸ hk) (hks j)⟩
theorem Bk.nat {d : D} {n : Int} {rs : List D} (b : Bk d n rs) : ∃ m R, d = eB m R ∧ Bo m R := by
  obtain ⟨m, rfl⟩ : ∃ m : Nat, n = m := ⟨n.toNat, by have := b.n1; omega⟩
  obtain ⟨R, rfl, h⟩ := rules_nat b.ok
  have e := b.eq
  refine ⟨m, R, e, by have := b.n1; omega, by have := b.n4; omega, by have := b.len; rw [List.length_map] at this; exact this, h, ?_⟩
  have := b.is
  rw [e] at this
  exact this
/-! ### trees -/
abbrev eT (o : Nat) (ps : List Int) (ss : List Nat) : D := .tuple [nd o, .tuple (idl ps), .tuple (ndl ss)]
structure Te (n o : Nat) (ps : List Int) (ss : List Nat) : Prop where
  o : o < n
  par : ∀ (i : Nat) (p : Int), ps[i]? = some p → -1 ≤ p ∧ p < i
  len : ss.length = ps.length
  most : ps.length ≤ 250
  ok : ∀ x ∈ ss, x < n
theorem pOk_of : ∀ (ps : List Int) (k : Nat), (∀ (i : Nat) (p : Int), ps[i]? = some p → -1 ≤ p ∧ p < ((k + i : Nat) : Int)) → pOk k (idl ps) = true
  | [], _, _ => rfl
  | p :: ps, k, h => by
    have h0 := h 0 p rfl
    show (isNum (-1) ((k : Nat) - 1) (.int p) && pOk (k + 1) (idl ps)) = true
    rw [pOk_of ps (k + 1) fun i q hq => by
      have := h (i + 1) q hq
      rw [show k + 1 + i = k + (i + 1) by omega]
      exact this]
    rw [num_is h0.1 (by omega)]
    rfl
theorem all_nat {n : Nat} {ks : List Nat} (h : ∀ k ∈ ks, k < n) : (ndl ks).all (isNum 0 ((n : Nat) - 1)) = true := List.all_eq_true.mpr fun x hx => by
  obtain ⟨k, hk, rfl⟩ := List.mem_map.mp hx
  have := h k hk
  exact num_is (by omega) (by omega)
theorem Te.is {n o : Nat} {ps : List Int} {ss : List Nat} (T : Te n o ps ss) : isTree (n : Nat) (eT o ps ss) = true := by
  have h1 : pOk 0 (idl ps) = true := pOk_of ps 0 fun i p h => by rw [Nat.zero_add]; exact T.par i p h
  have h2 := all_nat T.ok
  have ho := T.o
  have h3 : isNum 0 ((n : Nat) - 1) (nd o) = true := num_is (by omega) (by omega)
  have h4 : ps.length ≤ 250 := T.most
  have h5 := T.len
  simp only [isTree, h1, h2, h3, List.length_map, h4, h5, decide_true, Bool.and_self, beq_self_eq_true]
/-- the state above a node -/
def abv (o : Nat) (ps : List Int) (ss : List Nat) (i : Nat) : Nat := if ps.getD i 0 = -1 then o else ss.getD (ps.getD i 0).toNat 0
section
variable {n o : Nat} {R : List Rl} {ps : List Int} {ss : List Nat}
theorem x0b : dIx (eB n R) (.int 0) = some (nd n) := ixt [nd n, .tuple (R.map eR)] 0
theorem x1b : dIx (eB n R) (.int 1) = some (.tuple (R.map eR)) := ixt [nd n, .tuple (R.map eR)] 1
theorem x0t : dIx (eT o ps ss) (.int 0) = some (nd o) := ixt [nd o, .tuple (idl ps), .tuple (ndl ss)] 0
theorem x1t : dIx (eT o ps ss) (.int 1) = some (.tuple (idl ps)) := ixt [nd o, .tuple (idl ps), .tuple (ndl ss)] 1
theorem x2t : dIx (eT o ps ss) (.int 2) = some (.tuple (ndl ss)) := ixt [nd o, .tuple (idl ps), .tuple (ndl ss)] 2
theorem x0r {r : Rl} : dIx (eR r) (.int 0) = some (nd r.a) := ixt [nd r.a, nd r.o, nd r.w, .tuple (ndl r.sg)] 0
theorem x1r {r : Rl} : dIx (eR r) (.int 1) = some (nd r.o) := ixt [nd r.a, nd r.o, nd r.w, .tuple (ndl r.sg)] 1
theorem x2r {r : Rl} : dIx (eR r) (.int 2) = some (nd r.w) := ixt [nd r.a, nd r.o, nd r.w, .tuple (ndl r.sg)] 2
theorem x3r {r : Rl} : dIx (eR r) (.int 3) = some (.tuple (ndl r.sg)) := ixt [nd r.a, nd r.o, nd r.w, .tuple (ndl r.sg)] 3
theorem xrule {k : Nat} {r : Rl} (h : R[k]? = some r) : dIx (.tuple (R.map eR)) (.int (k : Nat)) = some (eR r) := by rw [ixt, List.getElem?_map, h]; rfl
theorem neg_1 : dNeg (.int 1) = some (.int (-1)) := rfl
/-- a parent's place -/
theorem par_at (T : Te n o ps ss) {i : Nat} (hi : i < ps.length) : ∃ p : Int, ps[i]? = some p ∧ ps.getD i 0 = p ∧ -1 ≤ p ∧ p < i := by
  have e := List.getElem?_eq_getElem hi
  have := T.par i _ e
  exact ⟨ps[i], e, by rw [List.getD_eq_getElem?_getD, e]; rfl, this.1, this.2⟩
/-- a rule can fire on a node -/
def canR (o : Nat) (ps : List Int) (ss : List Nat) (r : Rl) (i : Nat) : Bool := r.a == abv o ps ss i && r.o == ss.getD i 0
/-- the states behind a rule's firing on a node -/
def fireR (ps : List Int) (ss : List Nat) (r : Rl) (i : Nat) : List Nat := (List.range ss.length).map fun j => if j = i then r.w else if ps.getD j 0 = (i : Nat) then r.sg.getD (ss.getD j 0) 0 else ss.getD j 0
theorem fire_len {r : Rl} {i : Nat} : (fireR ps ss r i).length = ss.length := by unfold fireR; rw [List.length_map, List.length_range]
theorem fire_at {r : Rl} {i j : Nat} (hj : j < ss.length) : (fireR ps ss r i)[j]? = some (if j = i then r.w else if ps.getD j 0 = (i : Nat) then r.sg.getD (ss.getD j 0) 0 else ss.getD j 0) := by
  unfold fireR
  rw [List.getElem?_map, List.getElem?_range hj]
  rfl
theorem fire_ok {r : Rl} (hr : okR n r) {i : Nat} (hs : ∀ x ∈ ss, x < n) : ∀ x ∈ fireR ps ss r i, x < n := by
  intro x hx
  unfold fireR at hx
  obtain ⟨j, hj, rfl⟩ := List.mem_map.mp hx
  have hj := List.mem_range.mp hj
  have h1 := hs _ (getD_mem hj)
  split
  · exact hr.w
  · split
    · exact hr.sg _ (getD_mem (by rw [hr.len]; exact h1))
    · exact h1
theorem Te.fire {r : Rl} (T : Te n o ps ss) (hr : okR n r) (i : Nat) : Te n o ps (fireR ps ss r i) := ⟨T.o, T.par, by rw [fire_len, T.len], T.most, fire_ok hr T.ok⟩
theorem Bo.at (B : Bo n R) {k : Nat} {r : Rl} (h : R[k]? = some r) : okR n r := B.ok r (List.mem_of_getElem? h)
end
end K24
namespace K24
open PySem DL
abbrev pd (p : Nat × Nat) : D := .tuple [nd p.1, nd p.2]
def canK (R : List Rl) (o : Nat) (ps : List Int) (ss : List Nat) (i k : Nat) : Bool := match R[k]? with
  | some r => canR o ps ss r i
  | none => false
/-- the steps on the first m nodes, and up to the rule h of the next -/
def enabTo (R : List Rl) (o : Nat) (ps : List Int) (ss : List Nat) (m : Nat) : List (Nat × Nat) := (List.range m).flatMap fun i => ((List.range R.length).filter (canK R o ps ss i)).map fun k => (i, k)
abbrev enab (R : List Rl) (o : Nat) (ps : List Int) (ss : List Nat) : List (Nat × Nat) := enabTo R o ps ss ss.length
section
variable {n o : Nat} {R : List Rl} {ps : List Int} {ss : List Nat}
theorem enab_succ {m : Nat} : enabTo R o ps ss (m + 1) = enabTo R o ps ss m ++ ((List.range R.length).filter (canK R o ps ss m)).map fun k => (m, k) := by
  unfold enabTo
  rw [List.range_succ, List.flatMap_append]
  simp
theorem enab_len (B : Bo n R) (m : Nat) : (enabTo R o ps ss m).length ≤ 12 * m := by
  induction m with
  | zero => simp [enabTo]
  | succ m ih =>
    have h : ((List.range R.length).filter (canK R o ps ss m)).length ≤ 12 := Nat.le_trans (List.length_filter_le _ _) (by rw [List.length_range]; exact B.len)
    rw [enab_succ, List.length_append, List.length_map]
    omega
theorem mem_enab {m : Nat} {p : Nat × Nat} : p ∈ enabTo R o ps ss m ↔ p.1 < m ∧ p.2 < R.length ∧ canK R o ps ss p.1 p.2 = true := by
  unfold enabTo
  simp only [List.mem_flatMap, List.mem_map, List.mem_filter, List.mem_range]
  constructor
  · rintro ⟨i, hi, k, ⟨hk, hc⟩, rfl⟩
    exact ⟨hi, hk, hc⟩
  · rintro ⟨h1, h2, h3⟩
    exact ⟨p.1, h1, p.2, ⟨h2, h3⟩, rfl⟩
theorem canK_some {i k : Nat} {r : Rl} (h : R[k]? = some r) : canK R o ps ss i k = canR o ps ss r i := by unfold canK; rw [h]
/-! ### the program's own words -/
theorem rng_ndl (m : Nat) : rng 0 m = ndl (List.range m) := by
  unfold rng
  exact List.map_congr_left fun k _ => by rw [Int.zero_add]
def fitK (R : List Rl) (a o : Nat) (k : Nat) : Bool := match R[k]? with
  | some r => r.a == a && r.o == o
  | none => false
def fitL (R : List Rl) (a o : Nat) : List Nat := (List.range R.length).filter (fitK R a o)
theorem comp_enumN {i j : Nat} {t : EB} {e : EX} {r : DL.Env} {xs : List D} {T : Nat → Bool} (ht : ∀ k x, xs[k]? = some x → t ((r.set i (.d (nd k))).set j (.d x)) = ok (T k)) (he : ∀ k x, xs[k]? = some x → e ((r.set i (.d (nd k))).set j (.d x)) = ok (nd k)) :
    compL (.many [i, j]) t e r (enumL 0 xs) = ok (ndl ((List.range xs.length).filter T)) := by
  have h := comp_enum (i := i) (j := j) (t := t) (e := e) (r := r) (T := fun d => match d with | .int i => T i.toNat | _ => false) xs 0 (fun k x hk => by
    rw [Nat.zero_add]
    have := ht k x hk
    simp only [Int.toNat_natCast]
    exact this) (fun k x hk => by rw [Nat.zero_add]; exact he k x hk)
  rw [h]
  congr 1
  show (rng 0 xs.length).filter _ = _
  rw [rng_ndl, List.filter_map]
  congr 1
theorem fitting_t (B : Bo n R) (a q : Nat) : f_fitting_rules [eB n R, nd a, nd q] = ok (.list (ndl (fitL R a q))) := by
  have hlim : (enumL 0 (R.map eR)).length ≤ lim := by rw [enum_len, List.length_map]; have := B.len; have := big; omega
  have it : iEnumE (v2 dIx (vVar 0) (vC (.int 1))) [.d (eB n R), .d (nd a), .d (nd q), .un, .un] = ok (enumL 0 (R.map eR)) := by
    simp only [e_vVar, e_vRd, e_vC, e_v1, e_v2, e_c1, e_c2, e_l1, e_l2, e_vL, e_vB, e_vArgs0, e_vArgs, e_vTup, e_vCall, e_vIf, e_bTr, e_bNot, e_bAnd, e_bOr, e_bChain, e_iSeq, e_iRange1, e_iRange2, e_vCut, e_vOpt0, e_vOpt, e_sNx, e_sBk, e_sCt, e_sSeq, e_sSet, e_sOwn, e_sPut, e_sFreeze, e_sRet, e_sExpr, e_sIf, e_sApp, e_sPar, e_sFor, runD, slots, so_ok, rb_ok, rb_none, so_none, po_some, List.getElem?_cons_zero, List.getElem?_cons_succ, List.set_cons_zero, List.set_cons_succ, List.map_cons, List.map_nil, List.length_cons, List.length_nil, List.replicate, List.append_nil, List.cons_append, List.nil_append, rb_er, so_er, e_sErr, e_sTry, e_iEnumE, e_sSetIx, x1b, enum_tup]
  have key := comp_enumN (i := 3) (j := 4) (t := bAnd (c2 cEq (v2 dIx (vVar 4) (vC (.int 0))) (vVar 1)) (c2 cEq (v2 dIx (vVar 4) (vC (.int 1))) (vVar 2))) (e := vVar 3) (r := [.d (eB n R), .d (nd a), .d (nd q), .un, .un]) (T := fitK R a q) (xs := R.map eR) (fun k x hk => by
    rw [List.getElem?_map, Option.map_eq_some_iff] at hk
    obtain ⟨r, hr, rfl⟩ := hk
    have e1 : fitK R a q k = (r.a == a && r.o == q) := by unfold fitK; rw [hr]
    rw [e1]
    cases hc : r.a == a <;> simp only [e_vVar, e_vRd, e_vC, e_v1, e_v2, e_c1, e_c2, e_l1, e_l2, e_vL, e_vB, e_vArgs0, e_vArgs, e_vTup, e_vCall, e_vIf, e_bTr, e_bNot, e_bAnd, e_bOr, e_bChain, e_iSeq, e_iRange1, e_iRange2, e_vCut, e_vOpt0, e_vOpt, e_sNx, e_sBk, e_sCt, e_sSeq, e_sSet, e_sOwn, e_sPut, e_sFreeze, e_sRet, e_sExpr, e_sIf, e_sApp, e_sPar, e_sFor, runD, slots, so_ok, rb_ok, rb_none, so_none, po_some, List.getElem?_cons_zero, List.getElem?_cons_succ, List.set_cons_zero, List.set_cons_succ, List.map_cons, List.map_nil, List.replicate, List.append_nil, List.cons_append, List.nil_append, rb_er, so_er, e_sErr, e_sTry, e_iEnumE, e_sSetIx, Bool.not_true, Bool.not_false, Bool.false_eq_true, Bool.true_and, Bool.false_and, Bool.and_true, Bool.and_false, Bool.true_or, Bool.false_or, Bool.or_true, Bool.or_false, if_true, if_false, Option.map_some, tr_bool, int_int, add_int, sub_int, x0r, x1r, eq_nd, hc]) (fun k x hk => rfl)
  have key2 : lComp (iEnumE (v2 dIx (vVar 0) (vC (.int 1)))) (.many [3, 4]) (bAnd (c2 cEq (v2 dIx (vVar 4) (vC (.int 0))) (vVar 1)) (c2 cEq (v2 dIx (vVar 4) (vC (.int 1))) (vVar 2))) (vVar 3) [.d (eB n R), .d (nd a), .d (nd q), .un, .un] = ok (ndl (fitL R a q)) := by
    unfold lComp
    rw [it, rb_ok, if_pos hlim]
    show noEr (compL (.many [3, 4]) _ _ [.d (eB n R), .d (nd a), .d (nd q), .un, .un] (enumL 0 (R.map eR))) = _
    rw [key, List.length_map]
    rfl
  simp only [f_fitting_rules, b_fitting_rules, e_vVar, e_vRd, e_vC, e_v1, e_v2, e_c1, e_c2, e_l1, e_l2, e_vL, e_vB, e_vArgs0, e_vArgs, e_vTup, e_vCall, e_vIf, e_bTr, e_bNot, e_bAnd, e_bOr, e_bChain, e_iSeq, e_iRange1, e_iRange2, e_vCut, e_vOpt0, e_vOpt, e_sNx, e_sBk, e_sCt, e_sSeq, e_sSet, e_sOwn, e_sPut, e_sFreeze, e_sRet, e_sExpr, e_sIf, e_sApp, e_sPar, e_sFor, runD, slots, so_ok, rb_ok, rb_none, so_none, po_some, List.getElem?_cons_zero, List.getElem?_cons_succ, List.set_cons_zero, List.set_cons_succ, List.map_cons, List.map_nil, List.length_cons, List.length_nil, List.replicate, List.append_nil, List.cons_append, List.nil_append, rb_er, so_er, e_sErr, e_sTry, e_iEnumE, e_sSetIx, key2, if_true]
theorem fit_can {i k : Nat} : fitK R (abv o ps ss i) (ss.getD i 0) k = canK R o ps ss i k := rfl
theorem in_ndl (xs : List Nat) (k : Nat) : cIn (nd k) (.list (ndl xs)) = some (xs.any (· == k)) := by
  have h1 : (ndl xs).all (deepI 0) = true := List.all_eq_true.mpr fun x hx => by obtain ⟨j, _, rfl⟩ := List.mem_map.mp hx; rfl
  have h3 := shaped_of (n := 1) (d := PyData.tuple (ndl xs)) h1
  have h2 := shaped_of (n := 0) (d := nd k) rfl
  have h3' : SeqAt.shaped (.list (ndl xs)) = true := h3
  show (if _ then _ else _) = _
  rw [if_pos (by rw [h2, h3']; rfl), List.any_map]
  congr 1
  refine List.any_congr rfl ?_ |> fun h => h
  intro x
  show ((x : Int) == (k : Int)) = (x == k)
  rw [Bool.eq_iff_iff, beq_iff_eq, beq_iff_eq]
  omega
theorem any_fit {a q k : Nat} : (fitL R a q).any (· == k) = fitK R a q k := by
  rw [Bool.eq_iff_iff, List.any_eq_true]
  unfold fitL
  constructor
  · rintro ⟨x, hx, e⟩
    rw [beq_iff_eq] at e
    subst e
    exact (List.mem_filter.mp hx).2
  · intro h
    refine ⟨k, List.mem_filter.mpr ⟨List.mem_range.mpr ?_, h⟩, by simp⟩
    unfold fitK at h
    split at h
    · rename_i r hr
      exact (List.getElem?_eq_some_iff.mp hr).1
    · cases h
/-- an object that is a step that can be taken -/
def taken (R : List Rl) (o : Nat) (ps : List Int) (ss : List Nat) : D → Bool
  | .tuple [.int i, .int k] => decide (0 ≤ i) && decide (i < (ps.length : Nat)) && decide (0 ≤ k) && decide (k < (R.length : Nat)) && canK R o ps ss i.toNat k.toNat
  | _ => false
theorem taken_pd {i k : Nat} (hi : i < ps.length) (hk : k < R.length) : taken R o ps ss (pd (i, k)) = canK R o ps ss i k := by
  have h1 : (0 : Int) ≤ ((i : Nat) : Int) := by omega
  have h2 : ((i : Nat) : Int) < ((ps.length : Nat) : Int) := by omega
  have h3 : (0 : Int) ≤ ((k : Nat) : Int) := by omega
  have h4 : ((k : Nat) : Int) < ((R.length : Nat) : Int) := by omega
  simp only [taken, h1, h2, h3, h4, decide_true, Bool.true_and, Int.toNat_natCast]
theorem taken_not2 {x : D} (h : ¬ isTup 2 x = true) : taken R o ps ss x = false := by
  unfold taken
  split
  · exact absurd rfl h
  · rfl
theorem taken_num {p q : D} (h : taken R o ps ss (.tuple [p, q]) = true) : isNum 0 ((ps.length : Nat) - 1) p = true ∧ isNum 0 ((R.length : Nat) - 1) q = true := by
  cases p <;> cases q <;> simp only [taken, Bool.and_eq_true, decide_eq_true_eq, Bool.false_eq_true] at h
  exact ⟨num_is h.1.1.1.1 (by omega), num_is h.1.1.2 (by omega)⟩
/-- a pair of the right kind, or an object that is no step -/
theorem pair_cases (x : D) : (∃ p q, x = .tuple [p, q]) ∨ isTup 2 x = false := by
  cases h : isTup 2 x
  · exact .inr rfl
  · cases x with
    | tuple xs =>
      obtain ⟨p, q, rfl⟩ := two xs (by simp only [isTup, beq_iff_eq] at h; omega)
      exact .inl ⟨p, q, rfl⟩
    | _ => cases h
end
end K24
namespace K24
open PySem DL
theorem w_sErrF {c : String} {f : Str} {a : EX} {r : DL.Env} : sErrF c f a r = so (a r) r fun x => match x with
  | .int i => if i.natAbs.log2 < 1920 then some (.er ⟨c, some (f, .int i)⟩ r) else none
  | _ => none := (rfl)
theorem w_small_log {k : Nat} (h : k ≤ lim) : (((k : Nat) : Int).natAbs.log2 < 1920) := by
  rw [Int.natAbs_natCast]
  have h1 : k < 2 ^ 1920 := Nat.lt_of_le_of_lt h (by have := big; rw [this]; exact Nat.lt_of_lt_of_le (show 16777216 < 2 ^ 25 by decide) (Nat.pow_le_pow_right (by decide) (by decide)))
  by_cases h0 : k = 0
  · subst h0; simp
  · exact (Nat.log2_lt h0).mpr h1
section
variable {n : Nat} {R : List Rl}
theorem check_state_t {s : Nat} (hs : s < n) : f_check_state [eB n R, nd s] = ok .none := by
  have h := below (nd s) (n : Nat)
  rw [num_is (by omega) (by omega)] at h
  simp only [f_check_state, b_check_state, e_vVar, e_vRd, e_vC, e_v1, e_v2, e_c1, e_c2, e_l1, e_l2, e_vL, e_vB, e_vArgs0, e_vArgs, e_vTup, e_vCall, e_vIf, e_bTr, e_bNot, e_bAnd, e_bOr, e_bChain, e_iSeq, e_iRange1, e_iRange2, e_vCut, e_vOpt0, e_vOpt, e_sNx, e_sBk, e_sCt, e_sSeq, e_sSet, e_sOwn, e_sPut, e_sFreeze, e_sRet, e_sExpr, e_sIf, e_sApp, e_sPar, e_sFor, runD, slots, so_ok, rb_ok, rb_none, so_none, po_some, List.getElem?_cons_zero, List.getElem?_cons_succ, List.set_cons_zero, List.set_cons_succ, List.map_cons, List.map_nil, List.length_cons, List.length_nil, List.replicate, List.append_nil, List.cons_append, List.nil_append, rb_er, so_er, e_sErr, e_sTry, e_iEnumE, e_sSetIx, Bool.not_true, Bool.not_false, Bool.false_eq_true, Bool.true_and, Bool.false_and, Bool.and_true, Bool.and_false, Bool.true_or, Bool.false_or, Bool.or_true, Bool.or_false, if_true, if_false, Option.map_some, tr_bool, int_int, add_int, sub_int, x0b, h]
theorem check_states_t (B : Bo n R) {a q : Nat} (ha : a < n) (hq : q < n) : f_check_states [eB n R, .tuple [nd a, nd q]] = ok .none := by
  have h1 := check_state_t (R := R) ha
  have h2 := check_state_t (R := R) hq
  have h3 : f_check_book [eB n R] = ok .none := by rw [check_book_, B.is]; rfl
  have put : ∀ (x : D) (s : Slot), (Tg.one 2).put x [.d (eB n R), .d (.tuple [nd a, nd q]), s] = some [.d (eB n R), .d (.tuple [nd a, nd q]), .d x] := fun _ _ => rfl
  have hl : ∀ s, loopF (.one 2) (sExpr (vCall f_check_state [(vVar 0), (vVar 2)])) [nd a, nd q] [.d (eB n R), .d (.tuple [nd a, nd q]), s] = some (.nx [.d (eB n R), .d (.tuple [nd a, nd q]), .d (nd q)]) := by
    intro s
    rw [loopF, put]
    simp only [e_vVar, e_vRd, e_vC, e_v1, e_v2, e_c1, e_c2, e_l1, e_l2, e_vL, e_vB, e_vArgs0, e_vArgs, e_vTup, e_vCall, e_vIf, e_bTr, e_bNot, e_bAnd, e_bOr, e_bChain, e_iSeq, e_iRange1, e_iRange2, e_vCut, e_vOpt0, e_vOpt, e_sNx, e_sBk, e_sCt, e_sSeq, e_sSet, e_sOwn, e_sPut, e_sFreeze, e_sRet, e_sExpr, e_sIf, e_sApp, e_sPar, e_sFor, runD, slots, so_ok, rb_ok, rb_none, so_none, po_some, List.getElem?_cons_zero, List.getElem?_cons_succ, List.set_cons_zero, List.set_cons_succ, List.map_cons, List.map_nil, List.length_cons, List.length_nil, List.replicate, List.append_nil, List.cons_append, List.nil_append, rb_er, so_er, e_sErr, e_sTry, e_iEnumE, e_sSetIx, Bool.not_true, Bool.not_false, Bool.false_eq_true, Bool.true_and, Bool.false_and, Bool.and_true, Bool.and_false, Bool.true_or, Bool.false_or, Bool.or_true, Bool.or_false, if_true, if_false, Option.map_some, tr_bool, int_int, add_int, sub_int, h1]
    rw [loopF, put]
    simp only [e_vVar, e_vRd, e_vC, e_v1, e_v2, e_c1, e_c2, e_l1, e_l2, e_vL, e_vB, e_vArgs0, e_vArgs, e_vTup, e_vCall, e_vIf, e_bTr, e_bNot, e_bAnd, e_bOr, e_bChain, e_iSeq, e_iRange1, e_iRange2, e_vCut, e_vOpt0, e_vOpt, e_sNx, e_sBk, e_sCt, e_sSeq, e_sSet, e_sOwn, e_sPut, e_sFreeze, e_sRet, e_sExpr, e_sIf, e_sApp, e_sPar, e_sFor, runD, slots, so_ok, rb_ok, rb_none, so_none, po_some, List.getElem?_cons_zero, List.getElem?_cons_succ, List.set_cons_zero, List.set_cons_succ, List.map_cons, List.map_nil, List.length_cons, List.length_nil, List.replicate, List.append_nil, List.cons_append, List.nil_append, rb_er, so_er, e_sErr, e_sTry, e_iEnumE, e_sSetIx, Bool.not_true, Bool.not_false, Bool.false_eq_true, Bool.true_and, Bool.false_and, Bool.and_true, Bool.and_false, Bool.true_or, Bool.false_or, Bool.or_true, Bool.or_false, if_true, if_false, Option.map_some, tr_bool, int_int, add_int, sub_int, h2]
    rfl
  simp only [f_check_states, b_check_states, e_vVar, e_vRd, e_vC, e_v1, e_v2, e_c1, e_c2, e_l1, e_l2, e_vL, e_vB, e_vArgs0, e_vArgs, e_vTup, e_vCall, e_vIf, e_bTr, e_bNot, e_bAnd, e_bOr, e_bChain, e_iSeq, e_iRange1, e_iRange2, e_vCut, e_vOpt0, e_vOpt, e_sNx, e_sBk, e_sCt, e_sSeq, e_sSet, e_sOwn, e_sPut, e_sFreeze, e_sRet, e_sExpr, e_sIf, e_sApp, e_sPar, e_sFor, runD, slots, so_ok, rb_ok, rb_none, so_none, po_some, List.getElem?_cons_zero, List.getElem?_cons_succ, List.set_cons_zero, List.set_cons_succ, List.map_cons, List.map_nil, List.length_cons, List.length_nil, List.replicate, List.append_nil, List.cons_append, List.nil_append, rb_er, so_er, e_sErr, e_sTry, e_iEnumE, e_sSetIx, Bool.not_true, Bool.not_false, Bool.false_eq_true, Bool.true_and, Bool.false_and, Bool.and_true, Bool.and_false, Bool.true_or, Bool.false_or, Bool.or_true, Bool.or_false, if_true, if_false, Option.map_some, tr_bool, int_int, add_int, sub_int, h3, seq_tup, hl]
/-- an entry that is the number of a rule that can fire -/
def wtak (R : List Rl) (a q : Nat) : D → Bool
  | .int k => decide (0 ≤ k) && decide (k < (R.length : Nat)) && fitK R a q k.toNat
  | _ => false
theorem fitK_lt {a q k : Nat} (h : fitK R a q k = true) : ∃ r, R[k]? = some r ∧ k < R.length ∧ r.a = a ∧ r.o = q := by
  unfold fitK at h
  split at h
  · rename_i r hr
    rw [Bool.and_eq_true, beq_iff_eq, beq_iff_eq] at h
    exact ⟨r, hr, (List.getElem?_eq_some_iff.mp hr).1, h.1, h.2⟩
  · cases h
theorem wtak_nd {a q k : Nat} : wtak R a q (nd k) = fitK R a q k := by
  have h1 : (0 : Int) ≤ ((k : Nat) : Int) := by omega
  cases h : fitK R a q k
  · simp only [wtak, Int.toNat_natCast, h, Bool.and_false]
  · obtain ⟨_, _, hk, _⟩ := fitK_lt h
    have h2 : ((k : Nat) : Int) < ((R.length : Nat) : Int) := by omega
    simp only [wtak, h1, h2, decide_true, Bool.true_and, Int.toNat_natCast, h]
theorem wtak_is {a q : Nat} {x : D} (h : wtak R a q x = true) : ∃ k r, x = nd k ∧ R[k]? = some r ∧ k < R.length ∧ r.a = a ∧ r.o = q := by
  cases x with
  | int i =>
    have h' := h
    simp only [wtak, Bool.and_eq_true, decide_eq_true_eq] at h'
    obtain ⟨r, e1, e2, e3, e4⟩ := fitK_lt h'.2
    refine ⟨i.toNat, r, ?_, e1, e2, e3, e4⟩
    show PyData.int i = .int _
    congr 1
    omega
  | _ => cases h
theorem wtak_num {a q : Nat} {x : D} (h : isNum 0 ((R.length : Nat) - 1) x = false) : wtak R a q x = false := by
  cases ht : wtak R a q x
  · rfl
  · obtain ⟨k, r, rfl, _, hk, _⟩ := wtak_is ht
    rw [num_is (by omega) (by omega)] at h
    cases h
/-- what the rule of an entry says -/
def ruleOf (R : List Rl) : D → Rl
  | .int k => (R[k.toNat]?).getD ⟨0, 0, 0, []⟩
  | _ => ⟨0, 0, 0, []⟩
theorem ruleOf_nd {k : Nat} {r : Rl} (h : R[k]? = some r) : ruleOf R (nd k) = r := by
  show (R[((k : Nat) : Int).toNat]?).getD _ = r
  rw [Int.toNat_natCast, h]
  rfl
def goW (R : List Rl) (a : Nat) : Nat → List D → Nat → Except Nat Nat
  | _, [], q => .ok q
  | k, x :: xs, q => if wtak R a q x = true then goW R a (k + 1) xs (ruleOf R x).w else .error k
theorem goW_cons (a k : Nat) (x : D) (xs : List D) (q : Nat) : goW R a k (x :: xs) q = if wtak R a q x = true then goW R a (k + 1) xs (ruleOf R x).w else .error k := rfl
theorem goW_lt (B : Bo n R) (a : Nat) : ∀ (xs : List D) (k q z : Nat), q < n → goW R a k xs q = .ok z → z < n
  | [], _, _, _, hq, h => by cases h; exact hq
  | x :: xs, k, q, z, hq, h => by
    rw [goW_cons] at h
    split at h
    · rename_i c
      obtain ⟨j, r, rfl, hr, _⟩ := wtak_is c
      rw [ruleOf_nd hr] at h
      exact goW_lt B a xs (k + 1) _ z (B.at hr).w h
    · cases h
/-- where the signals take the states of a child -/
def sgW (R : List Rl) : List D → List Nat → List Nat
  | [], g => g
  | x :: xs, g => sgW R xs (g.map fun s => (ruleOf R x).sg.getD s 0)
theorem sg_step {r : Rl} (hr : okR n r) {g : List Nat} (hg : ∀ x ∈ g, x < n) : ∀ x ∈ g.map fun s => r.sg.getD s 0, x < n := by
  intro x hx
  obtain ⟨s, hs, rfl⟩ := List.mem_map.mp hx
  exact hr.sg _ (getD_mem (by rw [hr.len]; exact hg s hs))
theorem comp_sg {it e : EX} {i : Nat} {E : DL.Env} {r : Rl} {g : List Nat} (hr : okR n r) (hg : ∀ x ∈ g, x < n) (hl : g.length ≤ lim) (hi : it E = ok (.list (ndl g))) (he : ∀ s : Nat, s < n → e ((E.set i .un).set i (.d (nd s))) = po (dIx (.tuple (ndl r.sg)) (nd s))) :
    lComp (iSeq it) (.one i) bYes e E = ok (ndl (g.map fun s => r.sg.getD s 0)) := by
  have h := lcomp_map (it := iSeq it) (i := i) (e := e) (r := E) (xs := ndl g) (fun d => match d with | .int s => nd (r.sg.getD s.toNat 0) | _ => .none) (by rw [e_iSeq, hi, rb_ok, seq_list, po_some]) (by rw [List.length_map]; exact hl) (fun x hx => by
    obtain ⟨s, hs, rfl⟩ := List.mem_map.mp hx
    rw [he s (hg s hs), ix_ndt, get_nat (by rw [hr.len]; exact hg s hs)]
    rfl)
  rw [h, List.map_map]
  show ok _ = ok (List.map nd (List.map _ g))
  rw [List.map_map]
  rfl
theorem signal_loop (B : Bo n R) (a : Nat) (l : D) : ∀ (xs : List D) (k q z : Nat) (g : List Nat) (s3 : Slot), g.length ≤ 4 → (∀ x ∈ g, x < n) → goW R a k xs q = .ok z →
    ∃ s3' : Slot, loopF (.one 3) (sSet 2 (vL (lComp (iSeq (vVar 2)) (.one 4) bYes (v2 dIx (v2 dIx (v2 dIx (v2 dIx (vVar 0) (vC (.int 1))) (vVar 3)) (vC (.int 3))) (vVar 4))))) xs [.d (eB n R), .d l, .d (.list (ndl g)), s3, .un] = some (.nx [.d (eB n R), .d l, .d (.list (ndl (sgW R xs g))), s3', .un])
  | [], k, q, z, g, s3, _, _, _ => ⟨s3, rfl⟩
  | x :: xs, k, q, z, g, s3, hl, hg, h => by
    rw [goW_cons] at h
    split at h
    · rename_i c
      obtain ⟨j, r, rfl, hr, _⟩ := wtak_is c
      obtain ⟨s3', e1⟩ := signal_loop B a l xs (k + 1) (ruleOf R (nd j)).w z (g.map fun s => (ruleOf R (nd j)).sg.getD s 0) (.d (nd j)) (by rw [List.length_map]; exact hl) (by rw [ruleOf_nd hr]; exact sg_step (B.at hr) hg) h
      refine ⟨s3', ?_⟩
      have put : (Tg.one 3).put (nd j) [.d (eB n R), .d l, .d (.list (ndl g)), s3, .un] = some [.d (eB n R), .d l, .d (.list (ndl g)), .d (nd j), .un] := rfl
      have hc := comp_sg (it := vVar 2) (i := 4) (e := v2 dIx (v2 dIx (v2 dIx (v2 dIx (vVar 0) (vC (.int 1))) (vVar 3)) (vC (.int 3))) (vVar 4)) (E := [.d (eB n R), .d l, .d (.list (ndl g)), .d (nd j), .un]) (B.at hr) hg (by have := big; omega) rfl (fun s hs => by
        simp only [e_vVar, e_vRd, e_vC, e_v1, e_v2, e_c1, e_c2, e_l1, e_l2, e_vL, e_vB, e_vArgs0, e_vArgs, e_vTup, e_vCall, e_vIf, e_bTr, e_bNot, e_bAnd, e_bOr, e_bChain, e_iSeq, e_iRange1, e_iRange2, e_vCut, e_vOpt0, e_vOpt, e_sNx, e_sBk, e_sCt, e_sSeq, e_sSet, e_sOwn, e_sPut, e_sFreeze, e_sRet, e_sExpr, e_sIf, e_sApp, e_sPar, e_sFor, runD, slots, so_ok, rb_ok, rb_none, so_none, po_some, List.getElem?_cons_zero, List.getElem?_cons_succ, List.set_cons_zero, List.set_cons_succ, List.map_cons, List.map_nil, List.length_cons, List.length_nil, List.replicate, List.append_nil, List.cons_append, List.nil_append, rb_er, so_er, e_sErr, e_sTry, e_iEnumE, e_sSetIx, Bool.not_true, Bool.not_false, Bool.false_eq_true, Bool.true_and, Bool.false_and, Bool.and_true, Bool.and_false, Bool.true_or, Bool.false_or, Bool.or_true, Bool.or_false, if_true, if_false, Option.map_some, tr_bool, int_int, add_int, sub_int, x1b, xrule hr, x3r])
      rw [← ruleOf_nd hr] at hc
      rw [loopF, put]
      dsimp only
      rw [e_sSet, e_vL, hc]
      exact e1
    · cases h
theorem signal_t (B : Bo n R) (a : Nat) {xs : List D} {q z : Nat} (h : goW R a 0 xs q = .ok z) : f_signal_of [eB n R, .list xs] = ok (.tuple (ndl (sgW R xs (List.range n)))) := by
  have h1 : lRange1 (nd n) = some (ndl (List.range n)) := by rw [show lRange1 (nd n) = some (rng 0 n) from lrng1_nat (by have := B.n4; have := big; omega), rng_ndl]
  obtain ⟨s3, h2⟩ := signal_loop B a (.list xs) xs 0 q z (List.range n) .un (by rw [List.length_range]; exact B.n4) (fun x hx => List.mem_range.mp hx) h
  suffices h : b_signal_of (slots 5 [eB n R, .list xs]) = some (.rt (.tuple (ndl (sgW R xs (List.range n))))) by
    simp only [f_signal_of, runD, h, List.length_cons, List.length_nil, if_true]
  rw [b_signal_of, e_sSeq]
  simp only [e_vVar, e_vRd, e_vC, e_v1, e_v2, e_c1, e_c2, e_l1, e_l2, e_vL, e_vB, e_vArgs0, e_vArgs, e_vTup, e_vCall, e_vIf, e_bTr, e_bNot, e_bAnd, e_bOr, e_bChain, e_iSeq, e_iRange1, e_iRange2, e_vCut, e_vOpt0, e_vOpt, e_sNx, e_sBk, e_sCt, e_sSeq, e_sSet, e_sOwn, e_sPut, e_sFreeze, e_sRet, e_sExpr, e_sIf, e_sApp, e_sPar, e_sFor, runD, slots, so_ok, rb_ok, rb_none, so_none, po_some, List.getElem?_cons_zero, List.getElem?_cons_succ, List.set_cons_zero, List.set_cons_succ, List.map_cons, List.map_nil, List.length_cons, List.length_nil, List.replicate, List.append_nil, List.cons_append, List.nil_append, rb_er, so_er, e_sErr, e_sTry, e_iEnumE, e_sSetIx, Bool.not_true, Bool.not_false, Bool.false_eq_true, Bool.true_and, Bool.false_and, Bool.and_true, Bool.and_false, Bool.true_or, Bool.false_or, Bool.or_true, Bool.or_false, if_true, if_false, Option.map_some, tr_bool, int_int, add_int, sub_int, x0b, h1, seq_list, h2, tup_list]
theorem notIn_ndl (xs : List Nat) (k : Nat) : cNotIn (nd k) (.list (ndl xs)) = some (!xs.any (· == k)) := by
  have h := in_ndl xs k
  unfold cIn at h
  unfold cNotIn
  rw [show seqOf (.list (ndl xs)) = some (ndl xs) from rfl] at h ⊢
  dsimp only at h ⊢
  split at h
  · rename_i c
    rw [if_pos c]
    have h := Option.some.inj h
    rw [h]
  · cases h
theorem way_loop (B : Bo n R) {a : Nat} (l : D) : ∀ (xs : List D) (k q : Nat) (s4 s5 : Slot), k + xs.length ≤ lim → q < n →
    ∃ r' : DL.Env, loopF (.many [4, 5]) (sSeq (sIf (bOr (bNot (bTr (vCall f_is_number_below [(vVar 5), (v1 dLen (v2 dIx (vVar 0) (vC (.int 1))))]))) (c2 cNotIn (vVar 5) (vCall f_fitting_rules [(vVar 0), (vVar 1), (vVar 2)]))) (sErrF "BadWay" (PySem.Str.ofString "place") (vVar 4)) sNx) (sSet 2 (v2 dIx (v2 dIx (v2 dIx (vVar 0) (vC (.int 1))) (vVar 5)) (vC (.int 2))))) (enumL k xs) [.d (eB n R), .d (nd a), .d (nd q), .d l, s4, s5] = (match goW R a k xs q with
      | .ok z => some (.nx r')
      | .error p => some (.er ⟨"BadWay", some (PySem.Str.ofString "place", nd p)⟩ r')) ∧ ∀ z, goW R a k xs q = .ok z → ∃ s4' s5', r' = [.d (eB n R), .d (nd a), .d (nd z), .d l, s4', s5']
  | [], k, q, s4, s5, hl, hq => ⟨_, rfl, fun z h => by cases h; exact ⟨_, _, rfl⟩⟩
  | x :: xs, k, q, s4, s5, hl, hq => by
    rw [List.length_cons] at hl
    have put : (Tg.many [4, 5]).put (.tuple [nd k, x]) [.d (eB n R), .d (nd a), .d (nd q), .d l, s4, s5] = some [.d (eB n R), .d (nd a), .d (nd q), .d l, .d (nd k), .d x] := rfl
    have lR : dLen (.tuple (R.map eR)) = some (.int (R.length : Nat)) := by rw [len_tup, List.length_map]
    have hlog := w_small_log (k := k) (by omega)
    rw [enumL, goW_cons]
    cases hp : isNum 0 ((R.length : Nat) - 1) x
    · rw [wtak_num hp]
      refine ⟨[.d (eB n R), .d (nd a), .d (nd q), .d l, .d (nd k), .d x], ?_, fun z h => by cases h⟩
      rw [loopF, put]
      simp only [e_vVar, e_vRd, e_vC, e_v1, e_v2, e_c1, e_c2, e_l1, e_l2, e_vL, e_vB, e_vArgs0, e_vArgs, e_vTup, e_vCall, e_vIf, e_bTr, e_bNot, e_bAnd, e_bOr, e_bChain, e_iSeq, e_iRange1, e_iRange2, e_vCut, e_vOpt0, e_vOpt, e_sNx, e_sBk, e_sCt, e_sSeq, e_sSet, e_sOwn, e_sPut, e_sFreeze, e_sRet, e_sExpr, e_sIf, e_sApp, e_sPar, e_sFor, runD, slots, so_ok, rb_ok, rb_none, so_none, po_some, List.getElem?_cons_zero, List.getElem?_cons_succ, List.set_cons_zero, List.set_cons_succ, List.map_cons, List.map_nil, List.length_cons, List.length_nil, List.replicate, List.append_nil, List.cons_append, List.nil_append, rb_er, so_er, e_sErr, e_sTry, e_iEnumE, e_sSetIx, Bool.not_true, Bool.not_false, Bool.false_eq_true, Bool.true_and, Bool.false_and, Bool.and_true, Bool.and_false, Bool.true_or, Bool.false_or, Bool.or_true, Bool.or_false, if_true, if_false, Option.map_some, tr_bool, int_int, add_int, sub_int, x1b, lR, below, hp, w_sErrF, hlog]
    · obtain ⟨j, rfl, hj⟩ := num_nat hp
      have hf := fitting_t B a q
      have hi := notIn_ndl (fitL R a q) j
      rw [any_fit] at hi
      rw [wtak_nd]
      cases hc : fitK R a q j
      · rw [hc] at hi
        refine ⟨[.d (eB n R), .d (nd a), .d (nd q), .d l, .d (nd k), .d (nd j)], ?_, fun z h => by cases h⟩
        rw [loopF, put]
        simp only [e_vVar, e_vRd, e_vC, e_v1, e_v2, e_c1, e_c2, e_l1, e_l2, e_vL, e_vB, e_vArgs0, e_vArgs, e_vTup, e_vCall, e_vIf, e_bTr, e_bNot, e_bAnd, e_bOr, e_bChain, e_iSeq, e_iRange1, e_iRange2, e_vCut, e_vOpt0, e_vOpt, e_sNx, e_sBk, e_sCt, e_sSeq, e_sSet, e_sOwn, e_sPut, e_sFreeze, e_sRet, e_sExpr, e_sIf, e_sApp, e_sPar, e_sFor, runD, slots, so_ok, rb_ok, rb_none, so_none, po_some, List.getElem?_cons_zero, List.getElem?_cons_succ, List.set_cons_zero, List.set_cons_succ, List.map_cons, List.map_nil, List.length_cons, List.length_nil, List.replicate, List.append_nil, List.cons_append, List.nil_append, rb_er, so_er, e_sErr, e_sTry, e_iEnumE, e_sSetIx, Bool.not_true, Bool.not_false, Bool.false_eq_true, Bool.true_and, Bool.false_and, Bool.and_true, Bool.and_false, Bool.true_or, Bool.false_or, Bool.or_true, Bool.or_false, if_true, if_false, Option.map_some, tr_bool, int_int, add_int, sub_int, x1b, lR, below, hp, hf, hi, w_sErrF, hlog]
      · rw [hc] at hi
        obtain ⟨r, hr, _⟩ := fitK_lt hc
        rw [ruleOf_nd hr, if_pos rfl]
        obtain ⟨r', h1, h2⟩ := way_loop B l xs (k + 1) r.w (.d (nd k)) (.d (nd j)) (by omega) (B.at hr).w
        refine ⟨r', ?_, h2⟩
        rw [← h1, loopF, put]
        simp only [e_vVar, e_vRd, e_vC, e_v1, e_v2, e_c1, e_c2, e_l1, e_l2, e_vL, e_vB, e_vArgs0, e_vArgs, e_vTup, e_vCall, e_vIf, e_bTr, e_bNot, e_bAnd, e_bOr, e_bChain, e_iSeq, e_iRange1, e_iRange2, e_vCut, e_vOpt0, e_vOpt, e_sNx, e_sBk, e_sCt, e_sSeq, e_sSet, e_sOwn, e_sPut, e_sFreeze, e_sRet, e_sExpr, e_sIf, e_sApp, e_sPar, e_sFor, runD, slots, so_ok, rb_ok, rb_none, so_none, po_some, List.getElem?_cons_zero, List.getElem?_cons_succ, List.set_cons_zero, List.set_cons_succ, List.map_cons, List.map_nil, List.length_cons, List.length_nil, List.replicate, List.append_nil, List.cons_append, List.nil_append, rb_er, so_er, e_sErr, e_sTry, e_iEnumE, e_sSetIx, Bool.not_true, Bool.not_false, Bool.false_eq_true, Bool.true_and, Bool.false_and, Bool.and_true, Bool.and_false, Bool.true_or, Bool.false_or, Bool.or_true, Bool.or_false, if_true, if_false, Option.map_some, tr_bool, int_int, add_int, sub_int, x1b, lR, below, hp, hf, hi, xrule hr, x2r]
theorem way_t (B : Bo n R) {a q : Nat} (ha : a < n) (hq : q < n) {xs : List D} (hl : xs.length ≤ 100000) : f_way_result [eB n R, nd a, nd q, .list xs] = (match goW R a 0 xs q with
    | .ok z => ok (.tuple [nd z, .tuple (ndl (sgW R xs (List.range n)))])
    | .error p => er ⟨"BadWay", some (PySem.Str.ofString "place", nd p)⟩) := by
  have hck := check_states_t B ha hq
  obtain ⟨r', h1, h2⟩ := way_loop B (a := a) (.list xs) xs 0 q .un .un (by have := big; omega) hq
  cases hg : goW R a 0 xs q with
  | ok z =>
    rw [hg] at h1
    obtain ⟨s4, s5, rfl⟩ := h2 z hg
    have hs := signal_t B a hg
    dsimp only at h1
    simp only [f_way_result, b_way_result, e_vVar, e_vRd, e_vC, e_v1, e_v2, e_c1, e_c2, e_l1, e_l2, e_vL, e_vB, e_vArgs0, e_vArgs, e_vTup, e_vCall, e_vIf, e_bTr, e_bNot, e_bAnd, e_bOr, e_bChain, e_iSeq, e_iRange1, e_iRange2, e_vCut, e_vOpt0, e_vOpt, e_sNx, e_sBk, e_sCt, e_sSeq, e_sSet, e_sOwn, e_sPut, e_sFreeze, e_sRet, e_sExpr, e_sIf, e_sApp, e_sPar, e_sFor, runD, slots, so_ok, rb_ok, rb_none, so_none, po_some, List.getElem?_cons_zero, List.getElem?_cons_succ, List.set_cons_zero, List.set_cons_succ, List.map_cons, List.map_nil, List.length_cons, List.length_nil, List.replicate, List.append_nil, List.cons_append, List.nil_append, rb_er, so_er, e_sErr, e_sTry, e_iEnumE, e_sSetIx, Bool.not_true, Bool.not_false, Bool.false_eq_true, Bool.true_and, Bool.false_and, Bool.and_true, Bool.and_false, Bool.true_or, Bool.false_or, Bool.or_true, Bool.or_false, if_true, if_false, Option.map_some, tr_bool, int_int, add_int, sub_int, hck, enum_list, h1, hs]
  | error p =>
    rw [hg] at h1
    dsimp only at h1
    simp only [f_way_result, b_way_result, e_vVar, e_vRd, e_vC, e_v1, e_v2, e_c1, e_c2, e_l1, e_l2, e_vL, e_vB, e_vArgs0, e_vArgs, e_vTup, e_vCall, e_vIf, e_bTr, e_bNot, e_bAnd, e_bOr, e_bChain, e_iSeq, e_iRange1, e_iRange2, e_vCut, e_vOpt0, e_vOpt, e_sNx, e_sBk, e_sCt, e_sSeq, e_sSet, e_sOwn, e_sPut, e_sFreeze, e_sRet, e_sExpr, e_sIf, e_sApp, e_sPar, e_sFor, runD, slots, so_ok, rb_ok, rb_none, so_none, po_some, List.getElem?_cons_zero, List.getElem?_cons_succ, List.set_cons_zero, List.set_cons_succ, List.map_cons, List.map_nil, List.length_cons, List.length_nil, List.replicate, List.append_nil, List.cons_append, List.nil_append, rb_er, so_er, e_sErr, e_sTry, e_iEnumE, e_sSetIx, Bool.not_true, Bool.not_false, Bool.false_eq_true, Bool.true_and, Bool.false_and, Bool.and_true, Bool.and_false, Bool.true_or, Bool.false_or, Bool.or_true, Bool.or_false, if_true, if_false, Option.map_some, tr_bool, int_int, add_int, sub_int, hck, enum_list, h1]
/-! ### plain data -/
theorem wpl_nd (k : Nat) {m : Nat} : pl m (nd k) = true := by cases m <;> rfl
theorem wpl_ndl (xs : List Nat) {m : Nat} : (ndl xs).all (pl m) = true := List.all_eq_true.mpr fun x hx => by obtain ⟨j, _, rfl⟩ := List.mem_map.mp hx; exact wpl_nd j
theorem wwts_ndl (xs : List Nat) : wts (ndl xs) = xs.length := by
  induction xs with
  | nil => rfl
  | cons x xs ih => show wt (nd x) + wts (ndl xs) = _; rw [ih, List.length_cons]; simp only [wt]; omega
theorem wsame_t {d : D} {k : Nat} (hk : k ≤ 11) (h : pl k d = true) (hw : wt d ≤ 1000000) : f_law_same [d, d] = ok (.bool true) := same_ 11 d (pl_up k 11 hk h) hw
theorem sgW_len : ∀ (xs : List D) (g : List Nat), (sgW R xs g).length = g.length
  | [], _ => rfl
  | x :: xs, g => by rw [sgW, sgW_len xs, List.length_map]
end
end K24
namespace K24
open PySem DL
/-! Whether all runs end: the ranks, as numbers. -/
def mx (xs : List Nat) : Nat := xs.foldl max 0
theorem foldl_max (xs : List Nat) : ∀ a : Nat, xs.foldl max a = max a (mx xs) := by
  induction xs with
  | nil => intro a; show a = max a 0; omega
  | cons x xs ih =>
    intro a
    show List.foldl max (max a x) xs = max a (List.foldl max (max 0 x) xs)
    rw [ih, ih (max 0 x)]
    omega
theorem mx_cons (x : Nat) (xs : List Nat) : mx (x :: xs) = max x (mx xs) := by
  show List.foldl max (max 0 x) xs = _
  rw [foldl_max]
  omega
theorem le_mx {x : Nat} : ∀ {xs : List Nat}, x ∈ xs → x ≤ mx xs
  | y :: ys, h => by
    rw [mx_cons]
    rcases List.mem_cons.mp h with rfl | h
    · omega
    · have := le_mx h; omega
theorem mx_le {b : Nat} : ∀ {xs : List Nat}, (∀ x ∈ xs, x ≤ b) → mx xs ≤ b
  | [], _ => Nat.zero_le _
  | y :: ys, h => by
    rw [mx_cons]
    have h1 := h y List.mem_cons_self
    have h2 := mx_le (xs := ys) fun x hx => h x (List.mem_cons_of_mem _ hx)
    omega
theorem mx_mem : ∀ {xs : List Nat}, 0 < mx xs → mx xs ∈ xs
  | [], h => absurd h (Nat.lt_irrefl 0)
  | y :: ys, h => by
    rw [mx_cons] at h ⊢
    by_cases c : mx ys ≤ y
    · rw [show max y (mx ys) = y by omega]
      exact List.mem_cons_self
    · rw [show max y (mx ys) = mx ys by omega]
      exact List.mem_cons_of_mem _ (mx_mem (by omega))
theorem nums_nat_max (y : Nat) (ys : List Nat) : (ys.map fun k : Nat => (k : Int)).foldl max (y : Int) = ((max y (mx ys) : Nat) : Int) := by
  induction ys generalizing y with
  | nil =>
    show (y : Int) = ((max y 0 : Nat) : Int)
    omega
  | cons x xs ih =>
    rw [List.map_cons, List.foldl_cons, show max (y : Int) (x : Int) = ((max y x : Nat) : Int) by omega, ih, mx_cons]
    congr 1
    omega
theorem numsOf_ndl : ∀ ys : List Nat, DL.numsOf (ndl ys) = some (ys.map fun k : Nat => (k : Int))
  | [] => rfl
  | y :: ys => by
    show (DL.numsOf (ndl ys)).map _ = _
    rw [numsOf_ndl ys]
    rfl
theorem dmax_t (ys : List Nat) : dMaxD 0 (.list (ndl ys)) = some (nd (mx ys)) := by
  unfold dMaxD
  dsimp only
  rw [numsOf_ndl]
  cases ys with
  | nil => rfl
  | cons y ys =>
    show some (PyData.int ((ys.map fun k : Nat => (k : Int)).foldl max (y : Int))) = _
    rw [nums_nat_max, mx_cons]
/-- one turn: from the ranks so far -/
def rkStep (R : List Rl) (a n : Nat) (g : List Nat) : List Nat := (List.range n).map fun o => mx ((R.filter fun r => r.a == a && r.o == o).map fun r => g.getD r.w 0 + 1)
def rk (R : List Rl) (a n : Nat) : Nat → List Nat
  | 0 => List.replicate n 0
  | t + 1 => rkStep R a n (rk R a n t)
theorem rk_len (R : List Rl) (a n : Nat) : ∀ t, (rk R a n t).length = n
  | 0 => by rw [rk, List.length_replicate]
  | t + 1 => by rw [rk, rkStep, List.length_map, List.length_range]
section
variable {n : Nat} {R : List Rl} {a : Nat}
theorem rk_at {t o : Nat} (ho : o < n) : (rk R a n (t + 1)).getD o 0 = mx ((R.filter fun r => r.a == a && r.o == o).map fun r => (rk R a n t).getD r.w 0 + 1) := by
  rw [rk, rkStep, List.getD_eq_getElem?_getD, List.getElem?_map, List.getElem?_range ho]
  rfl
theorem rk_0 {o : Nat} : (rk R a n 0).getD o 0 = 0 := by
  rw [rk, List.getD_eq_getElem?_getD, List.getElem?_replicate]
  split <;> rfl
theorem mem_fit {o : Nat} {r : Rl} : r ∈ (R.filter fun r => r.a == a && r.o == o) ↔ r ∈ R ∧ r.a = a ∧ r.o = o := by
  rw [List.mem_filter, Bool.and_eq_true, beq_iff_eq, beq_iff_eq]
theorem rk_rule {t : Nat} {r : Rl} (hr : r ∈ R) (ha : r.a = a) (ho : r.o < n) : (rk R a n t).getD r.w 0 + 1 ≤ (rk R a n (t + 1)).getD r.o 0 := by
  rw [rk_at ho]
  exact le_mx (List.mem_map.mpr ⟨r, mem_fit.mpr ⟨hr, ha, rfl⟩, rfl⟩)
theorem rk_pos {t o : Nat} (ho : o < n) (h : 0 < (rk R a n (t + 1)).getD o 0) : ∃ r ∈ R, r.a = a ∧ r.o = o ∧ (rk R a n (t + 1)).getD o 0 = (rk R a n t).getD r.w 0 + 1 := by
  rw [rk_at ho] at h ⊢
  obtain ⟨r, hr, e⟩ := List.mem_map.mp (mx_mem h)
  obtain ⟨h1, h2, h3⟩ := mem_fit.mp hr
  exact ⟨r, h1, h2, h3, e.symm⟩
theorem rk_le (B : Bo n R) : ∀ (t o : Nat), o < n → (rk R a n t).getD o 0 ≤ t
  | 0, o, _ => by rw [rk_0]; exact Nat.le_refl _
  | t + 1, o, ho => by
    rw [rk_at ho]
    refine mx_le fun x hx => ?_
    obtain ⟨r, hr, rfl⟩ := List.mem_map.mp hx
    have := rk_le B t r.w (B.ok r (mem_fit.mp hr).1).w
    omega
theorem rk_mono (B : Bo n R) : ∀ (t o : Nat), o < n → (rk R a n t).getD o 0 ≤ (rk R a n (t + 1)).getD o 0
  | 0, o, _ => by rw [rk_0]; exact Nat.zero_le _
  | t + 1, o, ho => by
    by_cases h : 0 < (rk R a n (t + 1)).getD o 0
    · obtain ⟨r, hr, h1, h2, e⟩ := rk_pos ho h
      have hw := (B.ok r hr).w
      have := rk_mono B t r.w hw
      have h3 := rk_rule (t := t + 1) (n := n) hr h1 (by rw [h2]; exact ho)
      rw [h2] at h3
      omega
    · omega
theorem rk_jump (B : Bo n R) : ∀ (t o : Nat), o < n → (rk R a n t).getD o 0 < (rk R a n (t + 1)).getD o 0 → (rk R a n (t + 1)).getD o 0 = t + 1
  | 0, o, ho, h => by
    have := rk_le (a := a) B 1 o ho
    rw [rk_0] at h
    show _ = 1
    have : (rk R a n (0 + 1)).getD o 0 ≤ 1 := this
    omega
  | t + 1, o, ho, h => by
    obtain ⟨r, hr, h1, h2, e⟩ := rk_pos (R := R) (a := a) (n := n) (t := t + 1) ho (by omega)
    have hw := (B.ok r hr).w
    have h3 := rk_rule (t := t) (n := n) hr h1 (by rw [h2]; exact ho)
    rw [h2] at h3
    have := rk_jump B t r.w hw (by omega)
    omega
/-- no ring: each rule leads to a lesser rank -/
theorem rk_falls (B : Bo n R) (h : ∀ o, o < n → (rk R a n n).getD o 0 ≠ n) {r : Rl} (hr : r ∈ R) (ha : r.a = a) : (rk R a n n).getD r.w 0 < (rk R a n n).getD r.o 0 := by
  have ok := B.ok r hr
  have n1 := B.n1
  obtain ⟨m, rfl⟩ : ∃ m, n = m + 1 := ⟨n - 1, by omega⟩
  have hw : (rk R a (m + 1) m).getD r.w 0 = (rk R a (m + 1) (m + 1)).getD r.w 0 := by
    have h1 := rk_mono (a := a) B m r.w ok.w
    by_cases c : (rk R a (m + 1) m).getD r.w 0 < (rk R a (m + 1) (m + 1)).getD r.w 0
    · exact absurd (rk_jump B m r.w ok.w c) (h r.w ok.w)
    · omega
  have := rk_rule (t := m) (n := m + 1) hr ha ok.o
  omega
/-! ### the program's words -/
theorem step_row (B : Bo n R) (g : List Nat) (hg : g.length = n) {o : Nat} (s5 : Slot) : lComp (iSeq (vVar 3)) (.one 7) (bAnd (c2 cEq (v2 dIx (vVar 7) (vC (.int 0))) (vVar 1)) (c2 cEq (v2 dIx (vVar 7) (vC (.int 1))) (vVar 6))) (v2 dAdd (v2 dIx (vVar 4) (v2 dIx (vVar 7) (vC (.int 2)))) (vC (.int 1))) [.d (eB n R), .d (nd a), .d (nd n), .d (.tuple (R.map eR)), .d (.list (ndl g)), s5, .d (nd o), .un] = ok (ndl ((R.filter fun r => r.a == a && r.o == o).map fun r => g.getD r.w 0 + 1)) := by
  have key : ∀ Q : List Rl, (∀ r ∈ Q, okR n r) → compL (.one 7) (bAnd (c2 cEq (v2 dIx (vVar 7) (vC (.int 0))) (vVar 1)) (c2 cEq (v2 dIx (vVar 7) (vC (.int 1))) (vVar 6))) (v2 dAdd (v2 dIx (vVar 4) (v2 dIx (vVar 7) (vC (.int 2)))) (vC (.int 1))) [.d (eB n R), .d (nd a), .d (nd n), .d (.tuple (R.map eR)), .d (.list (ndl g)), s5, .d (nd o), .un] (Q.map eR) = ok (ndl ((Q.filter fun r => r.a == a && r.o == o).map fun r => g.getD r.w 0 + 1)) := by
    intro Q
    induction Q with
    | nil => exact fun _ => rfl
    | cons r Q ih =>
      intro hQ
      have ih := ih fun r hr => hQ r (List.mem_cons_of_mem _ hr)
      have ok_ := hQ r List.mem_cons_self
      have ex : dIx (.list (ndl g)) (.int (r.w : Nat)) = some (nd (g.getD r.w 0)) := by rw [ix_ndl, get_nat (by rw [hg]; exact ok_.w)]; rfl
      rw [List.map_cons, compL, put_one]
      dsimp only
      cases h1 : r.a == a
      · simp only [e_vVar, e_vRd, e_vC, e_v1, e_v2, e_c1, e_c2, e_l1, e_l2, e_vL, e_vB, e_vArgs0, e_vArgs, e_vTup, e_vCall, e_vIf, e_bTr, e_bNot, e_bAnd, e_bOr, e_bChain, e_iSeq, e_iRange1, e_iRange2, e_vCut, e_vOpt0, e_vOpt, e_sNx, e_sBk, e_sCt, e_sSeq, e_sSet, e_sOwn, e_sPut, e_sFreeze, e_sRet, e_sExpr, e_sIf, e_sApp, e_sPar, e_sFor, runD, slots, so_ok, rb_ok, rb_none, so_none, po_some, List.getElem?_cons_zero, List.getElem?_cons_succ, List.set_cons_zero, List.set_cons_succ, List.map_cons, List.map_nil, List.length_cons, List.length_nil, List.replicate, List.append_nil, List.cons_append, List.nil_append, rb_er, so_er, e_sErr, e_sTry, e_iEnumE, e_sSetIx, Bool.not_true, Bool.not_false, Bool.false_eq_true, Bool.true_and, Bool.false_and, Bool.and_true, Bool.and_false, Bool.true_or, Bool.false_or, Bool.or_true, Bool.or_false, if_true, if_false, Option.map_some, tr_bool, int_int, add_int, sub_int, x0r, x1r, eq_nd, h1, ih, List.filter_cons]
      · cases h2 : r.o == o
        · simp only [e_vVar, e_vRd, e_vC, e_v1, e_v2, e_c1, e_c2, e_l1, e_l2, e_vL, e_vB, e_vArgs0, e_vArgs, e_vTup, e_vCall, e_vIf, e_bTr, e_bNot, e_bAnd, e_bOr, e_bChain, e_iSeq, e_iRange1, e_iRange2, e_vCut, e_vOpt0, e_vOpt, e_sNx, e_sBk, e_sCt, e_sSeq, e_sSet, e_sOwn, e_sPut, e_sFreeze, e_sRet, e_sExpr, e_sIf, e_sApp, e_sPar, e_sFor, runD, slots, so_ok, rb_ok, rb_none, so_none, po_some, List.getElem?_cons_zero, List.getElem?_cons_succ, List.set_cons_zero, List.set_cons_succ, List.map_cons, List.map_nil, List.length_cons, List.length_nil, List.replicate, List.append_nil, List.cons_append, List.nil_append, rb_er, so_er, e_sErr, e_sTry, e_iEnumE, e_sSetIx, Bool.not_true, Bool.not_false, Bool.false_eq_true, Bool.true_and, Bool.false_and, Bool.and_true, Bool.and_false, Bool.true_or, Bool.false_or, Bool.or_true, Bool.or_false, if_true, if_false, Option.map_some, tr_bool, int_int, add_int, sub_int, x0r, x1r, eq_nd, h1, h2, ih, List.filter_cons]
        · simp only [e_vVar, e_vRd, e_vC, e_v1, e_v2, e_c1, e_c2, e_l1, e_l2, e_vL, e_vB, e_vArgs0, e_vArgs, e_vTup, e_vCall, e_vIf, e_bTr, e_bNot, e_bAnd, e_bOr, e_bChain, e_iSeq, e_iRange1, e_iRange2, e_vCut, e_vOpt0, e_vOpt, e_sNx, e_sBk, e_sCt, e_sSeq, e_sSet, e_sOwn, e_sPut, e_sFreeze, e_sRet, e_sExpr, e_sIf, e_sApp, e_sPar, e_sFor, runD, slots, so_ok, rb_ok, rb_none, so_none, po_some, List.getElem?_cons_zero, List.getElem?_cons_succ, List.set_cons_zero, List.set_cons_succ, List.map_cons, List.map_nil, List.length_cons, List.length_nil, List.replicate, List.append_nil, List.cons_append, List.nil_append, rb_er, so_er, e_sErr, e_sTry, e_iEnumE, e_sSetIx, Bool.not_true, Bool.not_false, Bool.false_eq_true, Bool.true_and, Bool.false_and, Bool.and_true, Bool.and_false, Bool.true_or, Bool.false_or, Bool.or_true, Bool.or_false, if_true, if_false, Option.map_some, tr_bool, int_int, add_int, sub_int, x0r, x1r, x2r, eq_nd, h1, h2, ex, ih, List.filter_cons]
          rfl
  unfold lComp
  rw [show iSeq (vVar 3) [.d (eB n R), .d (nd a), .d (nd n), .d (.tuple (R.map eR)), .d (.list (ndl g)), s5, .d (nd o), .un] = ok (R.map eR) from rfl, rb_ok, if_pos (by rw [List.length_map]; have := B.len; have := big; omega)]
  show noEr (compL (.one 7) _ _ [.d (eB n R), .d (nd a), .d (nd n), .d (.tuple (R.map eR)), .d (.list (ndl g)), s5, .d (nd o), .un] (R.map eR)) = _
  rw [key R B.ok]
  rfl
theorem step_t (B : Bo n R) (g : List Nat) (hg : g.length = n) (s5 : Slot) : lComp (iRange1 (vVar 2)) (.one 6) bYes (v1 (dMaxD 0) (vL (lComp (iSeq (vVar 3)) (.one 7) (bAnd (c2 cEq (v2 dIx (vVar 7) (vC (.int 0))) (vVar 1)) (c2 cEq (v2 dIx (vVar 7) (vC (.int 1))) (vVar 6))) (v2 dAdd (v2 dIx (vVar 4) (v2 dIx (vVar 7) (vC (.int 2)))) (vC (.int 1)))))) [.d (eB n R), .d (nd a), .d (nd n), .d (.tuple (R.map eR)), .d (.list (ndl g)), s5, .un, .un] = ok (ndl (rkStep R a n g)) := by
  have rg : rng1 (nd n) = some (rng 0 n) := rng1_nat (by have := B.n4; have := big; omega)
  have h := lcomp_map (it := iRange1 (vVar 2)) (i := 6) (e := v1 (dMaxD 0) (vL (lComp (iSeq (vVar 3)) (.one 7) (bAnd (c2 cEq (v2 dIx (vVar 7) (vC (.int 0))) (vVar 1)) (c2 cEq (v2 dIx (vVar 7) (vC (.int 1))) (vVar 6))) (v2 dAdd (v2 dIx (vVar 4) (v2 dIx (vVar 7) (vC (.int 2)))) (vC (.int 1)))))) (r := [.d (eB n R), .d (nd a), .d (nd n), .d (.tuple (R.map eR)), .d (.list (ndl g)), s5, .un, .un]) (xs := rng 0 n) (fun d => match d with | .int o => nd (mx ((R.filter fun r => r.a == a && r.o == o.toNat).map fun r => g.getD r.w 0 + 1)) | _ => .none) (by simp only [e_vVar, e_vRd, e_vC, e_v1, e_v2, e_c1, e_c2, e_l1, e_l2, e_vL, e_vB, e_vArgs0, e_vArgs, e_vTup, e_vCall, e_vIf, e_bTr, e_bNot, e_bAnd, e_bOr, e_bChain, e_iSeq, e_iRange1, e_iRange2, e_vCut, e_vOpt0, e_vOpt, e_sNx, e_sBk, e_sCt, e_sSeq, e_sSet, e_sOwn, e_sPut, e_sFreeze, e_sRet, e_sExpr, e_sIf, e_sApp, e_sPar, e_sFor, runD, slots, so_ok, rb_ok, rb_none, so_none, po_some, List.getElem?_cons_zero, List.getElem?_cons_succ, List.set_cons_zero, List.set_cons_succ, List.map_cons, List.map_nil, List.length_cons, List.length_nil, List.replicate, List.append_nil, List.cons_append, List.nil_append, rb_er, so_er, e_sErr, e_sTry, e_iEnumE, e_sSetIx, Bool.not_true, Bool.not_false, Bool.false_eq_true, Bool.true_and, Bool.false_and, Bool.and_true, Bool.and_false, Bool.true_or, Bool.false_or, Bool.or_true, Bool.or_false, if_true, if_false, Option.map_some, tr_bool, int_int, add_int, sub_int, rg]) (by rw [rng_size]; have := B.n4; have := big; omega) (fun x hx => by
    obtain ⟨o, ho, rfl⟩ := rng_mem hx
    have hr := step_row (a := a) B g hg (o := o) s5
    have hd := dmax_t ((R.filter fun r => r.a == a && r.o == o).map fun r => g.getD r.w 0 + 1)
    simp only [e_vVar, e_vRd, e_vC, e_v1, e_v2, e_c1, e_c2, e_l1, e_l2, e_vL, e_vB, e_vArgs0, e_vArgs, e_vTup, e_vCall, e_vIf, e_bTr, e_bNot, e_bAnd, e_bOr, e_bChain, e_iSeq, e_iRange1, e_iRange2, e_vCut, e_vOpt0, e_vOpt, e_sNx, e_sBk, e_sCt, e_sSeq, e_sSet, e_sOwn, e_sPut, e_sFreeze, e_sRet, e_sExpr, e_sIf, e_sApp, e_sPar, e_sFor, runD, slots, so_ok, rb_ok, rb_none, so_none, po_some, List.getElem?_cons_zero, List.getElem?_cons_succ, List.set_cons_zero, List.set_cons_succ, List.map_cons, List.map_nil, List.length_cons, List.length_nil, List.replicate, List.append_nil, List.cons_append, List.nil_append, rb_er, so_er, e_sErr, e_sTry, e_iEnumE, e_sSetIx, Bool.not_true, Bool.not_false, Bool.false_eq_true, Bool.true_and, Bool.false_and, Bool.and_true, Bool.and_false, Bool.true_or, Bool.false_or, Bool.or_true, Bool.or_false, if_true, if_false, Option.map_some, tr_bool, int_int, add_int, sub_int, hr, hd, Int.toNat_natCast])
  rw [h, rng_ndl]
  unfold rkStep
  show ok (List.map _ (List.map nd _)) = ok (List.map nd (List.map _ _))
  rw [List.map_map, List.map_map]
  congr 1
theorem rep_flat : ∀ n : Nat, (List.replicate n [PyData.int 0]).flatten = ndl (List.replicate n 0)
  | 0 => rfl
  | n + 1 => by
    rw [List.replicate_succ, List.flatten_cons, List.replicate_succ, rep_flat n]
    rfl
theorem rep_ok (xs : List D) (k : Int) (c1 : -(2 ^ 63) ≤ k) (c2 : k < 2 ^ 63) (c3 : xs.length * k.toNat ≤ lim) : lRep (.list xs) (.int k) = some (List.replicate k.toNat xs).flatten := by
  rw [lRep]
  rw [if_pos (And.intro c1 (And.intro c2 c3))]
theorem rep0 (n : Nat) (hn : n ≤ 4) : lRep (.list [.int 0]) (nd n) = some (ndl (List.replicate n 0)) := by
  have g1 : -(2 ^ 63 : Int) ≤ ((n : Nat) : Int) := by have : (-(2 ^ 63) : Int) ≤ 0 := by decide
                                                      omega
  have g2 : ((n : Nat) : Int) < (2 ^ 63 : Int) := by have : (1000 : Int) < 2 ^ 63 := by decide
                                                     omega
  have g3 : ([PyData.int 0] : List D).length * (((n : Nat) : Int)).toNat ≤ lim := by rw [List.length_cons, List.length_nil]; have := big; omega
  have h : lRep (.list [.int 0]) (nd n) = some (List.replicate (((n : Nat) : Int)).toNat [PyData.int 0]).flatten := rep_ok [.int 0] n g1 g2 g3
  rw [h, Int.toNat_natCast, rep_flat]
theorem ranks_t (B : Bo n R) : f_ranks_under [eB n R, nd a] = ok (.list (ndl (rk R a n n))) := by
  have hn4 := B.n4
  have rg : rng1 (nd n) = some (rng 0 n) := rng1_nat (by have := big; omega)
  have put : (Tg.many [2, 3]).put (eB n R) [.d (eB n R), .d (nd a), .un, .un, .un, .un, .un, .un] = some [.d (eB n R), .d (nd a), .d (nd n), .d (.tuple (R.map eR)), .un, .un, .un, .un] := rfl
  have r0 := rep0 n hn4
  suffices h : b_ranks_under (slots 8 [eB n R, nd a]) = some (.rt (.list (ndl (rk R a n n)))) by
    simp only [f_ranks_under, runD, h, List.length_cons, List.length_nil, if_true]
  have e_lRep : ∀ (p q : EX) (r : DL.Env), l2 lRep p q r = rb (p r) fun x => rb (q r) fun y => po (lRep x y) := fun _ _ _ => rfl
  rw [b_ranks_under, e_sSeq]
  simp only [e_vVar, e_vRd, e_vC, e_v1, e_v2, e_c1, e_c2, e_l1, e_l2, e_vL, e_vB, e_vArgs0, e_vArgs, e_vTup, e_vCall, e_vIf, e_bTr, e_bNot, e_bAnd, e_bOr, e_bChain, e_iSeq, e_iRange1, e_iRange2, e_vCut, e_vOpt0, e_vOpt, e_sNx, e_sBk, e_sCt, e_sSeq, e_sSet, e_sOwn, e_sPut, e_sFreeze, e_sRet, e_sExpr, e_sIf, e_sApp, e_sPar, e_sFor, runD, slots, so_ok, rb_ok, rb_none, so_none, po_some, List.getElem?_cons_zero, List.getElem?_cons_succ, List.set_cons_zero, List.set_cons_succ, List.map_cons, List.map_nil, List.length_cons, List.length_nil, List.replicate, List.append_nil, List.cons_append, List.nil_append, rb_er, so_er, e_sErr, e_sTry, e_iEnumE, e_sSetIx, Bool.not_true, Bool.not_false, Bool.false_eq_true, Bool.true_and, Bool.false_and, Bool.and_true, Bool.and_false, Bool.true_or, Bool.false_or, Bool.or_true, Bool.or_false, if_true, if_false, Option.map_some, tr_bool, int_int, add_int, sub_int, put, e_lRep, r0, rg]
  generalize hL : loopF _ _ _ _ = L
  obtain ⟨r', rfl, s5, rfl⟩ := loop_out hL (fun t e => ∃ s5 : Slot, e = [.d (eB n R), .d (nd a), .d (nd n), .d (.tuple (R.map eR)), .d (.list (ndl (rk R a n t))), s5, .un, .un]) ⟨_, rfl⟩ (by
    rintro t y e hy ⟨s5, rfl⟩
    have ht := (List.getElem?_eq_some_iff.mp hy).1
    rw [rng_size] at ht
    rw [rng_at 0 _ t ht] at hy
    cases hy
    have hs := step_t (a := a) B (rk R a n t) (rk_len R a n t) (.d (.int (0 + (t : Nat))))
    refine ⟨_, [.d (eB n R), .d (nd a), .d (nd n), .d (.tuple (R.map eR)), .d (.list (ndl (rk R a n (t + 1)))), .d (.int (0 + (t : Nat))), .un, .un], rfl, ?_, _, rfl⟩
    simp only [e_vVar, e_vRd, e_vC, e_v1, e_v2, e_c1, e_c2, e_l1, e_l2, e_vL, e_vB, e_vArgs0, e_vArgs, e_vTup, e_vCall, e_vIf, e_bTr, e_bNot, e_bAnd, e_bOr, e_bChain, e_iSeq, e_iRange1, e_iRange2, e_vCut, e_vOpt0, e_vOpt, e_sNx, e_sBk, e_sCt, e_sSeq, e_sSet, e_sOwn, e_sPut, e_sFreeze, e_sRet, e_sExpr, e_sIf, e_sApp, e_sPar, e_sFor, runD, slots, so_ok, rb_ok, rb_none, so_none, po_some, List.getElem?_cons_zero, List.getElem?_cons_succ, List.set_cons_zero, List.set_cons_succ, List.map_cons, List.map_nil, List.length_cons, List.length_nil, List.replicate, List.append_nil, List.cons_append, List.nil_append, rb_er, so_er, e_sErr, e_sTry, e_iEnumE, e_sSetIx, Bool.not_true, Bool.not_false, Bool.false_eq_true, Bool.true_and, Bool.false_and, Bool.and_true, Bool.and_false, Bool.true_or, Bool.false_or, Bool.or_true, Bool.or_false, if_true, if_false, Option.map_some, tr_bool, int_int, add_int, sub_int, hs]
    rfl)
  rw [rng_size]
  simp only [e_vVar, e_vRd, e_vC, e_v1, e_v2, e_c1, e_c2, e_l1, e_l2, e_vL, e_vB, e_vArgs0, e_vArgs, e_vTup, e_vCall, e_vIf, e_bTr, e_bNot, e_bAnd, e_bOr, e_bChain, e_iSeq, e_iRange1, e_iRange2, e_vCut, e_vOpt0, e_vOpt, e_sNx, e_sBk, e_sCt, e_sSeq, e_sSet, e_sOwn, e_sPut, e_sFreeze, e_sRet, e_sExpr, e_sIf, e_sApp, e_sPar, e_sFor, runD, slots, so_ok, rb_ok, rb_none, so_none, po_some, List.getElem?_cons_zero, List.getElem?_cons_succ, List.set_cons_zero, List.set_cons_succ, List.map_cons, List.map_nil, List.length_cons, List.length_nil, List.replicate, List.append_nil, List.cons_append, List.nil_append, rb_er, so_er, e_sErr, e_sTry, e_iEnumE, e_sSetIx, Bool.not_true, Bool.not_false, Bool.false_eq_true, Bool.true_and, Bool.false_and, Bool.and_true, Bool.and_false, Bool.true_or, Bool.false_or, Bool.or_true, Bool.or_false, if_true, if_false, Option.map_some, tr_bool, int_int, add_int, sub_int]
/-- a ring under a parent state -/
def ringAt (R : List Rl) (n a : Nat) : Bool := (rk R a n n).any (· == n)
def ringIn (R : List Rl) (n : Nat) : Bool := (List.range n).any (ringAt R n)
theorem ring_in_t (B : Bo n R) : f_has_ring_in [.list (ndl (rk R a n n))] = ok (.bool (ringAt R n a)) := by
  have h := in_ndl (rk R a n n) n
  have l : dLen (.list (ndl (rk R a n n))) = some (nd n) := by rw [len_list, List.length_map, rk_len]
  simp only [f_has_ring_in, b_has_ring_in, e_vVar, e_vRd, e_vC, e_v1, e_v2, e_c1, e_c2, e_l1, e_l2, e_vL, e_vB, e_vArgs0, e_vArgs, e_vTup, e_vCall, e_vIf, e_bTr, e_bNot, e_bAnd, e_bOr, e_bChain, e_iSeq, e_iRange1, e_iRange2, e_vCut, e_vOpt0, e_vOpt, e_sNx, e_sBk, e_sCt, e_sSeq, e_sSet, e_sOwn, e_sPut, e_sFreeze, e_sRet, e_sExpr, e_sIf, e_sApp, e_sPar, e_sFor, runD, slots, so_ok, rb_ok, rb_none, so_none, po_some, List.getElem?_cons_zero, List.getElem?_cons_succ, List.set_cons_zero, List.set_cons_succ, List.map_cons, List.map_nil, List.length_cons, List.length_nil, List.replicate, List.append_nil, List.cons_append, List.nil_append, rb_er, so_er, e_sErr, e_sTry, e_iEnumE, e_sSetIx, Bool.not_true, Bool.not_false, Bool.false_eq_true, Bool.true_and, Bool.false_and, Bool.and_true, Bool.and_false, Bool.true_or, Bool.false_or, Bool.or_true, Bool.or_false, if_true, if_false, Option.map_some, tr_bool, int_int, add_int, sub_int, l, h]
  rfl
theorem any_bools (xs : List Nat) (f : Nat → Bool) : cAny (.list (xs.map fun k => .bool (f k))) = some (xs.any f) := by
  have h := bools_map (xs.map nd) (fun d => match d with | .int k => f k.toNat | _ => false)
  rw [List.map_map, List.map_map] at h
  have e1 : ((fun x : D => PyData.bool (match x with | .int k => f k.toNat | _ => false)) ∘ nd) = fun k : Nat => PyData.bool (f k) := by
    funext k
    simp only [Function.comp, Int.toNat_natCast]
  have e2 : ((fun x : D => match x with | .int k => f k.toNat | _ => false) ∘ nd) = f := by
    funext k
    simp only [Function.comp, Int.toNat_natCast]
  rw [e1, e2] at h
  unfold cAny
  dsimp only
  rw [h]
  dsimp only
  rw [List.any_map]
  rfl
theorem has_ring_t (B : Bo n R) : f_has_ring [eB n R] = ok (.bool (ringIn R n)) := by
  have rg : rng1 (nd n) = some (rng 0 n) := rng1_nat (by have := B.n4; have := big; omega)
  have h := lcomp_map (it := iRange1 (v2 dIx (vVar 0) (vC (.int 0)))) (i := 1) (e := vCall f_has_ring_in [(vCall f_ranks_under [(vVar 0), (vVar 1)])]) (r := [.d (eB n R), .un]) (xs := rng 0 n) (fun d => match d with | .int a => .bool (ringAt R n a.toNat) | _ => .none) (by simp only [e_vVar, e_vRd, e_vC, e_v1, e_v2, e_c1, e_c2, e_l1, e_l2, e_vL, e_vB, e_vArgs0, e_vArgs, e_vTup, e_vCall, e_vIf, e_bTr, e_bNot, e_bAnd, e_bOr, e_bChain, e_iSeq, e_iRange1, e_iRange2, e_vCut, e_vOpt0, e_vOpt, e_sNx, e_sBk, e_sCt, e_sSeq, e_sSet, e_sOwn, e_sPut, e_sFreeze, e_sRet, e_sExpr, e_sIf, e_sApp, e_sPar, e_sFor, runD, slots, so_ok, rb_ok, rb_none, so_none, po_some, List.getElem?_cons_zero, List.getElem?_cons_succ, List.set_cons_zero, List.set_cons_succ, List.map_cons, List.map_nil, List.length_cons, List.length_nil, List.replicate, List.append_nil, List.cons_append, List.nil_append, rb_er, so_er, e_sErr, e_sTry, e_iEnumE, e_sSetIx, Bool.not_true, Bool.not_false, Bool.false_eq_true, Bool.true_and, Bool.false_and, Bool.and_true, Bool.and_false, Bool.true_or, Bool.false_or, Bool.or_true, Bool.or_false, if_true, if_false, Option.map_some, tr_bool, int_int, add_int, sub_int, x0b, rg]) (by rw [rng_size]; have := B.n4; have := big; omega) (fun x hx => by
    obtain ⟨a, ha, rfl⟩ := rng_mem hx
    have h1 := ranks_t (a := a) B
    have h2 := ring_in_t (a := a) B
    simp only [e_vVar, e_vRd, e_vC, e_v1, e_v2, e_c1, e_c2, e_l1, e_l2, e_vL, e_vB, e_vArgs0, e_vArgs, e_vTup, e_vCall, e_vIf, e_bTr, e_bNot, e_bAnd, e_bOr, e_bChain, e_iSeq, e_iRange1, e_iRange2, e_vCut, e_vOpt0, e_vOpt, e_sNx, e_sBk, e_sCt, e_sSeq, e_sSet, e_sOwn, e_sPut, e_sFreeze, e_sRet, e_sExpr, e_sIf, e_sApp, e_sPar, e_sFor, runD, slots, so_ok, rb_ok, rb_none, so_none, po_some, List.getElem?_cons_zero, List.getElem?_cons_succ, List.set_cons_zero, List.set_cons_succ, List.map_cons, List.map_nil, List.length_cons, List.length_nil, List.replicate, List.append_nil, List.cons_append, List.nil_append, rb_er, so_er, e_sErr, e_sTry, e_iEnumE, e_sSetIx, Bool.not_true, Bool.not_false, Bool.false_eq_true, Bool.true_and, Bool.false_and, Bool.and_true, Bool.and_false, Bool.true_or, Bool.false_or, Bool.or_true, Bool.or_false, if_true, if_false, Option.map_some, tr_bool, int_int, add_int, sub_int, h1, h2, Int.toNat_natCast])
  rw [rng_ndl] at h
  have e : (ndl (List.range n)).map (fun d => match d with | .int a => PyData.bool (ringAt R n a.toNat) | _ => .none) = (List.range n).map fun k => .bool (ringAt R n k) := by
    show List.map _ (List.map nd _) = _
    rw [List.map_map]
    rfl
  rw [e] at h
  have ha := any_bools (List.range n) (ringAt R n)
  suffices hb : b_has_ring (slots 2 [eB n R]) = some (.rt (.bool (ringIn R n))) by
    simp only [f_has_ring, runD, hb, List.length_cons, List.length_nil, if_true]
  have e1 : slots 2 [eB n R] = [.d (eB n R), .un] := rfl
  rw [b_has_ring, e1, ringIn]
  simp only [e_vVar, e_vRd, e_vC, e_v1, e_v2, e_c1, e_c2, e_l1, e_l2, e_vL, e_vB, e_vArgs0, e_vArgs, e_vTup, e_vCall, e_vIf, e_bTr, e_bNot, e_bAnd, e_bOr, e_bChain, e_iSeq, e_iRange1, e_iRange2, e_vCut, e_vOpt0, e_vOpt, e_sNx, e_sBk, e_sCt, e_sSeq, e_sSet, e_sOwn, e_sPut, e_sFreeze, e_sRet, e_sExpr, e_sIf, e_sApp, e_sPar, e_sFor, runD, slots, so_ok, rb_ok, rb_none, so_none, po_some, List.getElem?_cons_zero, List.getElem?_cons_succ, List.set_cons_zero, List.set_cons_succ, List.map_cons, List.map_nil, List.length_cons, List.length_nil, List.replicate, List.append_nil, List.cons_append, List.nil_append, rb_er, so_er, e_sErr, e_sTry, e_iEnumE, e_sSetIx, Bool.not_true, Bool.not_false, Bool.false_eq_true, Bool.true_and, Bool.false_and, Bool.and_true, Bool.and_false, Bool.true_or, Bool.false_or, Bool.or_true, Bool.or_false, if_true, if_false, Option.map_some, tr_bool, int_int, add_int, sub_int, h, ha]
theorem check_ends_t (B : Bo n R) : f_check_ends [eB n R] = if ringIn R n = true then er ⟨"NoEnd", none⟩ else ok .none := by
  have h := has_ring_t B
  generalize ringIn R n = k at h ⊢
  suffices hb : b_check_ends (slots 1 [eB n R]) = if k = true then some (.er ⟨"NoEnd", none⟩ [.d (eB n R)]) else some (.nx [.d (eB n R)]) by
    simp only [f_check_ends, runD, hb, List.length_cons, List.length_nil, if_true]
    cases k <;> rfl
  have e1 : slots 1 [eB n R] = [.d (eB n R)] := rfl
  rw [b_check_ends, e1]
  cases k
  · simp only [e_vVar, e_vRd, e_vC, e_v1, e_v2, e_c1, e_c2, e_l1, e_l2, e_vL, e_vB, e_vArgs0, e_vArgs, e_vTup, e_vCall, e_vIf, e_bTr, e_bNot, e_bAnd, e_bOr, e_bChain, e_iSeq, e_iRange1, e_iRange2, e_vCut, e_vOpt0, e_vOpt, e_sNx, e_sBk, e_sCt, e_sSeq, e_sSet, e_sOwn, e_sPut, e_sFreeze, e_sRet, e_sExpr, e_sIf, e_sApp, e_sPar, e_sFor, runD, slots, so_ok, rb_ok, rb_none, so_none, po_some, List.getElem?_cons_zero, List.getElem?_cons_succ, List.set_cons_zero, List.set_cons_succ, List.map_cons, List.map_nil, List.length_cons, List.length_nil, List.replicate, List.append_nil, List.cons_append, List.nil_append, rb_er, so_er, e_sErr, e_sTry, e_iEnumE, e_sSetIx, Bool.not_true, Bool.not_false, Bool.false_eq_true, Bool.true_and, Bool.false_and, Bool.and_true, Bool.and_false, Bool.true_or, Bool.false_or, Bool.or_true, Bool.or_false, if_true, if_false, Option.map_some, tr_bool, int_int, add_int, sub_int, h]
  · simp only [e_vVar, e_vRd, e_vC, e_v1, e_v2, e_c1, e_c2, e_l1, e_l2, e_vL, e_vB, e_vArgs0, e_vArgs, e_vTup, e_vCall, e_vIf, e_bTr, e_bNot, e_bAnd, e_bOr, e_bChain, e_iSeq, e_iRange1, e_iRange2, e_vCut, e_vOpt0, e_vOpt, e_sNx, e_sBk, e_sCt, e_sSeq, e_sSet, e_sOwn, e_sPut, e_sFreeze, e_sRet, e_sExpr, e_sIf, e_sApp, e_sPar, e_sFor, runD, slots, so_ok, rb_ok, rb_none, so_none, po_some, List.getElem?_cons_zero, List.getElem?_cons_succ, List.set_cons_zero, List.set_cons_succ, List.map_cons, List.map_nil, List.length_cons, List.length_nil, List.replicate, List.append_nil, List.cons_append, List.nil_append, rb_er, so_er, e_sErr, e_sTry, e_iEnumE, e_sSetIx, Bool.not_true, Bool.not_false, Bool.false_eq_true, Bool.true_and, Bool.false_and, Bool.and_true, Bool.and_false, Bool.true_or, Bool.false_or, Bool.or_true, Bool.or_false, if_true, if_false, Option.map_some, tr_bool, int_int, add_int, sub_int, h]
theorem falls (B : Bo n R) (h : ringIn R n = false) {r : Rl} (hr : r ∈ R) : (rk R r.a n n).getD r.w 0 < (rk R r.a n n).getD r.o 0 := by
  refine rk_falls B (fun o ho e => ?_) hr rfl
  have h1 : ringAt R n r.a = false := by
    have := List.any_eq_false.mp h r.a (List.mem_range.mpr (B.ok r hr).a)
    simpa using this
  have h2 := List.any_eq_false.mp h1 _ (getD_mem (qs := rk R r.a n n) (j := o) (by rw [rk_len]; exact ho))
  rw [e] at h2
  simp at h2
end
end K24
namespace K24
open PySem DL
/-! Whether all runs end: the law's own walks. -/
theorem e_sNest {i : Nat} {a : DL.Env → DL.R (List (List D))} {r : DL.Env} : sNest i a r = so (a r) r fun xss => some (.nx (r.set i (.nest xss))) := (rfl)
theorem e_vNestIx {i : Nat} {k : EX} {r : DL.Env} : vNestIx i k r = (match r[i]? with
  | some (.nest xss) => rb (k r) fun j => match j with
    | .int j => (match ixAt xss.length j with
      | some n => po ((xss[n]?).map fun xs => .list xs)
      | none => none)
    | _ => none
  | _ => none) := (rfl)
theorem e_sSetIx2 {i : Nat} {k m a : EX} {r : DL.Env} : sSetIx2 i k m a r = (match r[i]? with
  | some (.nest xss) => so (a r) r fun x => so (k r) r fun j => match j with
    | .int j => (match ixAt xss.length j with
      | some n => (match xss[n]? with
        | some xs => so (m r) r fun l => (match l with
          | .int l => (match ixAt xs.length l with
            | some q => some (.nx (r.set i (.nest (xss.set n (xs.set q x)))))
            | none => none)
          | _ => none)
        | none => none)
      | none => none)
    | _ => none
  | _ => none) := (rfl)
theorem ixAtK {n k : Nat} (h : k < n) : ixAt n (k : Nat) = some k := by
  unfold ixAt
  rw [if_pos (by omega), if_pos (by omega), Int.toNat_natCast]
theorem compN_rows {r : DL.Env} {i : Nat} (hi : i < r.length) : ∀ rows : List (List D), compLN (.one i) bYes (l1 lOf (vVar i)) r (rows.map .list) = ok rows
  | [] => rfl
  | x :: xs => by
    have e : (r.set i (.d (.list x)))[i]? = some (.d (.list x)) := List.getElem?_set_self hi
    rw [List.map_cons, compLN, put_one]
    dsimp only
    have h1 : l1 lOf (vVar i) (r.set i (.d (.list x))) = ok x := by
      rw [e_l1, e_vVar, e]
      rfl
    show rb (ok true) _ = _
    rw [rb_ok, if_pos rfl, h1, rb_ok, compN_rows hi xs]
    rfl
/-- a table of numbers -/
abbrev rowOf (n : Nat) (f : Nat → Nat) : List Nat := (List.range n).map f
abbrev grid (n : Nat) (f : Nat → Nat → Nat) : List (List D) := (List.range n).map fun a => ndl (rowOf n (f a))
theorem row_len {n : Nat} {f : Nat → Nat} : (ndl (rowOf n f)).length = n := by rw [List.length_map, List.length_map, List.length_range]
theorem row_get {n o : Nat} {f : Nat → Nat} (h : o < n) : (ndl (rowOf n f))[o]? = some (nd (f o)) := by
  rw [List.getElem?_map, List.getElem?_map, List.getElem?_range h]
  rfl
theorem map_set {α : Type} {n i : Nat} {x : α} {f : Nat → α} : ((List.range n).map f).set i x = (List.range n).map fun k => if k = i then x else f k := by
  apply List.ext_getElem?
  intro j
  rw [List.getElem?_set]
  by_cases hj : j < n
  · rw [List.getElem?_map, List.getElem?_map, List.getElem?_range hj, List.length_map, List.length_range]
    by_cases c : i = j
    · subst c
      rw [if_pos rfl, if_pos hj]
      simp
    · rw [if_neg c]
      simp [Ne.symm c]
  · have e1 : ((List.range n).map f)[j]? = none := List.getElem?_eq_none (by rw [List.length_map, List.length_range]; omega)
    have e2 : ((List.range n).map fun k => if k = i then x else f k)[j]? = none := List.getElem?_eq_none (by rw [List.length_map, List.length_range]; omega)
    rw [e1, e2, List.length_map, List.length_range]
    split
    · rw [if_neg (by omega)]
    · rfl
theorem row_set {n o v : Nat} {f : Nat → Nat} : (ndl (rowOf n f)).set o (nd v) = ndl (rowOf n fun k => if k = o then v else f k) := by
  unfold rowOf ndl
  rw [List.map_map, map_set, List.map_map]
  apply List.map_congr_left
  intro k _
  show (if k = o then nd v else nd (f k)) = nd (if k = o then v else f k)
  split <;> rfl
theorem grid_len {n : Nat} {f : Nat → Nat → Nat} : (grid n f).length = n := by rw [List.length_map, List.length_range]
theorem grid_get {n a : Nat} {f : Nat → Nat → Nat} (h : a < n) : (grid n f)[a]? = some (ndl (rowOf n (f a))) := by
  rw [List.getElem?_map, List.getElem?_range h]
  rfl
theorem grid_set {n a o v : Nat} {f : Nat → Nat → Nat} : (grid n f).set a ((ndl (rowOf n (f a))).set o (nd v)) = grid n fun b p => if b = a ∧ p = o then v else f b p := by
  rw [row_set]
  unfold grid
  rw [map_set]
  apply List.map_congr_left
  intro b _
  by_cases c : b = a
  · subst c
    rw [if_pos rfl]
    congr 1
    apply List.map_congr_left
    intro p _
    dsimp only
    by_cases d : p = o
    · subst d; rw [if_pos rfl, if_pos (And.intro rfl rfl)]
    · rw [if_neg d, if_neg fun z : _ ∧ _ => d z.2]
  · rw [if_neg c]
    congr 1
    apply List.map_congr_left
    intro p _
    dsimp only
    rw [if_neg fun z : _ ∧ _ => c z.1]
theorem grid_congr {n : Nat} {f g : Nat → Nat → Nat} (h : ∀ a o, a < n → o < n → f a o = g a o) : grid n f = grid n g := by
  apply List.map_congr_left
  intro a ha
  congr 1
  apply List.map_congr_left
  intro o ho
  exact h a o (List.mem_range.mp ha) (List.mem_range.mp ho)
theorem max_nd (i j : Nat) : dMax (nd i) (nd j) = some (nd (max i j)) := by
  rw [max_int]
  congr 1
  show PyData.int _ = .int _
  congr 1
  split <;> omega
theorem mx_snoc (xs : List Nat) (x : Nat) : mx (xs ++ [x]) = max (mx xs) x := by
  show List.foldl max 0 (xs ++ [x]) = _
  rw [List.foldl_append]
  rfl
section
variable {n : Nat} {R : List Rl}
/-- the greatest numbers within t turns -/
abbrev rkT (R : List Rl) (n t a o : Nat) : Nat := (rk R a n t).getD o 0
theorem rk_row {a t : Nat} : rk R a n t = rowOf n (rkT R n t a) := by
  apply List.ext_getElem?
  intro j
  by_cases hj : j < n
  · rw [get_nat (by rw [rk_len]; exact hj), List.getElem?_map, List.getElem?_range hj]
    rfl
  · rw [List.getElem?_eq_none (by rw [rk_len]; omega), List.getElem?_eq_none (by rw [List.length_map, List.length_range]; omega)]
/-- a turn of the law, behind j rules -/
def wkF (R : List Rl) (n t j a o : Nat) : Nat := max (rkT R n t a o) (mx (((R.take j).filter fun r => r.a == a && r.o == o).map fun r => rkT R n t a r.w + 1))
theorem wk_0 {t a o : Nat} : wkF R n t 0 a o = rkT R n t a o := by
  show max _ (mx []) = _
  show max _ 0 = _
  omega
theorem wk_step {t j a o : Nat} {r : Rl} (hr : R[j]? = some r) : wkF R n t (j + 1) a o = if a = r.a ∧ o = r.o then max (wkF R n t j r.a r.o) (rkT R n t r.a r.w + 1) else wkF R n t j a o := by
  have e : R.take (j + 1) = R.take j ++ [r] := by rw [List.take_succ, hr]; rfl
  unfold wkF
  rw [e, List.filter_append, List.map_append]
  by_cases c : a = r.a ∧ o = r.o
  · obtain ⟨rfl, rfl⟩ := c
    rw [if_pos ⟨rfl, rfl⟩, List.filter_cons, if_pos (by simp), List.filter_nil, List.map_cons, List.map_nil, mx_snoc]
    omega
  · have : (r.a == a && r.o == o) = false := by
      cases h : (r.a == a && r.o == o)
      · rfl
      · rw [Bool.and_eq_true, beq_iff_eq, beq_iff_eq] at h
        exact absurd ⟨h.1.symm, h.2.symm⟩ c
    rw [if_neg c, List.filter_cons, this, if_neg (by decide), List.filter_nil, List.map_nil, List.append_nil]
theorem wk_all (B : Bo n R) {t a o : Nat} (ho : o < n) : wkF R n t R.length a o = rkT R n (t + 1) a o := by
  unfold wkF
  rw [List.take_length]
  have h1 := rk_mono (a := a) B t o ho
  have h2 := rk_at (R := R) (a := a) (t := t) ho
  show max ((rk R a n t).getD o 0) _ = (rk R a n (t + 1)).getD o 0
  rw [h2] at h1 ⊢
  show max _ (mx ((R.filter fun r => r.a == a && r.o == o).map fun r => (rk R a n t).getD r.w 0 + 1)) = _
  omega
/-- the table as data -/
abbrev tabD (R : List Rl) (n t : Nat) : D := .list ((List.range n).map fun a => .list (ndl (rk R a n t)))
theorem tab_grid {t : Nat} : tabD R n t = .list ((grid n (rkT R n t)).map .list) := by
  unfold tabD grid
  rw [List.map_map]
  congr 1
  apply List.map_congr_left
  intro a _
  show PyData.list (ndl (rk R a n t)) = .list (ndl (rowOf n (rkT R n t a)))
  rw [← rk_row]
theorem tab_at {t a : Nat} (ha : a < n) : dIx (tabD R n t) (nd a) = some (.list (ndl (rk R a n t))) := by
  rw [ixl, List.getElem?_map, List.getElem?_range ha]
  rfl
theorem turn_loop (B : Bo n R) (t : Nat) (s2 s8 : Slot) : ∀ (m j : Nat) (s4 s5 s6 s7 : Slot), j + m = R.length →
    ∃ s4' s5' s6' s7' : Slot, loopF (.many [4, 5, 6, 7]) (sSetIx2 3 (vVar 4) (vVar 5) (v2 dMax (v2 dIx (vNestIx 3 (vVar 4)) (vVar 5)) (v2 dAdd (v2 dIx (v2 dIx (vVar 1) (vVar 4)) (vVar 6)) (vC (.int 1))))) ((R.drop j).map eR) [.d (eB n R), .d (tabD R n t), s2, .nest (grid n (wkF R n t j)), s4, s5, s6, s7, s8] = some (.nx [.d (eB n R), .d (tabD R n t), s2, .nest (grid n (wkF R n t R.length)), s4', s5', s6', s7', s8])
  | 0, j, s4, s5, s6, s7, hm => by
    rw [List.drop_eq_nil_of_le (by omega), show R.length = j by omega]
    exact ⟨s4, s5, s6, s7, rfl⟩
  | m + 1, j, s4, s5, s6, s7, hm => by
    have hj : j < R.length := by omega
    have hr := List.getElem?_eq_getElem hj
    have ok_ := B.at hr
    rw [List.drop_eq_getElem_cons hj]
    generalize R[j] = r at hr ok_ ⊢
    obtain ⟨s4', s5', s6', s7', h⟩ := turn_loop B t s2 s8 m (j + 1) (.d (nd r.a)) (.d (nd r.o)) (.d (nd r.w)) (.d (.tuple (ndl r.sg))) (by omega)
    refine ⟨s4', s5', s6', s7', ?_⟩
    have put : (Tg.many [4, 5, 6, 7]).put (eR r) [.d (eB n R), .d (tabD R n t), s2, .nest (grid n (wkF R n t j)), s4, s5, s6, s7, s8] = some [.d (eB n R), .d (tabD R n t), s2, .nest (grid n (wkF R n t j)), .d (nd r.a), .d (nd r.o), .d (nd r.w), .d (.tuple (ndl r.sg)), s8] := rfl
    have i1 : ixAt (grid n (wkF R n t j)).length (nd r.a |> fun d => match d with | .int i => i | _ => 0) = some r.a := by rw [grid_len]; exact ixAtK ok_.a
    have i1' : ixAt (grid n (wkF R n t j)).length ((r.a : Nat) : Int) = some r.a := i1
    have g1 := grid_get (f := wkF R n t j) ok_.a
    have i2 : ixAt (ndl (rowOf n (wkF R n t j r.a))).length ((r.o : Nat) : Int) = some r.o := by rw [row_len]; exact ixAtK ok_.o
    have x1 : dIx (.list (ndl (rowOf n (wkF R n t j r.a)))) (nd r.o) = some (nd (wkF R n t j r.a r.o)) := by rw [ixl, row_get ok_.o]
    have x2 := tab_at (R := R) (t := t) ok_.a
    have x3 : dIx (.list (ndl (rk R r.a n t))) (nd r.w) = some (nd (rkT R n t r.a r.w)) := by rw [ix_ndl, get_nat (by rw [rk_len]; exact ok_.w)]; rfl
    have x4 : dAdd (nd (rkT R n t r.a r.w)) (.int 1) = some (nd (rkT R n t r.a r.w + 1)) := rfl
    have gs := grid_set (n := n) (a := r.a) (o := r.o) (v := max (wkF R n t j r.a r.o) (rkT R n t r.a r.w + 1)) (f := wkF R n t j)
    have ge : (grid n fun b p => if b = r.a ∧ p = r.o then max (wkF R n t j r.a r.o) (rkT R n t r.a r.w + 1) else wkF R n t j b p) = grid n (wkF R n t (j + 1)) := grid_congr fun a o _ _ => (wk_step hr).symm
    rw [List.map_cons, loopF, put]
    dsimp only
    have hs : sSetIx2 3 (vVar 4) (vVar 5) (v2 dMax (v2 dIx (vNestIx 3 (vVar 4)) (vVar 5)) (v2 dAdd (v2 dIx (v2 dIx (vVar 1) (vVar 4)) (vVar 6)) (vC (.int 1)))) [.d (eB n R), .d (tabD R n t), s2, .nest (grid n (wkF R n t j)), .d (nd r.a), .d (nd r.o), .d (nd r.w), .d (.tuple (ndl r.sg)), s8] = some (.nx [.d (eB n R), .d (tabD R n t), s2, .nest (grid n (wkF R n t (j + 1))), .d (nd r.a), .d (nd r.o), .d (nd r.w), .d (.tuple (ndl r.sg)), s8]) := by
      rw [← ge, ← gs]
      simp only [e_sSetIx2, e_vNestIx, e_v2, e_vVar, e_vC, List.getElem?_cons_zero, List.getElem?_cons_succ, rb_ok, so_ok, i1', g1, i2, Option.map_some, po_some, x1, x2, x3, x4, max_nd, List.set_cons_succ, List.set_cons_zero]
    rw [hs]
    exact h
theorem dmaxL_t (y : Nat) (ys : List Nat) : dMaxL (.list (ndl (y :: ys))) = some (nd (mx (y :: ys))) := by
  unfold dMaxL
  dsimp only
  rw [numsOf_ndl]
  show some (PyData.int ((ys.map fun k : Nat => (k : Int)).foldl max (y : Int))) = _
  rw [nums_nat_max, mx_cons]
theorem dmaxL_ne {xs : List Nat} (h : xs ≠ []) : dMaxL (.list (ndl xs)) = some (nd (mx xs)) := by
  cases xs with
  | nil => exact absurd rfl h
  | cons y ys => exact dmaxL_t y ys
/-- the greatest of all -/
def gtop (R : List Rl) (n : Nat) : Nat := mx ((List.range n).map fun a => mx (rk R a n n))
theorem top_lt (B : Bo n R) : decide (gtop R n < n) = !ringIn R n := by
  have n1 := B.n1
  cases h : ringIn R n
  · have : gtop R n ≤ n - 1 := mx_le fun x hx => by
      obtain ⟨a, ha, rfl⟩ := List.mem_map.mp hx
      refine mx_le fun y hy => ?_
      have h1 := List.any_eq_false.mp h a ha
      have h2 : ringAt R n a = false := by simpa using h1
      have h3 := List.any_eq_false.mp h2 y hy
      obtain ⟨o, ho, rfl⟩ := List.mem_iff_getElem.mp hy
      have hon : o < n := by rw [rk_len] at ho; exact ho
      have h4 := rk_le (a := a) B n o hon
      rw [List.getD_eq_getElem?_getD, List.getElem?_eq_getElem ho] at h4
      have h5 : (rk R a n n)[o] ≠ n := fun e => h3 (by rw [e]; simp)
      have h6 : (rk R a n n)[o] ≤ n := h4
      omega
    simp only [Bool.not_false, decide_eq_true_eq]
    omega
  · have : n ≤ gtop R n := by
      obtain ⟨a, ha, h1⟩ := List.any_eq_true.mp h
      obtain ⟨y, hy, h2⟩ := List.any_eq_true.mp h1
      have e : y = n := by simpa using h2
      have h3 := le_mx hy
      have h4 : mx (rk R a n n) ≤ gtop R n := le_mx (List.mem_map.mpr ⟨a, ha, rfl⟩)
      omega
    simp only [Bool.not_true, decide_eq_false_iff_not]
    omega
theorem rk_ne (B : Bo n R) (a t : Nat) : rk R a n t ≠ [] := fun e => by
  have := rk_len R a n t
  rw [e] at this
  have := B.n1
  simp at *
  omega
theorem range_ne (B : Bo n R) {α : Type} (f : Nat → α) : (List.range n).map f ≠ [] := fun e => by
  have := congrArg List.length e
  rw [List.length_map, List.length_range] at this
  have := B.n1
  simp at *
  omega
theorem tops_t (B : Bo n R) {E : DL.Env} {it : EL} (hi : it E = ok ((List.range n).map fun a => .list (ndl (rk R a n n)))) (i : Nat) (he : i < E.length) : lComp it (.one i) bYes (v1 dMaxL (vVar i)) E = ok (ndl ((List.range n).map fun a => mx (rk R a n n))) := by
  have h := lcomp_map (it := it) (i := i) (e := v1 dMaxL (vVar i)) (r := E) (fun d => (dMaxL d).getD .none) hi (by rw [List.length_map, List.length_range]; have := B.n4; have := big; omega) (fun x hx => by
    obtain ⟨a, ha, rfl⟩ := List.mem_map.mp hx
    have e : ((E.set i .un).set i (.d (.list (ndl (rk R a n n)))))[i]? = some (.d (.list (ndl (rk R a n n)))) := List.getElem?_set_self (by rw [List.length_set]; exact he)
    rw [e_v1, e_vVar, e]
    dsimp only
    rw [rb_ok, dmaxL_ne (rk_ne B a n)]
    rfl)
  rw [h, List.map_map]
  unfold ndl
  rw [List.map_map]
  congr 1
  apply List.map_congr_left
  intro a _
  show (dMaxL (.list (ndl (rk R a n n)))).getD .none = nd _
  rw [dmaxL_ne (rk_ne B a n)]
  rfl
end
end K24
namespace K24
open PySem DL
section
variable {n : Nat} {R : List Rl}
/-- the first two parts of a rule against two states -/
theorem eq_two {a q b p : Nat} : cEq (.tuple [nd b, nd p]) (.tuple [nd a, nd q]) = some (b == a && p == q) := by
  have sh : ∀ b p : Nat, SeqAt.shaped (.tuple [nd b, nd p]) = true := fun b p => shaped_of (n := 1) rfl
  show eqS _ _ = _
  unfold eqS
  rw [if_pos (by rw [sh, sh]; rfl)]
  have e : ∀ i j : Nat, (((i : Nat) : Int) == ((j : Nat) : Int)) = (i == j) := fun i j => by
    rw [Bool.eq_iff_iff, beq_iff_eq, beq_iff_eq]
    omega
  show some ((((b : Nat) : Int) == ((a : Nat) : Int)) && ((((p : Nat) : Int) == ((q : Nat) : Int)) && true)) = _
  rw [e, e, Bool.and_true]
theorem cut2 {r : Rl} : dCut none (some 2) (eR r) = some (.tuple [nd r.a, nd r.o]) := rfl
theorem fitK_eq {a q k : Nat} {r : Rl} (h : R[k]? = some r) : fitK R a q k = (r.a == a && r.o == q) := by unfold fitK; rw [h]
/-- the state behind the least rule, and behind t of them; their numbers -/
def stp (R : List Rl) (a q : Nat) : Nat := match fitL R a q with
  | [] => q
  | k :: _ => (ruleOf R (nd k)).w
def en (R : List Rl) (a q : Nat) : Nat → Nat
  | 0 => q
  | t + 1 => stp R a (en R a q t)
def ls (R : List Rl) (a q : Nat) : Nat → List Nat
  | 0 => []
  | t + 1 => ls R a q t ++ (fitL R a (en R a q t)).take 1
theorem fit_head {a q k : Nat} {ks : List Nat} (h : fitL R a q = k :: ks) : ∃ r, R[k]? = some r ∧ r.a = a ∧ r.o = q := by
  have hm : k ∈ fitL R a q := by rw [h]; exact List.mem_cons_self
  have hk : fitK R a q k = true := (List.mem_filter.mp hm).2
  obtain ⟨r, h1, _, h2, h3⟩ := fitK_lt hk
  exact ⟨r, h1, h2, h3⟩
theorem stp_nil {a q : Nat} (h : fitL R a q = []) : stp R a q = q := by unfold stp; rw [h]
theorem stp_cons {a q k : Nat} {ks : List Nat} {r : Rl} (h : fitL R a q = k :: ks) (hr : R[k]? = some r) : stp R a q = r.w := by unfold stp; rw [h]; show (ruleOf R (nd k)).w = r.w; rw [ruleOf_nd hr]
theorem stp_lt (B : Bo n R) {a q : Nat} (hq : q < n) : stp R a q < n := by
  cases h : fitL R a q with
  | nil => rw [stp_nil h]; exact hq
  | cons k ks =>
    obtain ⟨r, hr, _⟩ := fit_head h
    rw [stp_cons h hr]
    exact (B.at hr).w
theorem en_lt (B : Bo n R) {a q : Nat} (hq : q < n) : ∀ t, en R a q t < n
  | 0 => hq
  | t + 1 => stp_lt B (en_lt B hq t)
theorem ls_len {a q : Nat} : ∀ t, (ls R a q t).length ≤ t
  | 0 => Nat.le_refl _
  | t + 1 => by
    rw [ls, List.length_append, List.length_take]
    have := ls_len (a := a) (q := q) t
    omega
/-- at rest nothing more comes -/
theorem ls_rest {a q t : Nat} (h : fitL R a (en R a q t) = []) : ∀ m, en R a q (t + m) = en R a q t ∧ ls R a q (t + m) = ls R a q t
  | 0 => ⟨rfl, rfl⟩
  | m + 1 => by
    obtain ⟨h1, h2⟩ := ls_rest h m
    show stp R a (en R a q (t + m)) = _ ∧ ls R a q (t + m) ++ (fitL R a (en R a q (t + m))).take 1 = _
    rw [h1, h2, h, stp_nil h]
    exact ⟨rfl, List.append_nil _⟩
abbrev wEnv (n : Nat) (R : List Rl) (a q j : Nat) : DL.Env := [.d (eB n R), .d (nd a), .d (nd q), .own (ndl (ls R a q j)), .d (.list (ndl (fitL R a (en R a q j))))]
theorem way_while (B : Bo n R) (h : ringIn R n = false) {a q : Nat} (hq : q < n) : ∀ (m j N : Nat), (rk R a n n).getD (en R a q j) 0 ≤ m → m < N → j + m ≤ 1000 →
    ∃ J, loopW (c2 cNe (vVar 4) (vL (vArgs []))) (sSeq (sApp 3 (v2 dIx (vVar 4) (vC (.int 0)))) (sSet 4 (vCall f_fitting_rules [(vVar 0), (vVar 1), (v2 dIx (v2 dIx (v2 dIx (vVar 0) (vC (.int 1))) (v2 dIx (vVar 4) (vC (.int 0)))) (vC (.int 2)))]))) N (wEnv n R a q j) = some (.nx (wEnv n R a q J)) ∧ fitL R a (en R a q J) = [] ∧ J ≤ j + m := by
  intro m
  induction m with
  | zero =>
    intro j N hm hN hj
    obtain ⟨N, rfl⟩ : ∃ k, N = k + 1 := ⟨N - 1, by omega⟩
    have hf : fitL R a (en R a q j) = [] := by
      cases hc : fitL R a (en R a q j) with
      | nil => rfl
      | cons k ks =>
        obtain ⟨r, hr, ha, ho⟩ := fit_head hc
        have := falls B h (List.mem_of_getElem? hr)
        rw [ha, ho] at this
        omega
    have q1 := ne_nil (ndl (fitL R a (en R a q j)))
    have q2 : cNe (.list (ndl (fitL R a (en R a q j)))) (.list []) = some false := by rw [q1, hf]; rfl
    refine ⟨j, ?_, hf, by omega⟩
    rw [loopW]
    simp only [e_vVar, e_vRd, e_vC, e_v1, e_v2, e_c1, e_c2, e_l1, e_l2, e_vL, e_vB, e_vArgs0, e_vArgs, e_vTup, e_vCall, e_vIf, e_bTr, e_bNot, e_bAnd, e_bOr, e_bChain, e_iSeq, e_iRange1, e_iRange2, e_vCut, e_vOpt0, e_vOpt, e_sNx, e_sBk, e_sCt, e_sSeq, e_sSet, e_sOwn, e_sPut, e_sFreeze, e_sRet, e_sExpr, e_sIf, e_sApp, e_sPar, e_sFor, runD, slots, so_ok, rb_ok, rb_none, so_none, po_some, List.getElem?_cons_zero, List.getElem?_cons_succ, List.set_cons_zero, List.set_cons_succ, List.map_cons, List.map_nil, List.replicate, List.append_nil, List.cons_append, List.nil_append, rb_er, so_er, e_sErr, e_sTry, e_iEnumE, e_sSetIx, Bool.not_true, Bool.not_false, Bool.false_eq_true, Bool.true_and, Bool.false_and, Bool.and_true, Bool.and_false, Bool.true_or, Bool.false_or, Bool.or_true, Bool.or_false, if_true, if_false, Option.map_some, tr_bool, int_int, add_int, sub_int, q2]
  | succ m ih =>
    intro j N hm hN hj
    obtain ⟨N, rfl⟩ : ∃ k, N = k + 1 := ⟨N - 1, by omega⟩
    have q1 := ne_nil (ndl (fitL R a (en R a q j)))
    cases hc : fitL R a (en R a q j) with
    | nil =>
      have q2 : cNe (.list (ndl (fitL R a (en R a q j)))) (.list []) = some false := by rw [q1, hc]; rfl
      refine ⟨j, ?_, hc, by omega⟩
      rw [loopW]
      simp only [e_vVar, e_vRd, e_vC, e_v1, e_v2, e_c1, e_c2, e_l1, e_l2, e_vL, e_vB, e_vArgs0, e_vArgs, e_vTup, e_vCall, e_vIf, e_bTr, e_bNot, e_bAnd, e_bOr, e_bChain, e_iSeq, e_iRange1, e_iRange2, e_vCut, e_vOpt0, e_vOpt, e_sNx, e_sBk, e_sCt, e_sSeq, e_sSet, e_sOwn, e_sPut, e_sFreeze, e_sRet, e_sExpr, e_sIf, e_sApp, e_sPar, e_sFor, runD, slots, so_ok, rb_ok, rb_none, so_none, po_some, List.getElem?_cons_zero, List.getElem?_cons_succ, List.set_cons_zero, List.set_cons_succ, List.map_cons, List.map_nil, List.replicate, List.append_nil, List.cons_append, List.nil_append, rb_er, so_er, e_sErr, e_sTry, e_iEnumE, e_sSetIx, Bool.not_true, Bool.not_false, Bool.false_eq_true, Bool.true_and, Bool.false_and, Bool.and_true, Bool.and_false, Bool.true_or, Bool.false_or, Bool.or_true, Bool.or_false, if_true, if_false, Option.map_some, tr_bool, int_int, add_int, sub_int, q2]
    | cons k ks =>
      obtain ⟨r, hr, ha, ho⟩ := fit_head hc
      have hfl := falls B h (List.mem_of_getElem? hr)
      rw [ha, ho] at hfl
      have he : en R a q (j + 1) = r.w := stp_cons hc hr
      obtain ⟨J, h1, h2, h3⟩ := ih (j + 1) N (by rw [he]; omega) (by omega) (by omega)
      refine ⟨J, ?_, h2, by omega⟩
      rw [← h1, loopW]
      have hf2 := fitting_t B a r.w
      have i0 : dIx (.list (ndl (fitL R a (en R a q j)))) (.int 0) = some (nd k) := by rw [hc]; exact ixl (ndl (k :: ks)) 0
      have lt : (ndl (ls R a q j)).length < lim := by rw [List.length_map]; have := ls_len (R := R) (a := a) (q := q) j; have := big; omega
      have el : ls R a q (j + 1) = ls R a q j ++ [k] := by rw [ls, hc]; rfl
      have q2 : cNe (.list (ndl (fitL R a (en R a q j)))) (.list []) = some true := by rw [q1, hc]; rfl
      unfold wEnv
      rw [el, he, ndl_snoc]
      simp only [e_vVar, e_vRd, e_vC, e_v1, e_v2, e_c1, e_c2, e_l1, e_l2, e_vL, e_vB, e_vArgs0, e_vArgs, e_vTup, e_vCall, e_vIf, e_bTr, e_bNot, e_bAnd, e_bOr, e_bChain, e_iSeq, e_iRange1, e_iRange2, e_vCut, e_vOpt0, e_vOpt, e_sNx, e_sBk, e_sCt, e_sSeq, e_sSet, e_sOwn, e_sPut, e_sFreeze, e_sRet, e_sExpr, e_sIf, e_sApp, e_sPar, e_sFor, runD, slots, so_ok, rb_ok, rb_none, so_none, po_some, List.getElem?_cons_zero, List.getElem?_cons_succ, List.set_cons_zero, List.set_cons_succ, List.map_cons, List.map_nil, List.replicate, List.append_nil, List.cons_append, List.nil_append, rb_er, so_er, e_sErr, e_sTry, e_iEnumE, e_sSetIx, Bool.not_true, Bool.not_false, Bool.false_eq_true, Bool.true_and, Bool.false_and, Bool.and_true, Bool.and_false, Bool.true_or, Bool.false_or, Bool.or_true, Bool.or_false, if_true, if_false, Option.map_some, tr_bool, int_int, add_int, sub_int, q2, i0, lt, x1b, xrule hr, x2r, hf2]
theorem rk_lt (B : Bo n R) (h : ringIn R n = false) {a q : Nat} (ha : a < n) (hq : q < n) : (rk R a n n).getD q 0 < n := by
  have h1 := List.any_eq_false.mp h a (List.mem_range.mpr ha)
  have h2 : ringAt R n a = false := by simpa using h1
  have h3 := List.any_eq_false.mp h2 _ (getD_mem (qs := rk R a n n) (j := q) (by rw [rk_len]; exact hq))
  have h4 := rk_le (a := a) B n q hq
  have h5 : (rk R a n n).getD q 0 ≠ n := fun e => h3 (by rw [e]; simp)
  omega
theorem lt_fuel {m : Nat} (h : m < 1000) : m < fuel := by show m < 1000000000; omega
theorem least_t (B : Bo n R) (h : ringIn R n = false) {a q : Nat} (ha : a < n) (hq : q < n) : f_way_by_least_numbers [eB n R, nd a, nd q] = ok (.list (ndl (ls R a q n))) := by
  have hn4 := B.n4
  have hr := rk_lt B h ha hq
  obtain ⟨J, h1, h2, h3⟩ := way_while B h (a := a) hq ((rk R a n n).getD q 0) 0 fuel (Nat.le_refl _) (lt_fuel (by omega)) (by omega)
  have hf := fitting_t B a q
  have e : ls R a q n = ls R a q J := by
    obtain ⟨m, rfl⟩ : ∃ m, n = J + m := ⟨n - J, by omega⟩
    exact (ls_rest h2 m).2
  suffices hb : b_way_by_least_numbers (slots 5 [eB n R, nd a, nd q]) = some (.rt (.list (ndl (ls R a q n)))) by
    simp only [f_way_by_least_numbers, runD, hb, List.length_cons, List.length_nil, if_true]
  have e1 : slots 5 [eB n R, nd a, nd q] = [.d (eB n R), .d (nd a), .d (nd q), .un, .un] := rfl
  have hw : ∀ (c : EB) (b : SX) (f : Nat) (r : DL.Env), sWhile f c b r = loopW c b f r := fun _ _ _ _ => rfl
  have e0 : wEnv n R a q 0 = [.d (eB n R), .d (nd a), .d (nd q), .own [], .d (.list (ndl (fitL R a q)))] := rfl
  rw [e0] at h1
  rw [b_way_by_least_numbers, e1, e]
  generalize fuel = F at h1 ⊢
  simp only [e_vVar, e_vRd, e_vC, e_v1, e_v2, e_c1, e_c2, e_l1, e_l2, e_vL, e_vB, e_vArgs0, e_vArgs, e_vTup, e_vCall, e_vIf, e_bTr, e_bNot, e_bAnd, e_bOr, e_bChain, e_iSeq, e_iRange1, e_iRange2, e_vCut, e_vOpt0, e_vOpt, e_sNx, e_sBk, e_sCt, e_sSeq, e_sSet, e_sOwn, e_sPut, e_sFreeze, e_sRet, e_sExpr, e_sIf, e_sApp, e_sPar, e_sFor, runD, slots, so_ok, rb_ok, rb_none, so_none, po_some, List.getElem?_cons_zero, List.getElem?_cons_succ, List.set_cons_zero, List.set_cons_succ, List.map_cons, List.map_nil, List.length_cons, List.length_nil, List.replicate, List.append_nil, List.cons_append, List.nil_append, rb_er, so_er, e_sErr, e_sTry, e_iEnumE, e_sSetIx, Bool.not_true, Bool.not_false, Bool.false_eq_true, Bool.true_and, Bool.false_and, Bool.and_true, Bool.and_false, Bool.true_or, Bool.false_or, Bool.or_true, Bool.or_false, if_true, if_false, Option.map_some, tr_bool, int_int, add_int, sub_int, hf, hw, h1, frz]
theorem first_t (B : Bo n R) {a q : Nat} (ha : a < n) (hq : q < n) : f_first_way [eB n R, nd a, nd q] = if ringIn R n = true then er ⟨"NoEnd", none⟩ else ok (.list (ndl (ls R a q n))) := by
  have h1 := check_states_t B ha hq
  have h2 := check_ends_t B
  cases h : ringIn R n
  · rw [h] at h2
    have h3 := least_t B h ha hq
    have h2' : f_check_ends [eB n R] = ok .none := h2
    simp only [f_first_way, b_first_way, e_vVar, e_vRd, e_vC, e_v1, e_v2, e_c1, e_c2, e_l1, e_l2, e_vL, e_vB, e_vArgs0, e_vArgs, e_vTup, e_vCall, e_vIf, e_bTr, e_bNot, e_bAnd, e_bOr, e_bChain, e_iSeq, e_iRange1, e_iRange2, e_vCut, e_vOpt0, e_vOpt, e_sNx, e_sBk, e_sCt, e_sSeq, e_sSet, e_sOwn, e_sPut, e_sFreeze, e_sRet, e_sExpr, e_sIf, e_sApp, e_sPar, e_sFor, runD, slots, so_ok, rb_ok, rb_none, so_none, po_some, List.getElem?_cons_zero, List.getElem?_cons_succ, List.set_cons_zero, List.set_cons_succ, List.map_cons, List.map_nil, List.length_cons, List.length_nil, List.replicate, List.append_nil, List.cons_append, List.nil_append, rb_er, so_er, e_sErr, e_sTry, e_iEnumE, e_sSetIx, Bool.not_true, Bool.not_false, Bool.false_eq_true, Bool.true_and, Bool.false_and, Bool.and_true, Bool.and_false, Bool.true_or, Bool.false_or, Bool.or_true, Bool.or_false, if_true, if_false, Option.map_some, tr_bool, int_int, add_int, sub_int, h1, h2', h3]
  · rw [h] at h2
    have h2' : f_check_ends [eB n R] = er ⟨"NoEnd", none⟩ := h2
    simp only [f_first_way, b_first_way, e_vVar, e_vRd, e_vC, e_v1, e_v2, e_c1, e_c2, e_l1, e_l2, e_vL, e_vB, e_vArgs0, e_vArgs, e_vTup, e_vCall, e_vIf, e_bTr, e_bNot, e_bAnd, e_bOr, e_bChain, e_iSeq, e_iRange1, e_iRange2, e_vCut, e_vOpt0, e_vOpt, e_sNx, e_sBk, e_sCt, e_sSeq, e_sSet, e_sOwn, e_sPut, e_sFreeze, e_sRet, e_sExpr, e_sIf, e_sApp, e_sPar, e_sFor, runD, slots, so_ok, rb_ok, rb_none, so_none, po_some, List.getElem?_cons_zero, List.getElem?_cons_succ, List.set_cons_zero, List.set_cons_succ, List.map_cons, List.map_nil, List.length_cons, List.length_nil, List.replicate, List.append_nil, List.cons_append, List.nil_append, rb_er, so_er, e_sErr, e_sTry, e_iEnumE, e_sSetIx, Bool.not_true, Bool.not_false, Bool.false_eq_true, Bool.true_and, Bool.false_and, Bool.and_true, Bool.and_false, Bool.true_or, Bool.false_or, Bool.or_true, Bool.or_false, if_true, if_false, Option.map_some, tr_bool, int_int, add_int, sub_int, h1, h2']
end
end K24
namespace K24
open PySem DL
section
variable {n o : Nat} {R : List Rl}
/-! ### rules of one direction have no ring -/
theorem rk_pot {a : Nat} (B : Bo n R) (φ : Nat → Nat) (h : ∀ r ∈ R, r.a = a → φ r.w + 1 ≤ φ r.o) : ∀ (t q : Nat), q < n → (rk R a n t).getD q 0 ≤ φ q
  | 0, q, _ => by rw [rk_0]; exact Nat.zero_le _
  | t + 1, q, hq => by
    rw [rk_at hq]
    refine mx_le fun x hx => ?_
    obtain ⟨r, hr, rfl⟩ := List.mem_map.mp hx
    obtain ⟨m1, m2, m3⟩ := mem_fit.mp hr
    have := rk_pot B φ h t r.w (B.ok r m1).w
    have := h r m1 m2
    rw [m3] at this
    omega
theorem no_ring (B : Bo n R) (up : Nat → Bool) (h : ∀ r ∈ R, if up r.a = true then r.o < r.w else r.w < r.o) : ringIn R n = false := by
  unfold ringIn
  rw [List.any_eq_false]
  intro a ha hr
  unfold ringAt at hr
  obtain ⟨y, hy, e⟩ := List.any_eq_true.mp hr
  rw [beq_iff_eq] at e
  subst e
  obtain ⟨j, hj, ej⟩ := List.mem_iff_getElem.mp hy
  have hjn : j < y := by rw [rk_len] at hj; exact hj
  have hp : (rk R a y y).getD j 0 ≤ if up a = true then y - 1 - j else j := by
    refine rk_pot B (fun q => if up a = true then y - 1 - q else q) (fun r hr ea => ?_) y j hjn
    have hd := h r hr
    have h1 := (B.ok r hr).w
    have h2 := (B.ok r hr).o
    subst ea
    by_cases c : up r.a = true
    · rw [if_pos c] at hd
      rw [if_pos c, if_pos c]
      omega
    · rw [if_neg c] at hd
      rw [if_neg c, if_neg c]
      omega
  rw [List.getD_eq_getElem?_getD, List.getElem?_eq_getElem hj, ej] at hp
  have hp2 : y ≤ if up a = true then y - 1 - j else j := hp
  split at hp2 <;> omega
end
/-! The law's book: rules of one direction under each parent state. -/
def dirD (kind : Int) : D → Bool
  | .tuple [.int a, .int o, .int w, _] => if kind = 1 ∨ 1 < a then decide (o < w) else decide (w < o)
  | _ => false
theorem rule_preD (x n kind : Int) (h2 : 2 ≤ n) (h4 : n ≤ 4) : ∃ a o w : Int, (0 ≤ a ∧ a ≤ n - 1) ∧ (0 ≤ o ∧ o ≤ n - 1) ∧ (0 ≤ w ∧ w ≤ n - 1) ∧ (kind = 1 ∨ kind = 2 ∧ 1 < a → o < w) ∧ (kind = 2 ∧ ¬ 1 < a → w < o) ∧ o ≠ w ∧ ∀ q : SX, (sSeq (sSet 3 (v2 dMod (v1 dInt (vVar 0)) (vVar 1))) (sSeq (sSet 4 (v2 dMod (v1 dInt (v2 dDiv (vVar 0) (vVar 1))) (vVar 1))) (sSeq (sSet 5 (v2 dMod (v1 dInt (v2 dAdd (v2 dAdd (vVar 4) (vC (.int 1))) (v2 dMod (v1 dInt (v2 dDiv (vVar 0) (v2 dMul (vVar 1) (vVar 1)))) (v2 dSub (vVar 1) (vC (.int 1)))))) (vVar 1))) (sSeq (sIf (bOr (c2 cEq (vVar 2) (vC (.int 1))) (bAnd (c2 cEq (vVar 2) (vC (.int 2))) (c2 cGt (vVar 3) (vC (.int 1))))) (sPar 4 5 (v2 dMin (vVar 4) (vVar 5)) (v2 dMax (vVar 4) (vVar 5))) (sIf (c2 cEq (vVar 2) (vC (.int 2))) (sPar 4 5 (v2 dMax (vVar 4) (vVar 5)) (v2 dMin (vVar 4) (vVar 5))) sNx)) q)))) (slots 9 [.int x, .int n, .int kind]) =
    q [.d (.int x), .d (.int n), .d (.int kind), .d (.int a), .d (.int o), .d (.int w), .un, .un, .un] := by
  have hn0 : 0 < n := by omega
  have hb : n < 1073741824 := by omega
  have hn1 : 0 < n - 1 := by omega
  have hn1' : 1 < n := by omega
  have hnn : small64 n = true := small_of n (by omega) (by omega)
  have hsq : 0 < n * n ∧ n * n < 1073741824 := by
    have : n = 2 ∨ n = 3 ∨ n = 4 := by omega
    rcases this with e | e | e <;> subst e <;> decide
  obtain ⟨o, ho⟩ : ∃ o, o = x / n % n := ⟨_, rfl⟩
  obtain ⟨z, hz⟩ : ∃ z, z = x / (n * n) % (n - 1) := ⟨_, rfl⟩
  obtain ⟨w, hw⟩ : ∃ w, w = (o + 1 + z) % n := ⟨_, rfl⟩
  obtain ⟨a, ha⟩ : ∃ a, a = x % n := ⟨_, rfl⟩
  have a1 := Int.emod_nonneg x (Int.ne_of_gt hn0)
  have a2 := Int.emod_lt_of_pos x hn0
  have o1 := Int.emod_nonneg (x / n) (Int.ne_of_gt hn0)
  have o2 := Int.emod_lt_of_pos (x / n) hn0
  have z1 := Int.emod_nonneg (x / (n * n)) (Int.ne_of_gt hn1)
  have z2 := Int.emod_lt_of_pos (x / (n * n)) hn1
  have w1 := Int.emod_nonneg (o + 1 + z) (Int.ne_of_gt hn0)
  have w2 := Int.emod_lt_of_pos (o + 1 + z) hn0
  rw [← ha] at a1 a2
  rw [← ho] at o1 o2
  rw [← hz] at z1 z2
  rw [← hw] at w1 w2
  have ne : o ≠ w := by
    have : n = 2 ∨ n = 3 ∨ n = 4 := by omega
    rcases this with e | e | e <;> subst e <;> omega
  have go : ∀ q : SX, (sSeq (sSet 3 (v2 dMod (v1 dInt (vVar 0)) (vVar 1))) (sSeq (sSet 4 (v2 dMod (v1 dInt (v2 dDiv (vVar 0) (vVar 1))) (vVar 1))) (sSeq (sSet 5 (v2 dMod (v1 dInt (v2 dAdd (v2 dAdd (vVar 4) (vC (.int 1))) (v2 dMod (v1 dInt (v2 dDiv (vVar 0) (v2 dMul (vVar 1) (vVar 1)))) (v2 dSub (vVar 1) (vC (.int 1)))))) (vVar 1))) (sSeq (sIf (bOr (c2 cEq (vVar 2) (vC (.int 1))) (bAnd (c2 cEq (vVar 2) (vC (.int 2))) (c2 cGt (vVar 3) (vC (.int 1))))) (sPar 4 5 (v2 dMin (vVar 4) (vVar 5)) (v2 dMax (vVar 4) (vVar 5))) (sIf (c2 cEq (vVar 2) (vC (.int 2))) (sPar 4 5 (v2 dMax (vVar 4) (vVar 5)) (v2 dMin (vVar 4) (vVar 5))) sNx)) q)))) (slots 9 [.int x, .int n, .int kind]) =
      (if kind = 1 ∨ (kind = 2 ∧ 1 < a) then q [.d (.int x), .d (.int n), .d (.int kind), .d (.int a), .d (.int (if w < o then w else o)), .d (.int (if w > o then w else o)), .un, .un, .un] else
        if kind = 2 then q [.d (.int x), .d (.int n), .d (.int kind), .d (.int a), .d (.int (if w > o then w else o)), .d (.int (if w < o then w else o)), .un, .un, .un] else q [.d (.int x), .d (.int n), .d (.int kind), .d (.int a), .d (.int o), .d (.int w), .un, .un, .un]) := by
    intro q
    by_cases k1 : kind = 1
    · simp [e_vVar, e_vRd, e_vC, e_v1, e_v2, e_c1, e_c2, e_l1, e_l2, e_vL, e_vB, e_vArgs0, e_vArgs, e_vTup, e_vCall, e_vIf, e_bTr, e_bNot, e_bAnd, e_bOr, e_bChain, e_iSeq, e_iRange1, e_iRange2, e_vCut, e_vOpt0, e_vOpt, e_sNx, e_sBk, e_sCt, e_sSeq, e_sSet, e_sOwn, e_sPut, e_sFreeze, e_sRet, e_sExpr, e_sIf, e_sApp, e_sPar, e_sFor, runD, slots, so_ok, rb_ok, rb_none, so_none, po_some, List.getElem?_cons_zero, List.getElem?_cons_succ, List.set_cons_zero, List.set_cons_succ, List.map_cons, List.map_nil, List.length_cons, List.length_nil, List.replicate, List.append_nil, List.cons_append, List.nil_append, rb_er, so_er, e_sErr, e_sTry, e_iEnumE, e_sSetIx, mod_int, int_int, mulL, add_int, sub_int, div_int, gt_int, eq_int, min_int, max_int, hn0, hb, hn1, hn1', hnn, hsq, ← ho, ← hz, ← hw, ← ha, k1]
    · by_cases k2 : kind = 2
      · by_cases k3 : 1 < a <;>
        simp [e_vVar, e_vRd, e_vC, e_v1, e_v2, e_c1, e_c2, e_l1, e_l2, e_vL, e_vB, e_vArgs0, e_vArgs, e_vTup, e_vCall, e_vIf, e_bTr, e_bNot, e_bAnd, e_bOr, e_bChain, e_iSeq, e_iRange1, e_iRange2, e_vCut, e_vOpt0, e_vOpt, e_sNx, e_sBk, e_sCt, e_sSeq, e_sSet, e_sOwn, e_sPut, e_sFreeze, e_sRet, e_sExpr, e_sIf, e_sApp, e_sPar, e_sFor, runD, slots, so_ok, rb_ok, rb_none, so_none, po_some, List.getElem?_cons_zero, List.getElem?_cons_succ, List.set_cons_zero, List.set_cons_succ, List.map_cons, List.map_nil, List.length_cons, List.length_nil, List.replicate, List.append_nil, List.cons_append, List.nil_append, rb_er, so_er, e_sErr, e_sTry, e_iEnumE, e_sSetIx, mod_int, int_int, mulL, add_int, sub_int, div_int, gt_int, eq_int, min_int, max_int, hn0, hb, hn1, hn1', hnn, hsq, ← ho, ← hz, ← hw, ← ha, k1, k2, k3]
      · simp [e_vVar, e_vRd, e_vC, e_v1, e_v2, e_c1, e_c2, e_l1, e_l2, e_vL, e_vB, e_vArgs0, e_vArgs, e_vTup, e_vCall, e_vIf, e_bTr, e_bNot, e_bAnd, e_bOr, e_bChain, e_iSeq, e_iRange1, e_iRange2, e_vCut, e_vOpt0, e_vOpt, e_sNx, e_sBk, e_sCt, e_sSeq, e_sSet, e_sOwn, e_sPut, e_sFreeze, e_sRet, e_sExpr, e_sIf, e_sApp, e_sPar, e_sFor, runD, slots, so_ok, rb_ok, rb_none, so_none, po_some, List.getElem?_cons_zero, List.getElem?_cons_succ, List.set_cons_zero, List.set_cons_succ, List.map_cons, List.map_nil, List.length_cons, List.length_nil, List.replicate, List.append_nil, List.cons_append, List.nil_append, rb_er, so_er, e_sErr, e_sTry, e_iEnumE, e_sSetIx, mod_int, int_int, mulL, add_int, sub_int, div_int, gt_int, eq_int, min_int, max_int, hn0, hb, hn1, hn1', hnn, hsq, ← ho, ← hz, ← hw, ← ha, k1, k2]
  by_cases c1 : kind = 1 ∨ (kind = 2 ∧ 1 < a)
  · refine ⟨a, if w < o then w else o, if w > o then w else o, by omega, by split <;> omega, by split <;> omega, fun _ => by split <;> split <;> omega, fun z => by omega, by split <;> split <;> omega, fun q => ?_⟩
    rw [go, if_pos c1]
  · by_cases c2 : kind = 2
    · refine ⟨a, if w > o then w else o, if w < o then w else o, by omega, by split <;> omega, by split <;> omega, fun z => absurd z c1, fun _ => by split <;> split <;> omega, by split <;> split <;> omega, fun q => ?_⟩
      rw [go, if_neg c1, if_pos c2]
    · refine ⟨a, o, w, by omega, by omega, by omega, fun z => absurd z c1, fun z => absurd z.1 c2, ne, fun q => ?_⟩
      rw [go, if_neg c1, if_neg c2]
theorem rule_D (x n kind : Int) (hk : kind = 1 ∨ kind = 2) (h2 : 2 ≤ n) (h4 : n ≤ 4) : ∃ d, f_law_rule [.int x, .int n, .int kind] = ok d ∧ isRule n d = true ∧ dirD kind d = true := by
  obtain ⟨a, o, w, ha, ho, hw, up, dn, ne, pre⟩ := rule_preD x n kind h2 h4
  obtain ⟨m, rfl⟩ : ∃ m : Nat, n = m := ⟨n.toNat, by omega⟩
  suffices h : ∃ s : List D, s.length = m ∧ s.all (isNum 0 ((m : Nat) - 1)) = true ∧ b_law_rule (slots 9 [.int x, .int (m : Nat), .int kind]) = some (.rt (.tuple [.int a, .int o, .int w, .tuple s])) by
    obtain ⟨s, s1, s2, s3⟩ := h
    refine ⟨.tuple [.int a, .int o, .int w, .tuple s], ?_, ?_, ?_⟩
    · simp only [f_law_rule, runD, s3, List.length_cons, List.length_nil, if_true]
    · have e : PyData.eqv (.int o) (.int w) = false := by simpa [PyData.eqv] using ne
      simp [isRule, num_is ha.1 ha.2, num_is ho.1 ho.2, num_is hw.1 hw.2, e, s1, s2]
    · show (if kind = 1 ∨ 1 < a then decide (o < w) else decide (w < o)) = true
      by_cases c : kind = 1 ∨ 1 < a
      · have := up (by omega)
        rw [if_pos c]
        exact decide_eq_true this
      · have := dn (by omega)
        rw [if_neg c]
        exact decide_eq_true this
  rw [b_law_rule, pre]
  have hr : rng1 (.int (m : Nat)) = some (rng 0 m) := rng1_nat (by have : lim = 16777216 := rfl; omega)
  have hr2 : lRange1 (.int (m : Nat)) = some (rng 0 m) := lrng1_nat (by have : lim = 16777216 := rfl; omega)
  have hn0 : 0 < (m : Int) := by omega
  have hb : (m : Int) < 1073741824 := by omega
  have hnn : small64 (m : Int) = true := small_of m (by omega) (by omega)
  have hsq : 0 < (m : Int) * m * (m - 1) ∧ (m : Int) * m * (m - 1) < 1073741824 ∧ small64 ((m : Int) * m) = true := by
    have : m = 2 ∨ m = 3 ∨ m = 4 := by omega
    rcases this with e | e | e <;> subst e <;> decide
  simp only [e_vVar, e_vRd, e_vC, e_v1, e_v2, e_c1, e_c2, e_l1, e_l2, e_vL, e_vB, e_vArgs0, e_vArgs, e_vTup, e_vCall, e_vIf, e_bTr, e_bNot, e_bAnd, e_bOr, e_bChain, e_iSeq, e_iRange1, e_iRange2, e_vCut, e_vOpt0, e_vOpt, e_sNx, e_sBk, e_sCt, e_sSeq, e_sSet, e_sOwn, e_sPut, e_sFreeze, e_sRet, e_sExpr, e_sIf, e_sApp, e_sPar, e_sFor, runD, slots, so_ok, rb_ok, rb_none, so_none, po_some, List.getElem?_cons_zero, List.getElem?_cons_succ, List.set_cons_zero, List.set_cons_succ, List.map_cons, List.map_nil, List.length_cons, List.length_nil, List.replicate, List.append_nil, List.cons_append, List.nil_append, rb_er, so_er, e_sErr, e_sTry, e_iEnumE, e_sSetIx, hr, sub_int, mulL, hnn, hsq, div_int]
  generalize hL : loopF _ _ _ _ = L
  obtain ⟨r', rfl, sg, rest, s8, rfl, hl, hs⟩ := loop_out hL (fun k r => ∃ (sg : List D) (rest : Int) (s8 : Slot), r = [.d (.int x), .d (.int (m : Nat)), .d (.int kind), .d (.int a), .d (.int o), .d (.int w), .d (.int rest), .own sg, s8] ∧ sg.length = k ∧ sg.all (isNum 0 ((m : Nat) - 1)) = true)
    ⟨[], _, .un, rfl, rfl, rfl⟩ (by
    rintro k y r hx ⟨sg, rest, s8, rfl, hl, hs⟩
    have hk : k < m := by have := (List.getElem?_eq_some_iff.mp hx).1; rw [rng_size] at this; exact this
    rw [rng_at 0 m k hk] at hx
    cases hx
    have hn : sg.length < lim := by have : lim = 16777216 := rfl; omega
    have b1 := Int.emod_nonneg rest (Int.ne_of_gt hn0)
    have b2 := Int.emod_lt_of_pos rest hn0
    refine ⟨_, [.d (.int x), .d (.int (m : Nat)), .d (.int kind), .d (.int a), .d (.int o), .d (.int w), .d (.int (rest / m)), .own (sg ++ [.int (rest % m)]), .d (.int (0 + (k : Int)))], rfl, ?_, _, _, _, rfl, by simp [hl], ?_⟩
    · simp [e_vVar, e_vRd, e_vC, e_v1, e_v2, e_c1, e_c2, e_l1, e_l2, e_vL, e_vB, e_vArgs0, e_vArgs, e_vTup, e_vCall, e_vIf, e_bTr, e_bNot, e_bAnd, e_bOr, e_bChain, e_iSeq, e_iRange1, e_iRange2, e_vCut, e_vOpt0, e_vOpt, e_sNx, e_sBk, e_sCt, e_sSeq, e_sSet, e_sOwn, e_sPut, e_sFreeze, e_sRet, e_sExpr, e_sIf, e_sApp, e_sPar, e_sFor, runD, slots, so_ok, rb_ok, rb_none, so_none, po_some, List.getElem?_cons_zero, List.getElem?_cons_succ, List.set_cons_zero, List.set_cons_succ, List.map_cons, List.map_nil, List.length_cons, List.length_nil, List.replicate, List.append_nil, List.cons_append, List.nil_append, rb_er, so_er, e_sErr, e_sTry, e_iEnumE, e_sSetIx, mod_int rest m hn0, int_int, div_int rest m hn0 hb, hn]
    · rw [List.all_append, hs]
      simp [isNum]
      omega)
  rw [rng_size] at hl
  by_cases h3 : rest % 3 = 0
  · exact ⟨rng 0 m, rng_size 0 m, rng_nums m, by simp [e_vVar, e_vRd, e_vC, e_v1, e_v2, e_c1, e_c2, e_l1, e_l2, e_vL, e_vB, e_vArgs0, e_vArgs, e_vTup, e_vCall, e_vIf, e_bTr, e_bNot, e_bAnd, e_bOr, e_bChain, e_iSeq, e_iRange1, e_iRange2, e_vCut, e_vOpt0, e_vOpt, e_sNx, e_sBk, e_sCt, e_sSeq, e_sSet, e_sOwn, e_sPut, e_sFreeze, e_sRet, e_sExpr, e_sIf, e_sApp, e_sPar, e_sFor, runD, slots, so_ok, rb_ok, rb_none, so_none, po_some, List.getElem?_cons_zero, List.getElem?_cons_succ, List.set_cons_zero, List.set_cons_succ, List.map_cons, List.map_nil, List.length_cons, List.length_nil, List.replicate, List.append_nil, List.cons_append, List.nil_append, rb_er, so_er, e_sErr, e_sTry, e_iEnumE, e_sSetIx, mod_int, int_int, eq_int, h3, hr2, tup_list]⟩
  · exact ⟨sg, hl, hs, by simp [e_vVar, e_vRd, e_vC, e_v1, e_v2, e_c1, e_c2, e_l1, e_l2, e_vL, e_vB, e_vArgs0, e_vArgs, e_vTup, e_vCall, e_vIf, e_bTr, e_bNot, e_bAnd, e_bOr, e_bChain, e_iSeq, e_iRange1, e_iRange2, e_vCut, e_vOpt0, e_vOpt, e_sNx, e_sBk, e_sCt, e_sSeq, e_sSet, e_sOwn, e_sPut, e_sFreeze, e_sRet, e_sExpr, e_sIf, e_sApp, e_sPar, e_sFor, runD, slots, so_ok, rb_ok, rb_none, so_none, po_some, List.getElem?_cons_zero, List.getElem?_cons_succ, List.set_cons_zero, List.set_cons_succ, List.map_cons, List.map_nil, List.length_cons, List.length_nil, List.replicate, List.append_nil, List.cons_append, List.nil_append, rb_er, so_er, e_sErr, e_sTry, e_iEnumE, e_sSetIx, mod_int, int_int, eq_int, h3, tup_list]⟩
theorem many4 (v : Int) (h0 : 0 ≤ v) (h : v < 4) : ∃ n : Int, 2 ≤ n ∧ n ≤ 4 ∧ dIx (.list [.int 2, .int 3, .int 4, .int 3]) (.int v) = some (.int n) := by
  have : v = 0 ∨ v = 1 ∨ v = 2 ∨ v = 3 := by omega
  rcases this with e | e | e | e <;> subst e <;> exact ⟨_, by decide, by decide, rfl⟩
theorem ebook_ (xs : List Int) (hl : xs.length = 13) : ∃ d n rs kind, f_law_ending_book [nums xs] = ok d ∧ Bk d n rs ∧ rs.all (dirD kind) = true := by
  obtain ⟨a, t, rfl⟩ : ∃ a t, xs = a :: t := by cases xs with | nil => cases hl | cons a t => exact ⟨a, t, rfl⟩
  have ht : t.length = 12 := by simpa using hl
  have x0 : dIx (nums (a :: t)) (.int 0) = some (.int a) := ixl (PyData.int a :: t.map PyData.int) 0
  have v1_ := Int.emod_nonneg a (show (4 : Int) ≠ 0 by decide)
  have v2_ := Int.emod_lt_of_pos a (show (0 : Int) < 4 by decide)
  obtain ⟨n, n2, n4, hn⟩ := many4 (a % 4) v1_ v2_
  have kd : 1 + a / 48 % 2 = 1 ∨ 1 + a / 48 % 2 = 2 := by omega
  obtain ⟨kind, ek⟩ : ∃ kind : Int, kind = 1 + a / 48 % 2 := ⟨_, rfl⟩
  rw [← ek] at kd
  obtain ⟨hi, ehi⟩ : ∃ hi : Int, hi = a / 4 % 12 + 2 := ⟨_, rfl⟩
  have e5 : slots 5 [nums (a :: t)] = [.d (nums (a :: t)), .un, .un, .un, .un] := rfl
  suffices h : ∃ rs, b_law_ending_book (slots 5 [nums (a :: t)]) = some (.rt (.tuple [.int n, .tuple rs])) ∧ rs.length ≤ 12 ∧ rs.all (isRule n) = true ∧ fresh [] rs = true ∧ rs.all (dirD kind) = true by
    obtain ⟨rs, h1, h2, h3, h4, h5⟩ := h
    refine ⟨_, n, rs, kind, ?_, ⟨rfl, by omega, n4, h2, h3, h4⟩, h5⟩
    simp only [f_law_ending_book, runD, h1, List.length_cons, List.length_nil, if_true]
  rw [b_law_ending_book, e5]
  simp only [e_vVar, e_vRd, e_vC, e_v1, e_v2, e_c1, e_c2, e_l1, e_l2, e_vL, e_vB, e_vArgs0, e_vArgs, e_vTup, e_vCall, e_vIf, e_bTr, e_bNot, e_bAnd, e_bOr, e_bChain, e_iSeq, e_iRange1, e_iRange2, e_vCut, e_vOpt0, e_vOpt, e_sNx, e_sBk, e_sCt, e_sSeq, e_sSet, e_sOwn, e_sPut, e_sFreeze, e_sRet, e_sExpr, e_sIf, e_sApp, e_sPar, e_sFor, runD, slots, so_ok, rb_ok, rb_none, so_none, po_some, List.getElem?_cons_zero, List.getElem?_cons_succ, List.set_cons_zero, List.set_cons_succ, List.map_cons, List.map_nil, List.length_cons, List.length_nil, List.replicate, List.append_nil, List.cons_append, List.nil_append, rb_er, so_er, e_sErr, e_sTry, e_iEnumE, e_sSetIx, Bool.not_true, Bool.not_false, Bool.false_eq_true, Bool.true_and, Bool.false_and, Bool.and_true, Bool.and_false, Bool.true_or, Bool.false_or, Bool.or_true, Bool.or_false, if_true, if_false, Option.map_some, tr_bool, int_int, add_int, sub_int, x0, mod_int _ 4 (by decide), hn, div_int _ 4 (by decide) (by decide), mod_int _ 12 (by decide), ← ehi, cut_list, seq_list]
  generalize hL : loopF _ _ _ _ = L
  obtain ⟨r', rfl, rs, s3, s4, rfl, hl, hs, hf, hd⟩ := loop_out hL (fun k r => ∃ (rs : List D) (s3 s4 : Slot), r = [.d (nums (a :: t)), .d (.int n), .own rs, s3, s4] ∧ rs.length ≤ k ∧ rs.all (isRule n) = true ∧ fresh [] rs = true ∧ rs.all (dirD kind) = true)
    ⟨[], .un, .un, rfl, Nat.le_refl _, rfl, rfl, rfl⟩ (by
    rintro k y r hx ⟨rs, s3, s4, rfl, hl, hs, hf, hd⟩
    have hk := (List.getElem?_eq_some_iff.mp hx).1
    have hc := cut_len (PyData.int a :: t.map PyData.int) (some 1) (some hi)
    rw [List.length_cons, List.length_map, ht] at hc
    obtain ⟨i, rfl⟩ := nums_mem (ns := a :: t) (cutD_sub (List.mem_of_getElem? hx))
    obtain ⟨d, d1, d2, d3⟩ := rule_D i n kind kd n2 n4
    have ni := (notIn_of hs d2).2
    have hn : rs.length < lim := by have := big; omega
    by_cases hm : (rs.any fun z => PyData.eqv z d) = true
    · rw [hm] at ni
      refine ⟨_, [.d (nums (a :: t)), .d (.int n), .own rs, .d (.int i), .d d], rfl, ?_, _, _, _, rfl, by omega, hs, hf, hd⟩
      simp only [e_vVar, e_vRd, e_vC, e_v1, e_v2, e_c1, e_c2, e_l1, e_l2, e_vL, e_vB, e_vArgs0, e_vArgs, e_vTup, e_vCall, e_vIf, e_bTr, e_bNot, e_bAnd, e_bOr, e_bChain, e_iSeq, e_iRange1, e_iRange2, e_vCut, e_vOpt0, e_vOpt, e_sNx, e_sBk, e_sCt, e_sSeq, e_sSet, e_sOwn, e_sPut, e_sFreeze, e_sRet, e_sExpr, e_sIf, e_sApp, e_sPar, e_sFor, runD, slots, so_ok, rb_ok, rb_none, so_none, po_some, List.getElem?_cons_zero, List.getElem?_cons_succ, List.set_cons_zero, List.set_cons_succ, List.map_cons, List.map_nil, List.length_cons, List.length_nil, List.replicate, List.append_nil, List.cons_append, List.nil_append, rb_er, so_er, e_sErr, e_sTry, e_iEnumE, e_sSetIx, Bool.not_true, Bool.not_false, Bool.false_eq_true, Bool.true_and, Bool.false_and, Bool.and_true, Bool.and_false, Bool.true_or, Bool.false_or, Bool.or_true, Bool.or_false, if_true, if_false, Option.map_some, tr_bool, int_int, add_int, sub_int, x0, mod_int _ 2 (by decide), div_int _ 48 (by decide) (by decide), ← ek, d1, ni]
    · rw [Bool.not_eq_true] at hm
      rw [hm] at ni
      refine ⟨_, [.d (nums (a :: t)), .d (.int n), .own (rs ++ [d]), .d (.int i), .d d], rfl, ?_, _, _, _, rfl, by simp; omega, by rw [List.all_append, hs]; simp [d2], fresh_snoc hf hm, by rw [List.all_append, hd]; simp [d3]⟩
      simp only [e_vVar, e_vRd, e_vC, e_v1, e_v2, e_c1, e_c2, e_l1, e_l2, e_vL, e_vB, e_vArgs0, e_vArgs, e_vTup, e_vCall, e_vIf, e_bTr, e_bNot, e_bAnd, e_bOr, e_bChain, e_iSeq, e_iRange1, e_iRange2, e_vCut, e_vOpt0, e_vOpt, e_sNx, e_sBk, e_sCt, e_sSeq, e_sSet, e_sOwn, e_sPut, e_sFreeze, e_sRet, e_sExpr, e_sIf, e_sApp, e_sPar, e_sFor, runD, slots, so_ok, rb_ok, rb_none, so_none, po_some, List.getElem?_cons_zero, List.getElem?_cons_succ, List.set_cons_zero, List.set_cons_succ, List.map_cons, List.map_nil, List.length_cons, List.length_nil, List.replicate, List.append_nil, List.cons_append, List.nil_append, rb_er, so_er, e_sErr, e_sTry, e_iEnumE, e_sSetIx, Bool.not_true, Bool.not_false, Bool.false_eq_true, Bool.true_and, Bool.false_and, Bool.and_true, Bool.and_false, Bool.true_or, Bool.false_or, Bool.or_true, Bool.or_false, if_true, if_false, Option.map_some, tr_bool, int_int, add_int, sub_int, x0, mod_int _ 2 (by decide), div_int _ 48 (by decide) (by decide), ← ek, d1, ni, hn])
  have hc := cut_from1 (.int a) (t.map PyData.int) (some hi)
  rw [List.length_map, ht] at hc
  refine ⟨rs, ?_, by omega, hs, hf, hd⟩
  simp only [e_vVar, e_vRd, e_vC, e_v1, e_v2, e_c1, e_c2, e_l1, e_l2, e_vL, e_vB, e_vArgs0, e_vArgs, e_vTup, e_vCall, e_vIf, e_bTr, e_bNot, e_bAnd, e_bOr, e_bChain, e_iSeq, e_iRange1, e_iRange2, e_vCut, e_vOpt0, e_vOpt, e_sNx, e_sBk, e_sCt, e_sSeq, e_sSet, e_sOwn, e_sPut, e_sFreeze, e_sRet, e_sExpr, e_sIf, e_sApp, e_sPar, e_sFor, runD, slots, so_ok, rb_ok, rb_none, so_none, po_some, List.getElem?_cons_zero, List.getElem?_cons_succ, List.set_cons_zero, List.set_cons_succ, List.map_cons, List.map_nil, List.length_cons, List.length_nil, List.replicate, List.append_nil, List.cons_append, List.nil_append, rb_er, so_er, e_sErr, e_sTry, e_iEnumE, e_sSetIx, Bool.not_true, Bool.not_false, Bool.false_eq_true, Bool.true_and, Bool.false_and, Bool.and_true, Bool.and_false, Bool.true_or, Bool.false_or, Bool.or_true, Bool.or_false, if_true, if_false, Option.map_some, tr_bool, int_int, add_int, sub_int, tup_list]
theorem ebook_t (xs : List Int) (hl : xs.length = 13) : ∃ n R, f_law_ending_book [nums xs] = ok (eB n R) ∧ Bo n R ∧ ringIn R n = false := by
  obtain ⟨d, n, rs, kind, h1, h2, h3⟩ := ebook_ xs hl
  obtain ⟨m, R, e, B⟩ := h2.nat
  refine ⟨m, R, by rw [h1, e], B, ?_⟩
  have e2 := h2.eq
  rw [e] at e2
  have e3 : rs = R.map eR := by
    injection e2 with e2
    injection e2 with _ e2
    injection e2 with e2 _
    injection e2 with e2
    exact e2.symm
  subst e3
  refine no_ring B (fun a => decide (kind = 1 ∨ (1 : Int) < (a : Nat))) fun r hr => ?_
  have h4 := List.all_eq_true.mp h3 _ (List.mem_map.mpr ⟨r, hr, rfl⟩)
  have h5 : (if kind = 1 ∨ (1 : Int) < (r.a : Nat) then decide (((r.o : Nat) : Int) < (r.w : Nat)) else decide (((r.w : Nat) : Int) < (r.o : Nat))) = true := h4
  by_cases c : kind = 1 ∨ (1 : Int) < (r.a : Nat)
  · rw [if_pos c, decide_eq_true_eq] at h5
    rw [decide_eq_true c, if_pos rfl]
    omega
  · rw [if_neg c, decide_eq_true_eq] at h5
    rw [decide_eq_false c, if_neg (by decide)]
    omega
end K24
namespace K24
open PySem DL
/-! The pairs of a node's state and a child's state that ways lead to. -/
abbrev Pr := Nat × Nat
def nxP (R : List Rl) (p : Pr) (k : Nat) : Pr := match R[k]? with
  | some r => (r.w, r.sg.getD p.2 0)
  | none => p
def succs (R : List Rl) (a : Nat) (p : Pr) : List Pr := (fitL R a p.1).map (nxP R p)
def addN (m : List Pr) (p : Pr) : List Pr := if p ∈ m then m else m ++ [p]
def stepB (R : List Rl) (a : Nat) (m : List Pr) (p : Pr) : List Pr := (succs R a p).foldl addN m
/-- what has been met behind j turns -/
def metB (R : List Rl) (a : Nat) (s : Pr) : Nat → List Pr
  | 0 => [s]
  | j + 1 => match (metB R a s j)[j]? with
    | some p => stepB R a (metB R a s j) p
    | none => metB R a s j
/-- reached in so many steps -/
inductive Rch (R : List Rl) (a : Nat) (s : Pr) : Nat → Pr → Prop
  | z : Rch R a s 0 s
  | n {t : Nat} {p q : Pr} : Rch R a s t p → q ∈ succs R a p → Rch R a s (t + 1) q
theorem mem_addN {m : List Pr} {p q : Pr} : q ∈ addN m p ↔ q ∈ m ∨ q = p := by
  unfold addN
  split
  · rename_i h
    exact ⟨.inl, fun z => z.elim id fun e => e ▸ h⟩
  · rw [List.mem_append, List.mem_singleton]
theorem mem_foldN {q : Pr} : ∀ {ps m : List Pr}, q ∈ ps.foldl addN m ↔ q ∈ m ∨ q ∈ ps
  | [], m => by simp
  | p :: ps, m => by
    rw [List.foldl_cons, mem_foldN, mem_addN, List.mem_cons]
    exact ⟨fun z => z.elim (fun z => z.elim .inl fun e => .inr (.inl e)) fun e => .inr (.inr e), fun z => z.elim (fun e => .inl (.inl e)) fun z => z.elim (fun e => .inl (.inr e)) .inr⟩
theorem nodup_addN {m : List Pr} {p : Pr} (h : m.Nodup) : (addN m p).Nodup := by
  unfold addN
  split
  · exact h
  · rename_i c
    rw [List.nodup_append]
    refine ⟨h, by simp, fun x hx y hy e => ?_⟩
    rw [List.mem_singleton.mp hy] at e
    exact c (e ▸ hx)
theorem nodup_foldN : ∀ {ps m : List Pr}, m.Nodup → (ps.foldl addN m).Nodup
  | [], _, h => h
  | p :: ps, m, h => by
    rw [List.foldl_cons]
    exact nodup_foldN (nodup_addN h)
theorem get_addN {m : List Pr} {p q : Pr} {i : Nat} (h : m[i]? = some q) : (addN m p)[i]? = some q := by
  unfold addN
  split
  · exact h
  · rw [List.getElem?_append_left (List.getElem?_eq_some_iff.mp h).1, h]
theorem get_foldN {q : Pr} {i : Nat} : ∀ {ps m : List Pr}, m[i]? = some q → (ps.foldl addN m)[i]? = some q
  | [], _, h => h
  | p :: ps, m, h => by
    rw [List.foldl_cons]
    exact get_foldN (get_addN h)
section
variable {n a : Nat} {R : List Rl} {s : Pr}
theorem get_metB {i j : Nat} {q : Pr} (h : (metB R a s j)[i]? = some q) : ∀ d, (metB R a s (j + d))[i]? = some q
  | 0 => h
  | d + 1 => by
    have ih := get_metB h d
    show (match (metB R a s (j + d))[j + d]? with | some p => stepB R a (metB R a s (j + d)) p | none => metB R a s (j + d))[i]? = some q
    split
    · exact get_foldN ih
    · exact ih
theorem nodup_metB : ∀ j, (metB R a s j).Nodup
  | 0 => by rw [metB]; simp
  | j + 1 => by
    rw [metB]
    split
    · exact nodup_foldN (nodup_metB j)
    · exact nodup_metB j
theorem rch_metB : ∀ (j : Nat) (q : Pr), q ∈ metB R a s j → ∃ t, Rch R a s t q
  | 0, q, h => by
    rw [metB, List.mem_singleton] at h
    subst h
    exact ⟨0, .z⟩
  | j + 1, q, h => by
    rw [metB] at h
    split at h
    · rename_i p hp
      rcases mem_foldN.mp h with h | h
      · exact rch_metB j q h
      · obtain ⟨t, ht⟩ := rch_metB j p (List.mem_of_getElem? hp)
        exact ⟨t + 1, .n ht h⟩
    · exact rch_metB j q h
/-- behind its turn all that follows has been met -/
theorem done_metB {j : Nat} {p q : Pr} (h : (metB R a s j)[j]? = some p) (hq : q ∈ succs R a p) : q ∈ metB R a s (j + 1) := by
  rw [metB, h]
  exact mem_foldN.mpr (.inr hq)
theorem sub_metB {i j : Nat} {q : Pr} (h : q ∈ metB R a s i) (hij : i ≤ j) : q ∈ metB R a s j := by
  obtain ⟨k, hk⟩ := List.getElem?_of_mem h
  have := get_metB hk (j - i)
  rw [show i + (j - i) = j by omega] at this
  exact List.mem_of_getElem? this
/-- at the end: all that is reached -/
theorem all_metB {J : Nat} (hJ : (metB R a s J).length ≤ J) : ∀ {t : Nat} {q : Pr}, Rch R a s t q → q ∈ metB R a s J
  | _, _, .z => sub_metB (i := 0) (by rw [metB]; simp) (Nat.zero_le _)
  | _, _, .n h hq => by
    obtain ⟨i, hi⟩ := List.getElem?_of_mem (all_metB hJ h)
    have hiJ : i < J := Nat.lt_of_lt_of_le (List.getElem?_eq_some_iff.mp hi).1 hJ
    -- the i-th stood there at its turn
    have hat : ∃ p, (metB R a s i)[i]? = some p := by
      cases e : (metB R a s i)[i]? with
      | some p => exact ⟨p, rfl⟩
      | none =>
        exfalso
        have stop : ∀ d, metB R a s (i + d) = metB R a s i := by
          intro d
          induction d with
          | zero => rfl
          | succ d ih =>
            show (match (metB R a s (i + d))[i + d]? with | some p => stepB R a (metB R a s (i + d)) p | none => metB R a s (i + d)) = _
            rw [ih]
            have : (metB R a s i)[i + d]? = none := List.getElem?_eq_none (by have := List.getElem?_eq_none_iff.mp e; omega)
            rw [this]
        have := stop (J - i)
        rw [show i + (J - i) = J by omega] at this
        rw [this, e] at hi
        cases hi
    obtain ⟨p, hp⟩ := hat
    have := get_metB hp (J - i)
    rw [show i + (J - i) = J by omega, hi] at this
    cases this
    exact sub_metB (done_metB hp hq) hiJ
def okP (n : Nat) (p : Pr) : Prop := p.1 < n ∧ p.2 < n
theorem ok_succ (B : Bo n R) {p q : Pr} (hp : okP n p) (h : q ∈ succs R a p) : okP n q := by
  obtain ⟨k, hk, rfl⟩ := List.mem_map.mp h
  unfold fitL at hk
  obtain ⟨hk1, _⟩ := List.mem_filter.mp hk
  have er := List.getElem?_eq_getElem (List.mem_range.mp hk1)
  have o := B.at er
  unfold nxP
  rw [er]
  exact ⟨o.w, o.sg _ (getD_mem (by rw [o.len]; exact hp.2))⟩
theorem ok_rch (B : Bo n R) (hs : okP n s) : ∀ {t : Nat} {q : Pr}, Rch R a s t q → okP n q
  | _, _, .z => hs
  | _, _, .n h hq => ok_succ B (ok_rch B hs h) hq
/-- each step lowers the rank -/
theorem rch_rank (B : Bo n R) (hg : ringIn R n = false) (hs : okP n s) : ∀ {t : Nat} {q : Pr}, Rch R a s t q → t + (rk R a n n).getD q.1 0 ≤ (rk R a n n).getD s.1 0
  | _, _, .z => by omega
  | _, _, .n (p := p) h hq => by
    have ih := rch_rank B hg hs h
    obtain ⟨k, hk, rfl⟩ := List.mem_map.mp hq
    unfold fitL at hk
    obtain ⟨hk1, hk2⟩ := List.mem_filter.mp hk
    have er := List.getElem?_eq_getElem (List.mem_range.mp hk1)
    unfold fitK at hk2
    rw [er] at hk2
    dsimp only at hk2
    rw [Bool.and_eq_true, beq_iff_eq, beq_iff_eq] at hk2
    have hf := falls B hg (List.mem_of_getElem? er)
    unfold nxP
    rw [er]
    dsimp only
    rw [← hk2.1]
    rw [hk2.2, hk2.1] at hf
    rw [← hk2.1] at ih
    rw [hk2.1] at ih ⊢
    omega
end
end K24
namespace K24
open PySem DL
theorem e_vDget {i : Nat} {k : EX} {r : DL.Env} : vDget i k r = (match r[i]? with
  | some (.dct kvs) => rb (k r) fun x => match keyOf x with
    | some k => po (getP kvs k)
    | none => none
  | _ => none) := (rfl)
theorem e_bDnin {i : Nat} {k : EX} {r : DL.Env} : bDnin i k r = (match r[i]? with
  | some (.dct kvs) => rb (k r) fun x => match keyOf x with
    | some k => ok (!(getP kvs k).isSome)
    | none => none
  | _ => none) := (rfl)
theorem e_sDput {i : Nat} {a b : EX} {r : DL.Env} : sDput i a b r = (match r[i]? with
  | some (.dct kvs) => so (b r) r fun y => so (a r) r fun x => match keyOf x with
    | some k => if kvs.length < lim then some (.nx (r.set i (.dct (putP kvs k y)))) else none
    | none => none
  | _ => none) := (rfl)
/-- the key of a pair -/
def kd (p : Pr) : List Int := [(p.1 : Nat), (p.2 : Nat)]
theorem kd_inj {p q : Pr} (h : kd p = kd q) : p = q := by
  unfold kd at h
  injection h with h1 h2
  injection h2 with h2 _
  exact Prod.ext (by omega) (by omega)
theorem pdt (p : Pr) : pd p = .tuple [nd p.1, nd p.2] := rfl
theorem key_pd (i j : Nat) : keyOf (.tuple [nd i, nd j]) = some (kd (i, j)) := rfl
/-- the dict of the ways to what has been met -/
structure Ways (kvs : List (List Int × D)) (m : List Pr) : Prop where
  keys : kvs.map (·.1) = m.map kd
  vals : ∀ e ∈ kvs, ∃ ws : List Int, e.2 = .list (ws.map PyData.int) ∧ ws.length ≤ kvs.length
theorem Ways.len {kvs : List (List Int × D)} {m : List Pr} (h : Ways kvs m) : kvs.length = m.length := by
  have := congrArg List.length h.keys
  rw [List.length_map, List.length_map] at this
  exact this
theorem Ways.has {kvs : List (List Int × D)} {m : List Pr} (h : Ways kvs m) {q : Pr} (hq : q ∈ m) : ∃ ws : List Int, getP kvs (kd q) = some (.list (ws.map PyData.int)) ∧ ws.length ≤ kvs.length := by
  have h1 : kd q ∈ kvs.map (·.1) := by rw [h.keys]; exact List.mem_map.mpr ⟨q, hq, rfl⟩
  obtain ⟨e, he, ek⟩ := List.mem_map.mp h1
  unfold getP
  cases hf : kvs.find? fun p => decide (p.1 = kd q) with
  | none =>
    have := List.find?_eq_none.mp hf e he
    simp [ek] at this
  | some e' =>
    obtain ⟨ws, e1, e2⟩ := h.vals e' (List.mem_of_find?_eq_some hf)
    exact ⟨ws, by rw [← e1]; rfl, e2⟩
theorem Ways.hasnt {kvs : List (List Int × D)} {m : List Pr} (h : Ways kvs m) {q : Pr} (hq : q ∉ m) : getP kvs (kd q) = none := by
  unfold getP
  rw [Option.map_eq_none_iff, List.find?_eq_none]
  intro e he hk
  have h1 : e.1 ∈ m.map kd := by rw [← h.keys]; exact List.mem_map.mpr ⟨e, he, rfl⟩
  obtain ⟨p, hp, ek⟩ := List.mem_map.mp h1
  have : e.1 = kd q := by simpa using hk
  rw [← ek] at this
  exact hq (kd_inj this ▸ hp)
theorem Ways.put {kvs : List (List Int × D)} {m : List Pr} (h : Ways kvs m) {q : Pr} (hq : q ∉ m) {ws : List Int} (hw : ws.length ≤ kvs.length + 1) : putP kvs (kd q) (.list (ws.map PyData.int)) = kvs ++ [(kd q, .list (ws.map PyData.int))] ∧ Ways (kvs ++ [(kd q, .list (ws.map PyData.int))]) (m ++ [q]) := by
  constructor
  · unfold putP
    rw [if_neg]
    intro z
    obtain ⟨e, he, ek⟩ := List.any_eq_true.mp z
    have h1 : e.1 ∈ m.map kd := by rw [← h.keys]; exact List.mem_map.mpr ⟨e, he, rfl⟩
    obtain ⟨p, hp, e2⟩ := List.mem_map.mp h1
    have : e.1 = kd q := by simpa using ek
    rw [← e2] at this
    exact hq (kd_inj this ▸ hp)
  · refine ⟨by rw [List.map_append, List.map_append, h.keys]; rfl, fun e he => ?_⟩
    rw [List.length_append, List.length_cons, List.length_nil]
    rcases List.mem_append.mp he with he | he
    · obtain ⟨us, e1, e2⟩ := h.vals e he
      exact ⟨us, e1, by omega⟩
    · rw [List.mem_singleton.mp he]
      exact ⟨ws, rfl, by omega⟩
section
variable {n a : Nat} {R : List Rl}
theorem ways_loop (B : Bo n R) {p : Pr} (hp : okP n p) (s2 s3 s6 : Slot) : ∀ (ks : List Nat), (∀ k ∈ ks, k < R.length) → ∀ (m : List Pr) (kvs : List (List Int × D)) (s9 s10 s11 s12 s13 : Slot), Ways kvs m → p ∈ m → m.length + ks.length ≤ 10000 →
    ∃ (kvs' : List (List Int × D)) (s9' s10' s11' s12' s13' : Slot), loopF (.one 9) (sSeq (sPut (.many [10, 10, 11, 12]) (v2 dIx (v2 dIx (vVar 0) (vC (.int 1))) (vVar 9))) (sSeq (sSet 13 (vTup [(vVar 11), (v2 dIx (vVar 12) (vVar 8))])) (sIf (bDnin 4 (vVar 13)) (sSeq (sDput 4 (vVar 13) (v2 dAdd (vDget 4 (vTup [(vVar 7), (vVar 8)])) (vL (vArgs [(vVar 9)])))) (sApp 5 (vVar 13))) sNx))) (ndl ks)
      [.d (eB n R), .d (nd a), s2, s3, .dct kvs, .own (m.map pd), s6, .d (nd p.1), .d (nd p.2), s9, s10, s11, s12, s13] = some (.nx [.d (eB n R), .d (nd a), s2, s3, .dct kvs', .own (((ks.map (nxP R p)).foldl addN m).map pd), s6, .d (nd p.1), .d (nd p.2), s9', s10', s11', s12', s13']) ∧ Ways kvs' ((ks.map (nxP R p)).foldl addN m)
  | [], _, m, kvs, s9, s10, s11, s12, s13, hw, _, _ => ⟨kvs, s9, s10, s11, s12, s13, rfl, hw⟩
  | k :: ks, hks, m, kvs, s9, s10, s11, s12, s13, hw, hm, hl => by
    have hk := hks k List.mem_cons_self
    have er := List.getElem?_eq_getElem hk
    have o := B.at er
    rw [List.length_cons] at hl
    generalize R[k] = r at er o
    have ep : nxP R p k = (r.w, r.sg.getD p.2 0) := by unfold nxP; rw [er]
    have xr := xrule er
    have put : (Tg.many [10, 10, 11, 12]).put (eR r) [.d (eB n R), .d (nd a), s2, s3, .dct kvs, .own (m.map pd), s6, .d (nd p.1), .d (nd p.2), .d (nd k), s10, s11, s12, s13] = some [.d (eB n R), .d (nd a), s2, s3, .dct kvs, .own (m.map pd), s6, .d (nd p.1), .d (nd p.2), .d (nd k), .d (nd r.o), .d (nd r.w), .d (.tuple (ndl r.sg)), s13] := rfl
    have x8 : dIx (.tuple (ndl r.sg)) (nd p.2) = some (nd (r.sg.getD p.2 0)) := by rw [ix_ndt, get_nat (by rw [o.len]; exact hp.2)]; rfl
    have e1 : keyOf (.tuple [nd r.w, nd (r.sg.getD p.2 0)]) = some (kd (nxP R p k)) := by rw [ep]; rfl
    have e2 : keyOf (.tuple [nd p.1, nd p.2]) = some (kd p) := rfl
    have lb := big
    have hwl := hw.len
    by_cases c : nxP R p k ∈ m
    · obtain ⟨ws, g1, g2⟩ := hw.has c
      have ea : addN m (nxP R p k) = m := if_pos c
      obtain ⟨kvs', s9', s10', s11', s12', s13', h1, h2⟩ := ways_loop B hp s2 s3 s6 ks (fun j hj => hks j (List.mem_cons_of_mem _ hj)) m kvs (.d (nd k)) (.d (nd r.o)) (.d (nd r.w)) (.d (.tuple (ndl r.sg))) (.d (.tuple [nd r.w, nd (r.sg.getD p.2 0)])) hw hm (by omega)
      refine ⟨kvs', s9', s10', s11', s12', s13', ?_, ?_⟩
      · rw [List.map_cons, List.foldl_cons, ea, ← h1, show ndl (k :: ks) = nd k :: ndl ks from rfl, loopF, put_one]
        simp only [e_vVar, e_vRd, e_vC, e_v1, e_v2, e_c1, e_c2, e_l1, e_l2, e_vL, e_vB, e_vArgs0, e_vArgs, e_vTup, e_vCall, e_vIf, e_bTr, e_bNot, e_bAnd, e_bOr, e_bChain, e_iSeq, e_iRange1, e_iRange2, e_vCut, e_vOpt0, e_vOpt, e_sNx, e_sBk, e_sCt, e_sSeq, e_sSet, e_sOwn, e_sPut, e_sFreeze, e_sRet, e_sExpr, e_sIf, e_sApp, e_sPar, e_sFor, runD, slots, so_ok, rb_ok, rb_none, so_none, po_some, List.getElem?_cons_zero, List.getElem?_cons_succ, List.set_cons_zero, List.set_cons_succ, List.map_cons, List.map_nil, List.length_cons, List.length_nil, List.replicate, List.append_nil, List.cons_append, List.nil_append, rb_er, so_er, e_sErr, e_sTry, e_iEnumE, e_sSetIx, Bool.not_true, Bool.not_false, Bool.false_eq_true, Bool.true_and, Bool.false_and, Bool.and_true, Bool.and_false, Bool.true_or, Bool.false_or, Bool.or_true, Bool.or_false, if_true, if_false, Option.map_some, tr_bool, int_int, add_int, sub_int, x1b, xr, put, x8, e_bDnin, e1, g1, Option.isSome_some]
      · rw [List.map_cons, List.foldl_cons, ea]
        exact h2
    · have g0 := hw.hasnt c
      obtain ⟨ws, g1, g2⟩ := hw.has hm
      obtain ⟨w1, w2⟩ := hw.put c (ws := ws ++ [(k : Int)]) (by rw [List.length_append, List.length_cons, List.length_nil]; omega)
      have ea : addN m (nxP R p k) = m ++ [nxP R p k] := if_neg c
      obtain ⟨kvs', s9', s10', s11', s12', s13', h1, h2⟩ := ways_loop B hp s2 s3 s6 ks (fun j hj => hks j (List.mem_cons_of_mem _ hj)) (m ++ [nxP R p k]) _ (.d (nd k)) (.d (nd r.o)) (.d (nd r.w)) (.d (.tuple (ndl r.sg))) (.d (.tuple [nd r.w, nd (r.sg.getD p.2 0)])) w2 (List.mem_append_left _ hm) (by rw [List.length_append, List.length_cons, List.length_nil]; omega)
      have ad : dAdd (.list (ws.map PyData.int)) (.list [nd k]) = some (.list ((ws ++ [(k : Int)]).map PyData.int)) := by
        rw [add_list _ _ (by rw [List.length_append, List.length_map, List.length_cons, List.length_nil]; omega), List.map_append]
        rfl
      have l1_ : kvs.length < lim := by omega
      have l2_ : (m.map pd).length < lim := by rw [List.length_map]; omega
      have mp : (m ++ [nxP R p k]).map pd = m.map pd ++ [.tuple [nd r.w, nd (r.sg.getD p.2 0)]] := by rw [List.map_append, ep]; rfl
      refine ⟨kvs', s9', s10', s11', s12', s13', ?_, ?_⟩
      · rw [List.map_cons, List.foldl_cons, ea, ← h1, show ndl (k :: ks) = nd k :: ndl ks from rfl, mp, loopF, put_one, ← w1]
        simp only [e_vVar, e_vRd, e_vC, e_v1, e_v2, e_c1, e_c2, e_l1, e_l2, e_vL, e_vB, e_vArgs0, e_vArgs, e_vTup, e_vCall, e_vIf, e_bTr, e_bNot, e_bAnd, e_bOr, e_bChain, e_iSeq, e_iRange1, e_iRange2, e_vCut, e_vOpt0, e_vOpt, e_sNx, e_sBk, e_sCt, e_sSeq, e_sSet, e_sOwn, e_sPut, e_sFreeze, e_sRet, e_sExpr, e_sIf, e_sApp, e_sPar, e_sFor, runD, slots, so_ok, rb_ok, rb_none, so_none, po_some, List.getElem?_cons_zero, List.getElem?_cons_succ, List.set_cons_zero, List.set_cons_succ, List.map_cons, List.map_nil, List.length_cons, List.length_nil, List.replicate, List.append_nil, List.cons_append, List.nil_append, rb_er, so_er, e_sErr, e_sTry, e_iEnumE, e_sSetIx, Bool.not_true, Bool.not_false, Bool.false_eq_true, Bool.true_and, Bool.false_and, Bool.and_true, Bool.and_false, Bool.true_or, Bool.false_or, Bool.or_true, Bool.or_false, if_true, if_false, Option.map_some, tr_bool, int_int, add_int, sub_int, x1b, xr, put, x8, e_bDnin, e_sDput, e_vDget, e1, e2, g0, g1, Option.isSome_none, ad, l1_, l2_]
      · rw [List.map_cons, List.foldl_cons, ea]
        exact h2
end
end K24
namespace K24
open PySem DL
theorem nodupP_le : ∀ {xs ys : List Pr}, xs.Nodup → (∀ k ∈ xs, k ∈ ys) → xs.length ≤ ys.length
  | [], _, _, _ => Nat.zero_le _
  | x :: xs, ys, hd, h => by
    obtain ⟨d1, d2⟩ := List.nodup_cons.mp hd
    have hx := h x List.mem_cons_self
    have ih := nodupP_le (ys := ys.erase x) d2 fun k hk => (List.mem_erase_of_ne (fun z => d1 (by rw [← z]; exact hk))).mpr (h k (List.mem_cons_of_mem _ hk))
    have := List.length_erase_of_mem hx
    have : 0 < ys.length := List.length_pos_of_mem hx
    rw [List.length_cons]
    omega
def allP (n : Nat) : List Pr := (List.range n).flatMap fun i => (List.range n).map fun j => (i, j)
theorem mem_allP {n : Nat} {p : Pr} (h : okP n p) : p ∈ allP n := by
  unfold allP
  rw [List.mem_flatMap]
  exact ⟨p.1, List.mem_range.mpr h.1, List.mem_map.mpr ⟨p.2, List.mem_range.mpr h.2, rfl⟩⟩
section
variable {n a : Nat} {R : List Rl} {s : Pr}
theorem ok_metB (B : Bo n R) (hs : okP n s) {j : Nat} {q : Pr} (h : q ∈ metB R a s j) : okP n q := by
  obtain ⟨t, ht⟩ := rch_metB j q h
  exact ok_rch B hs ht
theorem few_metB (B : Bo n R) (hs : okP n s) (j : Nat) : (metB R a s j).length ≤ 16 := by
  have h1 := nodupP_le (nodup_metB (R := R) (a := a) (s := s) j) fun q hq => mem_allP (ok_metB B hs hq)
  have h2 : (allP n).length ≤ 16 := by
    have n1 := B.n1
    have n4 := B.n4
    have : n = 1 ∨ n = 2 ∨ n = 3 ∨ n = 4 := by omega
    rcases this with e | e | e | e <;> subst e <;> decide
  omega
theorem fit_lt {q k : Nat} (h : k ∈ fitL R a q) : k < R.length := List.mem_range.mp (List.mem_filter.mp h).1
theorem fit_len (B : Bo n R) (q : Nat) : (fitL R a q).length ≤ 12 := Nat.le_trans (List.length_filter_le _ _) (by rw [List.length_range]; exact B.len)
theorem e_sAugI {i : Nat} {f : Int → Int → Int} {e : EX} {r : DL.Env} : sAugI i f e r = (match r[i]? with
  | some (.d (.int m)) => so (e r) r fun y => match y with
    | .int k => some (.nx (r.set i (.d (.int (f m k)))))
    | _ => none
  | _ => none) := (rfl)
theorem met_while (B : Bo n R) (hs : okP n s) (s2 s3 : Slot) : ∀ (m j N : Nat) (kvs : List (List Int × D)) (s7 s8 s9 s10 s11 s12 s13 : Slot), 17 ≤ j + m → m < N → Ways kvs (metB R a s j) →
    ∃ (J : Nat) (kvs' : List (List Int × D)) (s7' s8' s9' s10' s11' s12' s13' : Slot), loopW (c2 cLt (vVar 6) (v1 dLen (vRd 5))) (sSeq (sPut (.many [7, 8]) (v2 dIx (vRd 5) (vVar 6))) (sSeq (sFor (iSeq (vCall f_fitting_rules [(vVar 0), (vVar 1), (vVar 7)])) (.one 9) (sSeq (sPut (.many [10, 10, 11, 12]) (v2 dIx (v2 dIx (vVar 0) (vC (.int 1))) (vVar 9))) (sSeq (sSet 13 (vTup [(vVar 11), (v2 dIx (vVar 12) (vVar 8))])) (sIf (bDnin 4 (vVar 13)) (sSeq (sDput 4 (vVar 13) (v2 dAdd (vDget 4 (vTup [(vVar 7), (vVar 8)])) (vL (vArgs [(vVar 9)])))) (sApp 5 (vVar 13))) sNx)))) (sAugI 6 (fun m n => m + n) (vC (.int 1))))) N
      [.d (eB n R), .d (nd a), s2, s3, .dct kvs, .own ((metB R a s j).map pd), .d (nd j), s7, s8, s9, s10, s11, s12, s13] = some (.nx [.d (eB n R), .d (nd a), s2, s3, .dct kvs', .own ((metB R a s J).map pd), .d (nd J), s7', s8', s9', s10', s11', s12', s13']) ∧ (metB R a s J).length ≤ J ∧ Ways kvs' (metB R a s J)
  | m, j, N, kvs, s7, s8, s9, s10, s11, s12, s13, hj, hN, hw => by
    obtain ⟨N, rfl⟩ : ∃ k, N = k + 1 := ⟨N - 1, by omega⟩
    have few := few_metB (a := a) B hs j
    have lb := big
    have ll : dLen (.list ((metB R a s j).map pd)) = some (.int ((metB R a s j).length : Nat)) := by rw [len_list, List.length_map]
    by_cases c : j < (metB R a s j).length
    · obtain ⟨m, rfl⟩ : ∃ k, m = k + 1 := ⟨m - 1, by omega⟩
      have lt1 : cLt (nd j) (.int ((metB R a s j).length : Nat)) = some true := by rw [lt_int, decide_eq_true (by omega)]
      have eg := List.getElem?_eq_getElem c
      have hmem := List.getElem_mem c
      generalize (metB R a s j)[j] = p at eg hmem
      have okp := ok_metB B hs hmem
      have xi : dIx (.list ((metB R a s j).map pd)) (nd j) = some (pd p) := by rw [ixl, List.getElem?_map, eg]; rfl
      have ft := fitting_t B a p.1
      have em : metB R a s (j + 1) = ((fitL R a p.1).map (nxP R p)).foldl addN (metB R a s j) := by rw [metB, eg]; rfl
      obtain ⟨kvs1, t9, t10, t11, t12, t13, w1, w2⟩ := ways_loop (a := a) B okp s2 s3 (.d (nd j)) (fitL R a p.1) (fun k hk => fit_lt hk) (metB R a s j) kvs s9 s10 s11 s12 s13 hw hmem (by have := fit_len (a := a) B p.1; omega)
      rw [← em] at w1 w2
      obtain ⟨J, kvs', u7, u8, u9, u10, u11, u12, u13, h1, h2, h3⟩ := met_while B hs s2 s3 m (j + 1) N kvs1 (.d (nd p.1)) (.d (nd p.2)) t9 t10 t11 t12 t13 (by omega) (by omega) w2
      refine ⟨J, kvs', u7, u8, u9, u10, u11, u12, u13, ?_, h2, h3⟩
      have put : (Tg.many [7, 8]).put (pd p) [.d (eB n R), .d (nd a), s2, s3, .dct kvs, .own ((metB R a s j).map pd), .d (nd j), s7, s8, s9, s10, s11, s12, s13] = some [.d (eB n R), .d (nd a), s2, s3, .dct kvs, .own ((metB R a s j).map pd), .d (nd j), .d (nd p.1), .d (nd p.2), s9, s10, s11, s12, s13] := rfl
      have e1 : ((j : Nat) : Int) + 1 = ((j + 1 : Nat) : Int) := by omega
      rw [← h1, loopW]
      simp only [e_vVar, e_vRd, e_vC, e_v1, e_v2, e_c1, e_c2, e_l1, e_l2, e_vL, e_vB, e_vArgs0, e_vArgs, e_vTup, e_vCall, e_vIf, e_bTr, e_bNot, e_bAnd, e_bOr, e_bChain, e_iSeq, e_iRange1, e_iRange2, e_vCut, e_vOpt0, e_vOpt, e_sNx, e_sBk, e_sCt, e_sSeq, e_sSet, e_sOwn, e_sPut, e_sFreeze, e_sRet, e_sExpr, e_sIf, e_sApp, e_sPar, e_sFor, runD, slots, so_ok, rb_ok, rb_none, so_none, po_some, List.getElem?_cons_zero, List.getElem?_cons_succ, List.set_cons_zero, List.set_cons_succ, List.map_cons, List.map_nil, List.length_cons, List.length_nil, List.replicate, List.append_nil, List.cons_append, List.nil_append, rb_er, so_er, e_sErr, e_sTry, e_iEnumE, e_sSetIx, Bool.not_true, Bool.not_false, Bool.false_eq_true, Bool.true_and, Bool.false_and, Bool.and_true, Bool.and_false, Bool.true_or, Bool.false_or, Bool.or_true, Bool.or_false, if_true, if_false, Option.map_some, tr_bool, int_int, add_int, sub_int, ll, lt1, xi, put, ft, seq_list, w1, e_sAugI, e1]
    · have lt1 : cLt (nd j) (.int ((metB R a s j).length : Nat)) = some false := by rw [lt_int, decide_eq_false (by omega)]
      refine ⟨j, kvs, s7, s8, s9, s10, s11, s12, s13, ?_, by omega, hw⟩
      rw [loopW]
      simp only [e_vVar, e_vRd, e_vC, e_v1, e_v2, e_c1, e_c2, e_l1, e_l2, e_vL, e_vB, e_vArgs0, e_vArgs, e_vTup, e_vCall, e_vIf, e_bTr, e_bNot, e_bAnd, e_bOr, e_bChain, e_iSeq, e_iRange1, e_iRange2, e_vCut, e_vOpt0, e_vOpt, e_sNx, e_sBk, e_sCt, e_sSeq, e_sSet, e_sOwn, e_sPut, e_sFreeze, e_sRet, e_sExpr, e_sIf, e_sApp, e_sPar, e_sFor, runD, slots, so_ok, rb_ok, rb_none, so_none, po_some, List.getElem?_cons_zero, List.getElem?_cons_succ, List.set_cons_zero, List.set_cons_succ, List.map_cons, List.map_nil, List.length_cons, List.length_nil, List.replicate, List.append_nil, List.cons_append, List.nil_append, rb_er, so_er, e_sErr, e_sTry, e_iEnumE, e_sSetIx, Bool.not_true, Bool.not_false, Bool.false_eq_true, Bool.true_and, Bool.false_and, Bool.and_true, Bool.and_false, Bool.true_or, Bool.false_or, Bool.or_true, Bool.or_false, if_true, if_false, Option.map_some, tr_bool, int_int, add_int, sub_int, ll, lt1]
  termination_by m => m
end
end K24
namespace K24
open PySem DL
/-- no rule can fire there -/
def restP (R : List Rl) (a : Nat) (p : Pr) : Bool := (fitL R a p.1).isEmpty
theorem putP_new {acc : List (List Int × D)} {done : List Pr} (h : acc.map (·.1) = done.map kd) {p : Pr} (hp : p ∉ done) (d : D) : putP acc (kd p) d = acc ++ [(kd p, d)] := by
  unfold putP
  rw [if_neg]
  intro z
  obtain ⟨e, he, ek⟩ := List.any_eq_true.mp z
  have h1 : e.1 ∈ done.map kd := by rw [← h]; exact List.mem_map.mpr ⟨e, he, rfl⟩
  obtain ⟨q, hq, e2⟩ := List.mem_map.mp h1
  have : e.1 = kd p := by simpa using ek
  rw [← e2] at this
  exact hp (kd_inj this ▸ hq)
theorem compD_keys {i : Nat} {t : EB} {u v : EX} {E : DL.Env} {T : Pr → Bool} : ∀ (ms done : List Pr) (acc : List (List Int × D)), acc.map (·.1) = done.map kd → (done ++ ms).Nodup → (∀ p ∈ ms, t (E.set i (.d (pd p))) = ok (T p)) →
    (∀ p ∈ ms, u (E.set i (.d (pd p))) = ok (pd p) ∧ ∃ d, v (E.set i (.d (pd p))) = ok d) → ∃ acc', compD (.one i) t u v E (ms.map pd) acc = ok acc' ∧ acc'.map (·.1) = (done ++ ms.filter T).map kd
  | [], done, acc, h, _, _, _ => ⟨acc, rfl, by rw [List.filter_nil, List.append_nil]; exact h⟩
  | p :: ms, done, acc, h, hn, ht, huv => by
    have t0 := ht p List.mem_cons_self
    obtain ⟨u0, d, v0⟩ := huv p List.mem_cons_self
    have hpd : p ∉ done := fun m => by
      rw [List.nodup_append] at hn
      exact hn.2.2 p m p List.mem_cons_self rfl
    have kp : keyOf (pd p) = some (kd p) := rfl
    cases c : T p
    · have hn2 : (done ++ ms).Nodup := hn.sublist (List.Sublist.append_left (List.sublist_cons_self p ms) done)
      obtain ⟨acc', h1, h2⟩ := compD_keys ms done acc h hn2 (fun q hq => ht q (List.mem_cons_of_mem _ hq)) fun q hq => huv q (List.mem_cons_of_mem _ hq)
      refine ⟨acc', ?_, ?_⟩
      · rw [List.map_cons, compD, put_one]
        dsimp only
        rw [t0, rb_ok, c, if_neg (by decide)]
        exact h1
      · rw [List.filter_cons, if_neg (by rw [c]; decide)]
        exact h2
    · have hn2 : ((done ++ [p]) ++ ms).Nodup := by rw [List.append_assoc]; exact hn
      obtain ⟨acc', h1, h2⟩ := compD_keys ms (done ++ [p]) (acc ++ [(kd p, d)]) (by rw [List.map_append, List.map_append, h]; rfl) hn2 (fun q hq => ht q (List.mem_cons_of_mem _ hq)) fun q hq => huv q (List.mem_cons_of_mem _ hq)
      refine ⟨acc', ?_, ?_⟩
      · rw [List.map_cons, compD, put_one]
        dsimp only
        rw [t0, rb_ok, c, if_pos rfl, u0, rb_ok, v0, rb_ok, kp]
        dsimp only
        rw [putP_new h hpd]
        exact h1
      · rw [List.filter_cons, if_pos c, h2, List.append_assoc]
        rfl
section
variable {n a : Nat} {R : List Rl} {s : Pr}
theorem e_sWhile {N : Nat} {c : EB} {b : SX} {r : DL.Env} : sWhile N c b r = loopW c b N r := (rfl)
theorem rest_ways_t (B : Bo n R) (hs : okP n s) : ∃ (L : List Pr) (kvs : List (List Int × D)), f_rest_ways [eB n R, nd a, nd s.1, nd s.2] = ok (.dict (kvs.map keyP)) ∧ kvs.map (·.1) = L.map kd ∧ L.Nodup ∧ ∀ p, p ∈ L ↔ (∃ t, Rch R a s t p) ∧ restP R a p = true := by
  have w0 : Ways [(kd s, .list [])] (metB R a s 0) := ⟨rfl, fun e he => by
    rw [List.mem_singleton.mp he]
    exact ⟨[], rfl, Nat.zero_le _⟩⟩
  obtain ⟨J, kvs, s7, s8, s9, s10, s11, s12, s13, h1, h2, h3⟩ := met_while (a := a) B hs (.d (nd s.1)) (.d (nd s.2)) 17 0 fuel [(kd s, .list [])] .un .un .un .un .un .un .un (by omega) (by show 17 < 1000000000; omega) w0
  have few := few_metB (a := a) B hs J
  have lb := big
  have e14 : slots 14 [eB n R, nd a, nd s.1, nd s.2] = [.d (eB n R), .d (nd a), .d (nd s.1), .d (nd s.2), .un, .un, .un, .un, .un, .un, .un, .un, .un, .un] := rfl
  have em : (metB R a s 0).map pd = [pd s] := rfl
  rw [em] at h1
  obtain ⟨acc, c1_, c2_⟩ := compD_keys (i := 13) (t := c2 cEq (vCall f_fitting_rules [(vVar 0), (vVar 1), (v2 dIx (vVar 13) (vC (.int 0)))]) (vL (vArgs []))) (u := vVar 13) (v := vDget 4 (vVar 13))
    (E := [.d (eB n R), .d (nd a), .d (nd s.1), .d (nd s.2), .dct kvs, .own ((metB R a s J).map pd), .d (nd J), s7, s8, s9, s10, s11, s12, .un]) (T := restP R a) (metB R a s J) [] [] rfl (nodup_metB J) (fun p hp => by
      have x0 : dIx (pd p) (.int 0) = some (nd p.1) := ixt [nd p.1, nd p.2] 0
      have ft := fitting_t B a p.1
      have q := eq_nil (ndl (fitL R a p.1))
      have e : (ndl (fitL R a p.1)).isEmpty = restP R a p := by unfold restP; cases fitL R a p.1 <;> rfl
      rw [e] at q
      generalize pd p = P at x0
      simp only [e_vVar, e_vRd, e_vC, e_v1, e_v2, e_c1, e_c2, e_l1, e_l2, e_vL, e_vB, e_vArgs0, e_vArgs, e_vTup, e_vCall, e_vIf, e_bTr, e_bNot, e_bAnd, e_bOr, e_bChain, e_iSeq, e_iRange1, e_iRange2, e_vCut, e_vOpt0, e_vOpt, e_sNx, e_sBk, e_sCt, e_sSeq, e_sSet, e_sOwn, e_sPut, e_sFreeze, e_sRet, e_sExpr, e_sIf, e_sApp, e_sPar, e_sFor, runD, slots, so_ok, rb_ok, rb_none, so_none, po_some, List.getElem?_cons_zero, List.getElem?_cons_succ, List.set_cons_zero, List.set_cons_succ, List.map_cons, List.map_nil, List.length_cons, List.length_nil, List.replicate, List.append_nil, List.cons_append, List.nil_append, rb_er, so_er, e_sErr, e_sTry, e_iEnumE, e_sSetIx, Bool.not_true, Bool.not_false, Bool.false_eq_true, Bool.true_and, Bool.false_and, Bool.and_true, Bool.and_false, Bool.true_or, Bool.false_or, Bool.or_true, Bool.or_false, if_true, if_false, Option.map_some, tr_bool, int_int, add_int, sub_int, x0, ft, q]) (fun p hp => by
      obtain ⟨ws, g1, g2⟩ := h3.has hp
      have kp : keyOf (pd p) = some (kd p) := rfl
      generalize pd p = P at kp
      exact ⟨by simp only [e_vVar, e_vRd, e_vC, e_v1, e_v2, e_c1, e_c2, e_l1, e_l2, e_vL, e_vB, e_vArgs0, e_vArgs, e_vTup, e_vCall, e_vIf, e_bTr, e_bNot, e_bAnd, e_bOr, e_bChain, e_iSeq, e_iRange1, e_iRange2, e_vCut, e_vOpt0, e_vOpt, e_sNx, e_sBk, e_sCt, e_sSeq, e_sSet, e_sOwn, e_sPut, e_sFreeze, e_sRet, e_sExpr, e_sIf, e_sApp, e_sPar, e_sFor, runD, slots, so_ok, rb_ok, rb_none, so_none, po_some, List.getElem?_cons_zero, List.getElem?_cons_succ, List.set_cons_zero, List.set_cons_succ, List.map_cons, List.map_nil, List.length_cons, List.length_nil, List.replicate, List.append_nil, List.cons_append, List.nil_append, rb_er, so_er, e_sErr, e_sTry, e_iEnumE, e_sSetIx, Bool.not_true, Bool.not_false, Bool.false_eq_true, Bool.true_and, Bool.false_and, Bool.and_true, Bool.and_false, Bool.true_or, Bool.false_or, Bool.or_true, Bool.or_false, if_true, if_false, Option.map_some, tr_bool, int_int, add_int, sub_int], _, by simp only [e_vVar, e_vRd, e_vC, e_v1, e_v2, e_c1, e_c2, e_l1, e_l2, e_vL, e_vB, e_vArgs0, e_vArgs, e_vTup, e_vCall, e_vIf, e_bTr, e_bNot, e_bAnd, e_bOr, e_bChain, e_iSeq, e_iRange1, e_iRange2, e_vCut, e_vOpt0, e_vOpt, e_sNx, e_sBk, e_sCt, e_sSeq, e_sSet, e_sOwn, e_sPut, e_sFreeze, e_sRet, e_sExpr, e_sIf, e_sApp, e_sPar, e_sFor, runD, slots, so_ok, rb_ok, rb_none, so_none, po_some, List.getElem?_cons_zero, List.getElem?_cons_succ, List.set_cons_zero, List.set_cons_succ, List.map_cons, List.map_nil, List.length_cons, List.length_nil, List.replicate, List.append_nil, List.cons_append, List.nil_append, rb_er, so_er, e_sErr, e_sTry, e_iEnumE, e_sSetIx, Bool.not_true, Bool.not_false, Bool.false_eq_true, Bool.true_and, Bool.false_and, Bool.and_true, Bool.and_false, Bool.true_or, Bool.false_or, Bool.or_true, Bool.or_false, if_true, if_false, Option.map_some, tr_bool, int_int, add_int, sub_int, e_vDget, kp, g1]; rfl⟩)
  rw [List.nil_append] at c2_
  refine ⟨(metB R a s J).filter (restP R a), acc, ?_, c2_, (nodup_metB J).filter _, fun p => ?_⟩
  · suffices hb : b_rest_ways (slots 14 [eB n R, nd a, nd s.1, nd s.2]) = some (.rt (.dict (acc.map keyP))) by
      simp only [f_rest_ways, runD, hb, List.length_cons, List.length_nil, if_true]
    have k0 : keyOf (.tuple [nd s.1, nd s.2]) = some (kd s) := rfl
    have comp : vDComp (iSeq (vRd 5)) (.one 13) (c2 cEq (vCall f_fitting_rules [(vVar 0), (vVar 1), (v2 dIx (vVar 13) (vC (.int 0)))]) (vL (vArgs []))) (vVar 13) (vDget 4 (vVar 13)) [.d (eB n R), .d (nd a), .d (nd s.1), .d (nd s.2), .dct kvs, .own ((metB R a s J).map pd), .d (nd J), s7, s8, s9, s10, s11, s12, s13] = ok (.dict (acc.map keyP)) := by
      unfold vDComp
      rw [show iSeq (vRd 5) [.d (eB n R), .d (nd a), .d (nd s.1), .d (nd s.2), .dct kvs, .own ((metB R a s J).map pd), .d (nd J), s7, s8, s9, s10, s11, s12, s13] = ok ((metB R a s J).map pd) from rfl, rb_ok, if_pos (by rw [List.length_map]; omega)]
      show rb (noEr (compD (.one 13) _ _ _ [.d (eB n R), .d (nd a), .d (nd s.1), .d (nd s.2), .dct kvs, .own ((metB R a s J).map pd), .d (nd J), s7, s8, s9, s10, s11, s12, .un] ((metB R a s J).map pd) [])) _ = _
      rw [c1_]
      rfl
    rw [b_rest_ways, e14]
    generalize fuel = N at h1 ⊢
    have d1 : sDct1 4 (vTup [(vVar 2), (vVar 3)]) (vL (vArgs [])) [.d (eB n R), .d (nd a), .d (nd s.1), .d (nd s.2), .un, .un, .un, .un, .un, .un, .un, .un, .un, .un] = some (.nx [.d (eB n R), .d (nd a), .d (nd s.1), .d (nd s.2), .dct [(kd s, .list [])], .un, .un, .un, .un, .un, .un, .un, .un, .un]) := rfl
    rw [e_sSeq, d1]
    dsimp only
    have d2 : sOwn 5 (vArgs [(vTup [(vVar 2), (vVar 3)])]) [.d (eB n R), .d (nd a), .d (nd s.1), .d (nd s.2), .dct [(kd s, .list [])], .un, .un, .un, .un, .un, .un, .un, .un, .un] = some (.nx [.d (eB n R), .d (nd a), .d (nd s.1), .d (nd s.2), .dct [(kd s, .list [])], .own [pd s], .un, .un, .un, .un, .un, .un, .un, .un]) := rfl
    rw [e_sSeq, d2]
    dsimp only
    have d3 : sSet 6 (vC (.int 0)) [.d (eB n R), .d (nd a), .d (nd s.1), .d (nd s.2), .dct [(kd s, .list [])], .own [pd s], .un, .un, .un, .un, .un, .un, .un, .un] = some (.nx [.d (eB n R), .d (nd a), .d (nd s.1), .d (nd s.2), .dct [(kd s, .list [])], .own [pd s], .d (nd 0), .un, .un, .un, .un, .un, .un, .un]) := rfl
    rw [e_sSeq, d3]
    dsimp only
    rw [e_sSeq, e_sWhile, h1]
    dsimp only
    rw [e_sRet, comp, so_ok]
  · rw [List.mem_filter]
    constructor
    · rintro ⟨m1, m2⟩
      exact ⟨rch_metB J p m1, m2⟩
    · rintro ⟨⟨t, ht⟩, m2⟩
      exact ⟨all_metB h2 ht, m2⟩
/-- without a ring some way comes to an end -/
theorem some_rest (B : Bo n R) (hg : ringIn R n = false) (hs : okP n s) : ∃ (t : Nat) (p : Pr), Rch R a s t p ∧ restP R a p = true := by
  apply Classical.byContradiction
  intro no
  have go : ∀ t, ∃ p, Rch R a s t p := by
    intro t
    induction t with
    | zero => exact ⟨s, .z⟩
    | succ t ih =>
      obtain ⟨p, hp⟩ := ih
      cases hf : fitL R a p.1 with
      | nil => exact absurd ⟨t, p, hp, by unfold restP; rw [hf]; rfl⟩ no
      | cons k ks => exact ⟨nxP R p k, .n hp (List.mem_map.mpr ⟨k, by rw [hf]; exact List.mem_cons_self, rfl⟩)⟩
  obtain ⟨p, hp⟩ := go ((rk R a n n).getD s.1 0 + 1)
  have := rch_rank B hg hs hp
  omega
end
end K24
namespace K24
open PySem DL
def cI (p : Pr) : Int × Int := ((p.1 : Nat), (p.2 : Nat))
theorem cI_inj {p q : Pr} (h : cI p = cI q) : p = q := by
  unfold cI at h
  injection h with h1 h2
  exact Prod.ext (by omega) (by omega)
theorem prsOf_pd : ∀ L : List Pr, prsOf (L.map pd) = some (L.map cI)
  | [] => rfl
  | p :: L => by
    show (prsOf (L.map pd)).map _ = _
    rw [prsOf_pd L]
    rfl
theorem le_iff {x y : Int × Int} : prLe x y = true ↔ x.1 < y.1 ∨ (x.1 = y.1 ∧ x.2 ≤ y.2) := by
  unfold prLe
  rw [Bool.or_eq_true, Bool.and_eq_true, decide_eq_true_iff, decide_eq_true_iff, decide_eq_true_iff]
theorem ms_sorted (xs : List (Int × Int)) : (xs.mergeSort prLe).Pairwise fun x y => prLe x y = true := List.pairwise_mergeSort (fun a b c h1 h2 => by
  have := le_iff.mp h1
  have := le_iff.mp h2
  exact le_iff.mpr (by omega)) (fun a b => by
  rw [Bool.or_eq_true, le_iff, le_iff]
  omega) xs
/-- the same members, each once: the same when sorted -/
theorem ms_same {xs ys : List (Int × Int)} (h : xs.Perm ys) : xs.mergeSort prLe = ys.mergeSort prLe := by
  refine List.Perm.eq_of_pairwise (le := fun x y => prLe x y = true) (fun a b _ _ x y => ?_) (ms_sorted xs) (ms_sorted ys) ((List.mergeSort_perm xs _).trans (h.trans (List.mergeSort_perm ys _).symm))
  have x' := le_iff.mp x
  have y' := le_iff.mp y
  exact Prod.ext (by omega) (by omega)
/-- the pairs in order -/
def srt (L : List Pr) : List D := ((L.map cI).mergeSort prLe).map prD
theorem sort_t (L : List Pr) : lSortP (.list (L.map pd)) = some (srt L) := by
  unfold lSortP
  dsimp only
  rw [prsOf_pd]
  rfl
theorem perm_of {L M : List Pr} (h1 : L.Nodup) (h2 : M.Nodup) (h : ∀ p, p ∈ L ↔ p ∈ M) : L.Perm M := (List.perm_ext_iff_of_nodup h1 h2).mpr h
theorem srt_same {L M : List Pr} (h1 : L.Nodup) (h2 : M.Nodup) (h : ∀ p, p ∈ L ↔ p ∈ M) : srt L = srt M := by
  unfold srt
  rw [ms_same ((perm_of h1 h2 h).map cI)]
/-- the sorted pairs are pairs -/
theorem mem_cI {L : List Pr} {p : Pr} : cI p ∈ L.map cI ↔ p ∈ L := by
  rw [List.mem_map]
  exact ⟨fun ⟨q, h, e⟩ => cI_inj e ▸ h, fun h => ⟨p, h, rfl⟩⟩
theorem nodup_cI {L : List Pr} : (L.map cI).Nodup ↔ L.Nodup := by
  unfold List.Nodup
  rw [List.pairwise_map]
  exact ⟨fun h => h.imp fun {x y} z (e : x = y) => z (by rw [e]), fun h => h.imp fun {x y} z (e : cI x = cI y) => z (cI_inj e)⟩
theorem srt_pd (L : List Pr) (hn : L.Nodup) : ∃ M : List Pr, srt L = M.map pd ∧ M.Perm L := by
  have hp := List.mergeSort_perm (L.map cI) prLe
  have hm : ∀ x ∈ (L.map cI).mergeSort prLe, ∃ p ∈ L, cI p = x := fun x hx => by
    obtain ⟨p, h1, h2⟩ := List.mem_map.mp (hp.mem_iff.mp hx)
    exact ⟨p, h1, h2⟩
  have back : ∀ xs : List (Int × Int), (∀ x ∈ xs, ∃ p ∈ L, cI p = x) → ∃ M : List Pr, M.map cI = xs := by
    intro xs
    induction xs with
    | nil => exact fun _ => ⟨[], rfl⟩
    | cons x xs ih =>
      intro h
      obtain ⟨p, _, e⟩ := h x List.mem_cons_self
      obtain ⟨M, e2⟩ := ih fun y hy => h y (List.mem_cons_of_mem _ hy)
      exact ⟨p :: M, by rw [List.map_cons, e, e2]⟩
  obtain ⟨M, e⟩ := back _ hm
  refine ⟨M, ?_, ?_⟩
  · unfold srt
    rw [← e, List.map_map]
    rfl
  · rw [← e] at hp
    have hM : M.Nodup := nodup_cI.mp (hp.nodup_iff.mpr (nodup_cI.mpr hn))
    exact perm_of hM hn fun p => by rw [← mem_cI, hp.mem_iff, mem_cI]
section
variable {n a : Nat} {R : List Rl} {s : Pr}
theorem keys_pd : ∀ {kvs : List (List Int × D)} {L : List Pr}, kvs.map (·.1) = L.map kd → (kvs.map keyP).map (·.1) = L.map pd
  | [], [], _ => rfl
  | [], _ :: _, h => by cases h
  | _ :: _, [], h => by cases h
  | e :: kvs, p :: L, h => by
    rw [List.map_cons, List.map_cons] at h
    injection h with h1 h2
    rw [List.map_cons, List.map_cons, List.map_cons, keys_pd h2]
    congr 1
    show PyData.tuple (e.1.map PyData.int) = pd p
    rw [h1]
    rfl
theorem results_of_t (B : Bo n R) (hg : ringIn R n = false) (hs : okP n s) : ∃ L : List Pr, f_results_of [eB n R, nd a, nd s.1, nd s.2] = ok (.list (srt L)) ∧ L.Nodup ∧ ∀ p, p ∈ L ↔ (∃ t, Rch R a s t p) ∧ restP R a p = true := by
  obtain ⟨L, kvs, h1, h2, h3, h4⟩ := rest_ways_t (a := a) B hs
  obtain ⟨t, p, r1, r2⟩ := some_rest (a := a) B hg hs
  have hp : p ∈ L := (h4 p).mpr ⟨⟨t, r1⟩, r2⟩
  have tk : isTK (kvs.map keyP) = true := by
    cases kvs with
    | nil =>
      cases L with
      | nil => cases hp
      | cons _ _ => cases h2
    | cons e kvs => rfl
  have ky : lKeys (.dict (kvs.map keyP)) = some (L.map pd) := by
    unfold lKeys
    dsimp only
    rw [if_pos tk, keys_pd h2]
  have st := sort_t L
  refine ⟨L, ?_, h3, h4⟩
  simp only [f_results_of, b_results_of, e_vVar, e_vRd, e_vC, e_v1, e_v2, e_c1, e_c2, e_l1, e_l2, e_vL, e_vB, e_vArgs0, e_vArgs, e_vTup, e_vCall, e_vIf, e_bTr, e_bNot, e_bAnd, e_bOr, e_bChain, e_iSeq, e_iRange1, e_iRange2, e_vCut, e_vOpt0, e_vOpt, e_sNx, e_sBk, e_sCt, e_sSeq, e_sSet, e_sOwn, e_sPut, e_sFreeze, e_sRet, e_sExpr, e_sIf, e_sApp, e_sPar, e_sFor, runD, slots, so_ok, rb_ok, rb_none, so_none, po_some, List.getElem?_cons_zero, List.getElem?_cons_succ, List.set_cons_zero, List.set_cons_succ, List.map_cons, List.map_nil, List.length_cons, List.length_nil, List.replicate, List.append_nil, List.cons_append, List.nil_append, rb_er, so_er, e_sErr, e_sTry, e_iEnumE, e_sSetIx, Bool.not_true, Bool.not_false, Bool.false_eq_true, Bool.true_and, Bool.false_and, Bool.and_true, Bool.and_false, Bool.true_or, Bool.false_or, Bool.or_true, Bool.or_false, if_true, if_false, Option.map_some, tr_bool, int_int, add_int, sub_int, h1, ky, st]
end
end K24
namespace K24
open PySem DL
/-! ### whole numbers ascending, each once -/
theorem mem_ins {x k : Int} : ∀ {ys : List Int}, k ∈ insU x ys ↔ k = x ∨ k ∈ ys
  | [] => by simp [insU]
  | y :: ys => by
    unfold insU
    split
    · simp
    · split
      · rename_i h
        subst h
        simp
      · rw [List.mem_cons, mem_ins, List.mem_cons]
        exact ⟨fun h => h.elim (fun h => .inr (.inl h)) fun h => h.elim .inl fun h => .inr (.inr h), fun h => h.elim (fun h => .inr (.inl h)) fun h => h.elim .inl fun h => .inr (.inr h)⟩
theorem mem_set {k : Int} : ∀ {xs : List Int}, k ∈ setS xs ↔ k ∈ xs
  | [] => Iff.rfl
  | x :: xs => by rw [setS, mem_ins, mem_set, List.mem_cons]
theorem ins_lt {x : Int} : ∀ {ys : List Int}, ys.Pairwise (· < ·) → (insU x ys).Pairwise (· < ·)
  | [], _ => List.pairwise_singleton _ _
  | y :: ys, h => by
    obtain ⟨h1, h2⟩ := List.pairwise_cons.mp h
    unfold insU
    split
    · rename_i c
      refine List.pairwise_cons.mpr ⟨fun z hz => ?_, h⟩
      rcases List.mem_cons.mp hz with rfl | hz
      · exact c
      · exact Int.lt_trans c (h1 z hz)
    · split
      · exact h
      · rename_i c d
        refine List.pairwise_cons.mpr ⟨fun z hz => ?_, ins_lt h2⟩
        rcases mem_ins.mp hz with rfl | hz
        · omega
        · exact h1 z hz
theorem set_lt : ∀ xs : List Int, (setS xs).Pairwise (· < ·)
  | [] => List.Pairwise.nil
  | x :: xs => ins_lt (set_lt xs)
theorem asc_same : ∀ {xs ys : List Int}, xs.Pairwise (· < ·) → ys.Pairwise (· < ·) → (∀ k, k ∈ xs ↔ k ∈ ys) → xs = ys
  | [], [], _, _, _ => rfl
  | [], y :: _, _, _, h => nomatch (h y).mpr List.mem_cons_self
  | x :: _, [], _, _, h => nomatch (h x).mp List.mem_cons_self
  | x :: xs, y :: ys, hx, hy, h => by
    obtain ⟨x1, x2⟩ := List.pairwise_cons.mp hx
    obtain ⟨y1, y2⟩ := List.pairwise_cons.mp hy
    have e : x = y := by
      rcases List.mem_cons.mp ((h x).mp List.mem_cons_self) with a | a
      · exact a
      · rcases List.mem_cons.mp ((h y).mpr List.mem_cons_self) with b | b
        · exact b.symm
        · have := x1 y b
          have := y1 x a
          omega
    subst e
    congr 1
    refine asc_same x2 y2 fun k => ⟨fun m => ?_, fun m => ?_⟩
    · rcases List.mem_cons.mp ((h k).mp (List.mem_cons_of_mem _ m)) with a | a
      · subst a; exact absurd (x1 k m) (Int.lt_irrefl k)
      · exact a
    · rcases List.mem_cons.mp ((h k).mpr (List.mem_cons_of_mem _ m)) with a | a
      · subst a; exact absurd (y1 k m) (Int.lt_irrefl k)
      · exact a
theorem set_same {xs ys : List Int} (h : ∀ k, k ∈ xs ↔ k ∈ ys) : setS xs = setS ys := asc_same (set_lt xs) (set_lt ys) fun k => by rw [mem_set, mem_set, h]
theorem ins_len (x : Int) : ∀ ys : List Int, (insU x ys).length ≤ ys.length + 1
  | [] => Nat.le_refl _
  | y :: ys => by
    unfold insU
    split
    · exact Nat.le_refl _
    · split
      · exact Nat.le_succ _
      · have := ins_len x ys
        rw [List.length_cons, List.length_cons]
        omega
/-- numbers below n: at most n of them -/
theorem set_few {n : Nat} {xs : List Int} (h : ∀ k ∈ xs, 0 ≤ k ∧ k < (n : Int)) (hn : n ≤ 4) : (setS xs).length ≤ 4 := by
  have hd : ∀ (ys : List Int) (lo : Int), ys.Pairwise (· < ·) → (∀ k ∈ ys, lo ≤ k ∧ k < 4) → lo ≤ 4 → (ys.length : Int) ≤ 4 - lo := by
    intro ys
    induction ys with
    | nil => intro lo _ _ hlo; show (0 : Int) ≤ 4 - lo; omega
    | cons y ys ih =>
      intro lo hp hb hlo
      obtain ⟨p1, p2⟩ := List.pairwise_cons.mp hp
      have hy := hb y List.mem_cons_self
      have := ih (y + 1) p2 (fun k hk => ⟨by have := p1 k hk; omega, (hb k (List.mem_cons_of_mem _ hk)).2⟩) (by omega)
      rw [List.length_cons]
      omega
  have := hd (setS xs) 0 (set_lt xs) (fun k hk => by have := h k (mem_set.mp hk); omega) (by omega)
  omega
theorem numsOf_ints : ∀ xs : List Int, DL.numsOf (xs.map PyData.int) = some xs
  | [] => rfl
  | x :: xs => by
    show (DL.numsOf (xs.map PyData.int)).map _ = _
    rw [numsOf_ints xs]
    rfl
theorem sortS_t {n : Nat} {xs : List Int} (h : ∀ k ∈ xs, 0 ≤ k ∧ k < (n : Int)) (hn : n ≤ 4) (hl : xs.length ≤ 2000) : lSortS (nums xs) = some ((setS xs).map PyData.int) := by
  have := set_few h hn
  unfold lSortS
  dsimp only
  rw [numsOf_ints]
  dsimp only
  rw [if_pos ⟨hl, by omega⟩]
section
variable {n a : Nat} {R : List Rl} {s : Pr}
theorem check_states3_t (B : Bo n R) {a q c : Nat} (ha : a < n) (hq : q < n) (hc : c < n) : f_check_states [eB n R, .tuple [nd a, nd q, nd c]] = ok .none := by
  have h1 := check_state_t (R := R) ha
  have h2 := check_state_t (R := R) hq
  have h4 := check_state_t (R := R) hc
  have h3 : f_check_book [eB n R] = ok .none := by rw [check_book_, B.is]; rfl
  have put : ∀ (x : D) (s : Slot), (Tg.one 2).put x [.d (eB n R), .d (.tuple [nd a, nd q, nd c]), s] = some [.d (eB n R), .d (.tuple [nd a, nd q, nd c]), .d x] := fun _ _ => rfl
  have hl : ∀ s, loopF (.one 2) (sExpr (vCall f_check_state [(vVar 0), (vVar 2)])) [nd a, nd q, nd c] [.d (eB n R), .d (.tuple [nd a, nd q, nd c]), s] = some (.nx [.d (eB n R), .d (.tuple [nd a, nd q, nd c]), .d (nd c)]) := by
    intro s
    rw [loopF, put]
    simp only [e_vVar, e_vRd, e_vC, e_v1, e_v2, e_c1, e_c2, e_l1, e_l2, e_vL, e_vB, e_vArgs0, e_vArgs, e_vTup, e_vCall, e_vIf, e_bTr, e_bNot, e_bAnd, e_bOr, e_bChain, e_iSeq, e_iRange1, e_iRange2, e_vCut, e_vOpt0, e_vOpt, e_sNx, e_sBk, e_sCt, e_sSeq, e_sSet, e_sOwn, e_sPut, e_sFreeze, e_sRet, e_sExpr, e_sIf, e_sApp, e_sPar, e_sFor, runD, slots, so_ok, rb_ok, rb_none, so_none, po_some, List.getElem?_cons_zero, List.getElem?_cons_succ, List.set_cons_zero, List.set_cons_succ, List.map_cons, List.map_nil, List.length_cons, List.length_nil, List.replicate, List.append_nil, List.cons_append, List.nil_append, rb_er, so_er, e_sErr, e_sTry, e_iEnumE, e_sSetIx, Bool.not_true, Bool.not_false, Bool.false_eq_true, Bool.true_and, Bool.false_and, Bool.and_true, Bool.and_false, Bool.true_or, Bool.false_or, Bool.or_true, Bool.or_false, if_true, if_false, Option.map_some, tr_bool, int_int, add_int, sub_int, h1]
    rw [loopF, put]
    simp only [e_vVar, e_vRd, e_vC, e_v1, e_v2, e_c1, e_c2, e_l1, e_l2, e_vL, e_vB, e_vArgs0, e_vArgs, e_vTup, e_vCall, e_vIf, e_bTr, e_bNot, e_bAnd, e_bOr, e_bChain, e_iSeq, e_iRange1, e_iRange2, e_vCut, e_vOpt0, e_vOpt, e_sNx, e_sBk, e_sCt, e_sSeq, e_sSet, e_sOwn, e_sPut, e_sFreeze, e_sRet, e_sExpr, e_sIf, e_sApp, e_sPar, e_sFor, runD, slots, so_ok, rb_ok, rb_none, so_none, po_some, List.getElem?_cons_zero, List.getElem?_cons_succ, List.set_cons_zero, List.set_cons_succ, List.map_cons, List.map_nil, List.length_cons, List.length_nil, List.replicate, List.append_nil, List.cons_append, List.nil_append, rb_er, so_er, e_sErr, e_sTry, e_iEnumE, e_sSetIx, Bool.not_true, Bool.not_false, Bool.false_eq_true, Bool.true_and, Bool.false_and, Bool.and_true, Bool.and_false, Bool.true_or, Bool.false_or, Bool.or_true, Bool.or_false, if_true, if_false, Option.map_some, tr_bool, int_int, add_int, sub_int, h2]
    rw [loopF, put]
    simp only [e_vVar, e_vRd, e_vC, e_v1, e_v2, e_c1, e_c2, e_l1, e_l2, e_vL, e_vB, e_vArgs0, e_vArgs, e_vTup, e_vCall, e_vIf, e_bTr, e_bNot, e_bAnd, e_bOr, e_bChain, e_iSeq, e_iRange1, e_iRange2, e_vCut, e_vOpt0, e_vOpt, e_sNx, e_sBk, e_sCt, e_sSeq, e_sSet, e_sOwn, e_sPut, e_sFreeze, e_sRet, e_sExpr, e_sIf, e_sApp, e_sPar, e_sFor, runD, slots, so_ok, rb_ok, rb_none, so_none, po_some, List.getElem?_cons_zero, List.getElem?_cons_succ, List.set_cons_zero, List.set_cons_succ, List.map_cons, List.map_nil, List.length_cons, List.length_nil, List.replicate, List.append_nil, List.cons_append, List.nil_append, rb_er, so_er, e_sErr, e_sTry, e_iEnumE, e_sSetIx, Bool.not_true, Bool.not_false, Bool.false_eq_true, Bool.true_and, Bool.false_and, Bool.and_true, Bool.and_false, Bool.true_or, Bool.false_or, Bool.or_true, Bool.or_false, if_true, if_false, Option.map_some, tr_bool, int_int, add_int, sub_int, h4]
    rfl
  simp only [f_check_states, b_check_states, e_vVar, e_vRd, e_vC, e_v1, e_v2, e_c1, e_c2, e_l1, e_l2, e_vL, e_vB, e_vArgs0, e_vArgs, e_vTup, e_vCall, e_vIf, e_bTr, e_bNot, e_bAnd, e_bOr, e_bChain, e_iSeq, e_iRange1, e_iRange2, e_vCut, e_vOpt0, e_vOpt, e_sNx, e_sBk, e_sCt, e_sSeq, e_sSet, e_sOwn, e_sPut, e_sFreeze, e_sRet, e_sExpr, e_sIf, e_sApp, e_sPar, e_sFor, runD, slots, so_ok, rb_ok, rb_none, so_none, po_some, List.getElem?_cons_zero, List.getElem?_cons_succ, List.set_cons_zero, List.set_cons_succ, List.map_cons, List.map_nil, List.length_cons, List.length_nil, List.replicate, List.append_nil, List.cons_append, List.nil_append, rb_er, so_er, e_sErr, e_sTry, e_iEnumE, e_sSetIx, Bool.not_true, Bool.not_false, Bool.false_eq_true, Bool.true_and, Bool.false_and, Bool.and_true, Bool.and_false, Bool.true_or, Bool.false_or, Bool.or_true, Bool.or_false, if_true, if_false, Option.map_some, tr_bool, int_int, add_int, sub_int, h3, seq_tup, hl]
theorem node_results_t (B : Bo n R) (ha : a < n) (hs : okP n s) (hg : ringIn R n = false) : ∃ L : List Pr, f_node_results [eB n R, nd a, nd s.1, nd s.2] = ok (.list (srt L)) ∧ L.Nodup ∧ ∀ p, p ∈ L ↔ (∃ t, Rch R a s t p) ∧ restP R a p = true := by
  obtain ⟨L, h1, h2⟩ := results_of_t (a := a) B hg hs
  have c1_ := check_states3_t B ha hs.1 hs.2
  have c2_ := check_ends_t B
  rw [hg] at c2_
  have c2' : f_check_ends [eB n R] = ok .none := c2_
  exact ⟨L, by simp only [f_node_results, b_node_results, e_vVar, e_vRd, e_vC, e_v1, e_v2, e_c1, e_c2, e_l1, e_l2, e_vL, e_vB, e_vArgs0, e_vArgs, e_vTup, e_vCall, e_vIf, e_bTr, e_bNot, e_bAnd, e_bOr, e_bChain, e_iSeq, e_iRange1, e_iRange2, e_vCut, e_vOpt0, e_vOpt, e_sNx, e_sBk, e_sCt, e_sSeq, e_sSet, e_sOwn, e_sPut, e_sFreeze, e_sRet, e_sExpr, e_sIf, e_sApp, e_sPar, e_sFor, runD, slots, so_ok, rb_ok, rb_none, so_none, po_some, List.getElem?_cons_zero, List.getElem?_cons_succ, List.set_cons_zero, List.set_cons_succ, List.map_cons, List.map_nil, List.length_cons, List.length_nil, List.replicate, List.append_nil, List.cons_append, List.nil_append, rb_er, so_er, e_sErr, e_sTry, e_iEnumE, e_sSetIx, Bool.not_true, Bool.not_false, Bool.false_eq_true, Bool.true_and, Bool.false_and, Bool.and_true, Bool.and_false, Bool.true_or, Bool.false_or, Bool.or_true, Bool.or_false, if_true, if_false, Option.map_some, tr_bool, int_int, add_int, sub_int, c1_, c2', h1], h2⟩
theorem node_results_er (B : Bo n R) (ha : a < n) (hs : okP n s) (hg : ringIn R n = true) : f_node_results [eB n R, nd a, nd s.1, nd s.2] = er ⟨"NoEnd", none⟩ := by
  have c1_ := check_states3_t B ha hs.1 hs.2
  have c2_ := check_ends_t B
  rw [hg] at c2_
  have c2' : f_check_ends [eB n R] = er ⟨"NoEnd", none⟩ := c2_
  simp only [f_node_results, b_node_results, e_vVar, e_vRd, e_vC, e_v1, e_v2, e_c1, e_c2, e_l1, e_l2, e_vL, e_vB, e_vArgs0, e_vArgs, e_vTup, e_vCall, e_vIf, e_bTr, e_bNot, e_bAnd, e_bOr, e_bChain, e_iSeq, e_iRange1, e_iRange2, e_vCut, e_vOpt0, e_vOpt, e_sNx, e_sBk, e_sCt, e_sSeq, e_sSet, e_sOwn, e_sPut, e_sFreeze, e_sRet, e_sExpr, e_sIf, e_sApp, e_sPar, e_sFor, runD, slots, so_ok, rb_ok, rb_none, so_none, po_some, List.getElem?_cons_zero, List.getElem?_cons_succ, List.set_cons_zero, List.set_cons_succ, List.map_cons, List.map_nil, List.length_cons, List.length_nil, List.replicate, List.append_nil, List.cons_append, List.nil_append, rb_er, so_er, e_sErr, e_sTry, e_iEnumE, e_sSetIx, Bool.not_true, Bool.not_false, Bool.false_eq_true, Bool.true_and, Bool.false_and, Bool.and_true, Bool.and_false, Bool.true_or, Bool.false_or, Bool.or_true, Bool.or_false, if_true, if_false, Option.map_some, tr_bool, int_int, add_int, sub_int, c1_, c2']
theorem comp_fst {i j : Nat} {u : EX} {E : DL.Env} (hu : ∀ p : Pr, u ((E.set i (.d (nd p.1))).set j (.d (nd p.2))) = ok (nd p.1)) : ∀ M : List Pr, compL (.many [i, j]) bYes u E (M.map pd) = ok (ndl (M.map (·.1)))
  | [] => rfl
  | p :: M => by
    have put : (Tg.many [i, j]).put (pd p) E = some ((E.set i (.d (nd p.1))).set j (.d (nd p.2))) := rfl
    rw [List.map_cons, compL, put]
    dsimp only
    rw [show bYes ((E.set i (.d (nd p.1))).set j (.d (nd p.2))) = ok true from rfl, rb_ok, if_pos rfl, hu p, rb_ok, comp_fst hu M, rb_ok]
    rfl
theorem rch_few (B : Bo n R) (hs : okP n s) {L : List Pr} (h1 : L.Nodup) (h2 : ∀ p ∈ L, ∃ t, Rch R a s t p) : L.length ≤ 16 := by
  have h3 := nodupP_le h1 fun p hp => by
    obtain ⟨t, ht⟩ := h2 p hp
    exact mem_allP (ok_rch B hs ht)
  have h4 : (allP n).length ≤ 16 := by
    have n1 := B.n1
    have n4 := B.n4
    have : n = 1 ∨ n = 2 ∨ n = 3 ∨ n = 4 := by omega
    rcases this with e | e | e | e <;> subst e <;> decide
  omega
/-- the states of a node at rest, ascending -/
theorem node_rests_t (B : Bo n R) {q : Nat} (ha : a < n) (hq : q < n) (hg : ringIn R n = false) : ∃ xs : List Int, f_node_rests [eB n R, nd a, nd q] = ok (.list ((setS xs).map PyData.int)) ∧ ∀ k : Int, k ∈ xs ↔ ∃ (t : Nat) (p : Pr), Rch R a (q, q) t p ∧ restP R a p = true ∧ k = (p.1 : Nat) := by
  obtain ⟨L, h1, h2, h3⟩ := results_of_t (a := a) (s := (q, q)) B hg ⟨hq, hq⟩
  obtain ⟨M, m1, m2⟩ := srt_pd L h2
  have c1_ := check_states_t B ha hq
  have c2_ := check_ends_t B
  rw [hg] at c2_
  have c2' : f_check_ends [eB n R] = ok .none := c2_
  have h1' : f_results_of [eB n R, nd a, nd q, nd q] = ok (.list (M.map pd)) := by rw [← m1]; exact h1
  have few : M.length ≤ 16 := by
    rw [m2.length_eq]
    exact rch_few (s := (q, q)) B ⟨hq, hq⟩ h2 fun p hp => ((h3 p).mp hp).1
  have lb := big
  have hc : lComp (iSeq (vCall f_results_of [(vVar 0), (vVar 1), (vVar 2), (vVar 2)])) (.many [3, 4]) bYes (vVar 3) [.d (eB n R), .d (nd a), .d (nd q), .un, .un] = ok ((M.map fun p => ((p.1 : Nat) : Int)).map PyData.int) := by
    unfold lComp
    have it : iSeq (vCall f_results_of [(vVar 0), (vVar 1), (vVar 2), (vVar 2)]) [.d (eB n R), .d (nd a), .d (nd q), .un, .un] = ok (M.map pd) := by simp only [e_vVar, e_vRd, e_vC, e_v1, e_v2, e_c1, e_c2, e_l1, e_l2, e_vL, e_vB, e_vArgs0, e_vArgs, e_vTup, e_vCall, e_vIf, e_bTr, e_bNot, e_bAnd, e_bOr, e_bChain, e_iSeq, e_iRange1, e_iRange2, e_vCut, e_vOpt0, e_vOpt, e_sNx, e_sBk, e_sCt, e_sSeq, e_sSet, e_sOwn, e_sPut, e_sFreeze, e_sRet, e_sExpr, e_sIf, e_sApp, e_sPar, e_sFor, runD, slots, so_ok, rb_ok, rb_none, so_none, po_some, List.getElem?_cons_zero, List.getElem?_cons_succ, List.set_cons_zero, List.set_cons_succ, List.map_cons, List.map_nil, List.length_cons, List.length_nil, List.replicate, List.append_nil, List.cons_append, List.nil_append, rb_er, so_er, e_sErr, e_sTry, e_iEnumE, e_sSetIx, Bool.not_true, Bool.not_false, Bool.false_eq_true, Bool.true_and, Bool.false_and, Bool.and_true, Bool.and_false, Bool.true_or, Bool.false_or, Bool.or_true, Bool.or_false, if_true, if_false, Option.map_some, tr_bool, int_int, add_int, sub_int, h1', seq_list]
    rw [it, rb_ok, if_pos (by rw [List.length_map]; omega)]
    show noEr (compL (.many [3, 4]) _ _ [.d (eB n R), .d (nd a), .d (nd q), .un, .un] (M.map pd)) = _
    rw [comp_fst (fun p => rfl)]
    unfold ndl
    rw [List.map_map, List.map_map]
    rfl
  have st : lSortS (nums (M.map fun p => ((p.1 : Nat) : Int))) = some ((setS (M.map fun p => ((p.1 : Nat) : Int))).map PyData.int) := sortS_t (n := n) (fun k hk => by
    obtain ⟨p, hp, rfl⟩ := List.mem_map.mp hk
    obtain ⟨t, ht⟩ := ((h3 p).mp (m2.mem_iff.mp hp)).1
    have := (ok_rch (s := (q, q)) B ⟨hq, hq⟩ ht).1
    omega) B.n4 (by rw [List.length_map]; omega)
  refine ⟨M.map fun p => ((p.1 : Nat) : Int), ?_, fun k => ?_⟩
  · generalize (M.map fun p => ((p.1 : Nat) : Int)) = xs at hc st
    simp only [f_node_rests, b_node_rests, e_vVar, e_vRd, e_vC, e_v1, e_v2, e_c1, e_c2, e_l1, e_l2, e_vL, e_vB, e_vArgs0, e_vArgs, e_vTup, e_vCall, e_vIf, e_bTr, e_bNot, e_bAnd, e_bOr, e_bChain, e_iSeq, e_iRange1, e_iRange2, e_vCut, e_vOpt0, e_vOpt, e_sNx, e_sBk, e_sCt, e_sSeq, e_sSet, e_sOwn, e_sPut, e_sFreeze, e_sRet, e_sExpr, e_sIf, e_sApp, e_sPar, e_sFor, runD, slots, so_ok, rb_ok, rb_none, so_none, po_some, List.getElem?_cons_zero, List.getElem?_cons_succ, List.set_cons_zero, List.set_cons_succ, List.map_cons, List.map_nil, List.length_cons, List.length_nil, List.replicate, List.append_nil, List.cons_append, List.nil_append, rb_er, so_er, e_sErr, e_sTry, e_iEnumE, e_sSetIx, Bool.not_true, Bool.not_false, Bool.false_eq_true, Bool.true_and, Bool.false_and, Bool.and_true, Bool.and_false, Bool.true_or, Bool.false_or, Bool.or_true, Bool.or_false, if_true, if_false, Option.map_some, tr_bool, int_int, add_int, sub_int, c1_, c2', hc, st]
  · rw [List.mem_map]
    constructor
    · rintro ⟨p, hp, rfl⟩
      obtain ⟨⟨t, ht⟩, hr⟩ := (h3 p).mp (m2.mem_iff.mp hp)
      exact ⟨t, p, ht, hr, rfl⟩
    · rintro ⟨t, p, ht, hr, rfl⟩
      exact ⟨p, m2.mem_iff.mpr ((h3 p).mpr ⟨⟨t, ht⟩, hr⟩), rfl⟩
theorem node_rests_er (B : Bo n R) {q : Nat} (ha : a < n) (hq : q < n) (hg : ringIn R n = true) : f_node_rests [eB n R, nd a, nd q] = er ⟨"NoEnd", none⟩ := by
  have c1_ := check_states_t B ha hq
  have c2_ := check_ends_t B
  rw [hg] at c2_
  have c2' : f_check_ends [eB n R] = er ⟨"NoEnd", none⟩ := c2_
  simp only [f_node_rests, b_node_rests, e_vVar, e_vRd, e_vC, e_v1, e_v2, e_c1, e_c2, e_l1, e_l2, e_vL, e_vB, e_vArgs0, e_vArgs, e_vTup, e_vCall, e_vIf, e_bTr, e_bNot, e_bAnd, e_bOr, e_bChain, e_iSeq, e_iRange1, e_iRange2, e_vCut, e_vOpt0, e_vOpt, e_sNx, e_sBk, e_sCt, e_sSeq, e_sSet, e_sOwn, e_sPut, e_sFreeze, e_sRet, e_sExpr, e_sIf, e_sApp, e_sPar, e_sFor, runD, slots, so_ok, rb_ok, rb_none, so_none, po_some, List.getElem?_cons_zero, List.getElem?_cons_succ, List.set_cons_zero, List.set_cons_succ, List.map_cons, List.map_nil, List.length_cons, List.length_nil, List.replicate, List.append_nil, List.cons_append, List.nil_append, rb_er, so_er, e_sErr, e_sTry, e_iEnumE, e_sSetIx, Bool.not_true, Bool.not_false, Bool.false_eq_true, Bool.true_and, Bool.false_and, Bool.and_true, Bool.and_false, Bool.true_or, Bool.false_or, Bool.or_true, Bool.or_false, if_true, if_false, Option.map_some, tr_bool, int_int, add_int, sub_int, c1_, c2']
end
end K24
namespace K24
open PySem DL
section
variable {n a : Nat} {R : List Rl}
theorem goW_snoc (x : D) : ∀ (xs : List D) (k q : Nat), goW R a k (xs ++ [x]) q = (match goW R a k xs q with
    | .ok z => if wtak R a z x = true then .ok (ruleOf R x).w else .error (k + xs.length)
    | .error p => .error p)
  | [], k, q => by
    rw [List.nil_append, goW_cons]
    rfl
  | y :: xs, k, q => by
    rw [List.cons_append, goW_cons, goW_cons]
    split
    · rw [goW_snoc x xs (k + 1)]
      rw [List.length_cons, show k + 1 + xs.length = k + (xs.length + 1) by omega]
    · rfl
theorem w_two_eq {a q b p : Nat} : cEq (.tuple [nd b, nd p]) (.tuple [nd a, nd q]) = some (b == a && p == q) := by
  have sh : ∀ b p : Nat, SeqAt.shaped (.tuple [nd b, nd p]) = true := fun b p => shaped_of (n := 1) rfl
  show eqS _ _ = _
  unfold eqS
  rw [if_pos (by rw [sh, sh]; rfl)]
  have e : ∀ i j : Nat, (((i : Nat) : Int) == ((j : Nat) : Int)) = (i == j) := fun i j => by
    rw [Bool.eq_iff_iff, beq_iff_eq, beq_iff_eq]
    omega
  show some ((((b : Nat) : Int) == ((a : Nat) : Int)) && ((((p : Nat) : Int) == ((q : Nat) : Int)) && true)) = _
  rw [e, e, Bool.and_true]
theorem w_cut {r : Rl} : dCut none (some 2) (eR r) = some (.tuple [nd r.a, nd r.o]) := rfl
theorem w_fitK {a q k : Nat} {r : Rl} (h : R[k]? = some r) : fitK R a q k = (r.a == a && r.o == q) := by unfold fitK; rw [h]
theorem w_last (xs : List Nat) (k : Nat) : dIx (.list (ndl (xs ++ [k]))) (.int (-1)) = some (nd k) := by
  show atD _ _ = _
  unfold atD
  have e : ixAt (ndl (xs ++ [k])).length (-1) = some xs.length := by
    rw [List.length_map, List.length_append, List.length_cons, List.length_nil]
    unfold ixAt
    rw [if_neg (by omega), if_pos (by omega)]
    congr 1
    omega
  rw [e]
  dsimp only
  rw [List.getElem?_map, List.getElem?_append_right (Nat.le_refl _), Nat.sub_self]
  rfl
theorem w_can (B : Bo n R) (z : Nat) (s2 s3 s5 s6 s7 s8 : Slot) : lComp (iRange1 (v1 dLen (v2 dIx (vVar 0) (vC (.int 1))))) (.one 8) (c2 cEq (vCut (v2 dIx (v2 dIx (vVar 0) (vC (.int 1))) (vVar 8)) none (some (vC (.int 2)))) (vTup [(vVar 1), (vVar 4)])) (vVar 8) [.d (eB n R), .d (nd a), s2, s3, .d (nd z), s5, s6, s7, s8] = ok (ndl (fitL R a z)) := by
  have hR : R.length ≤ lim := by have := B.len; have := big; omega
  have hr2 : rng1 (.int ((R.map eR).length : Nat)) = some (rng 0 R.length) := by rw [List.length_map]; exact rng1_nat hR
  have h := lcomp_filter (it := iRange1 (v1 dLen (v2 dIx (vVar 0) (vC (.int 1))))) (i := 8) (t := c2 cEq (vCut (v2 dIx (v2 dIx (vVar 0) (vC (.int 1))) (vVar 8)) none (some (vC (.int 2)))) (vTup [(vVar 1), (vVar 4)])) (e := vVar 8) (r := [.d (eB n R), .d (nd a), s2, s3, .d (nd z), s5, s6, s7, s8]) (xs := rng 0 R.length) (fun d => match d with | .int k => fitK R a z k.toNat | _ => false) id
    (by simp only [e_vVar, e_vRd, e_vC, e_v1, e_v2, e_c1, e_c2, e_l1, e_l2, e_vL, e_vB, e_vArgs0, e_vArgs, e_vTup, e_vCall, e_vIf, e_bTr, e_bNot, e_bAnd, e_bOr, e_bChain, e_iSeq, e_iRange1, e_iRange2, e_vCut, e_vOpt0, e_vOpt, e_sNx, e_sBk, e_sCt, e_sSeq, e_sSet, e_sOwn, e_sPut, e_sFreeze, e_sRet, e_sExpr, e_sIf, e_sApp, e_sPar, e_sFor, runD, slots, so_ok, rb_ok, rb_none, so_none, po_some, List.getElem?_cons_zero, List.getElem?_cons_succ, List.set_cons_zero, List.set_cons_succ, List.map_cons, List.map_nil, List.length_cons, List.length_nil, List.replicate, List.append_nil, List.cons_append, List.nil_append, rb_er, so_er, e_sErr, e_sTry, e_iEnumE, e_sSetIx, Bool.not_true, Bool.not_false, Bool.false_eq_true, Bool.true_and, Bool.false_and, Bool.and_true, Bool.and_false, Bool.true_or, Bool.false_or, Bool.or_true, Bool.or_false, if_true, if_false, Option.map_some, tr_bool, int_int, add_int, sub_int, x1b, len_tup, hr2]) (by rw [rng_size]; exact hR) (fun x hx => by
      obtain ⟨k, hk, rfl⟩ := rng_mem hx
      have er := List.getElem?_eq_getElem hk
      simp only [Int.toNat_natCast]
      rw [w_fitK er]
      simp only [e_vVar, e_vRd, e_vC, e_v1, e_v2, e_c1, e_c2, e_l1, e_l2, e_vL, e_vB, e_vArgs0, e_vArgs, e_vTup, e_vCall, e_vIf, e_bTr, e_bNot, e_bAnd, e_bOr, e_bChain, e_iSeq, e_iRange1, e_iRange2, e_vCut, e_vOpt0, e_vOpt, e_sNx, e_sBk, e_sCt, e_sSeq, e_sSet, e_sOwn, e_sPut, e_sFreeze, e_sRet, e_sExpr, e_sIf, e_sApp, e_sPar, e_sFor, runD, slots, so_ok, rb_ok, rb_none, so_none, po_some, List.getElem?_cons_zero, List.getElem?_cons_succ, List.set_cons_zero, List.set_cons_succ, List.map_cons, List.map_nil, List.length_cons, List.length_nil, List.replicate, List.append_nil, List.cons_append, List.nil_append, rb_er, so_er, e_sErr, e_sTry, e_iEnumE, e_sSetIx, Bool.not_true, Bool.not_false, Bool.false_eq_true, Bool.true_and, Bool.false_and, Bool.and_true, Bool.and_false, Bool.true_or, Bool.false_or, Bool.or_true, Bool.or_false, if_true, if_false, Option.map_some, tr_bool, int_int, add_int, sub_int, x1b, xrule er, w_cut, w_two_eq]) (fun x hx _ => rfl)
  rw [h, List.map_id, rng_ndl, List.filter_map]
  congr 1
theorem w_rank (B : Bo n R) (h : ringIn R n = false) {q : Nat} (ha : a < n) (hq : q < n) : (rk R a n n).getD q 0 < n := by
  have h1 := List.any_eq_false.mp h a (List.mem_range.mpr ha)
  have h2 : ringAt R n a = false := by simpa using h1
  have h3 := List.any_eq_false.mp h2 _ (getD_mem (qs := rk R a n n) (j := q) (by rw [rk_len]; exact hq))
  have h4 := rk_le (a := a) B n q hq
  have h5 : (rk R a n n).getD q 0 ≠ n := fun e => h3 (by rw [e]; simp)
  omega
/-- a drawn way that goes on until no rule can fire -/
theorem whole_t (B : Bo n R) (hg : ringIn R n = false) {q : Nat} (ha : a < n) (hq : q < n) (x : Int) : ∃ (ks : List Nat) (z : Nat), f_law_whole_way [eB n R, nd a, nd q, .int x] = ok (.list (ndl ks)) ∧ goW R a 0 (ndl ks) q = .ok z ∧ fitL R a z = [] ∧ ks.length ≤ n := by
  have lb := big
  have hn4 := B.n4
  have rg : rng1 (nd n) = some (rng 0 n) := rng1_nat (by omega)
  have e9 : slots 9 [eB n R, nd a, nd q, .int x] = [.d (eB n R), .d (nd a), .d (nd q), .d (.int x), .un, .un, .un, .un, .un] := rfl
  suffices hb : ∃ (ks : List Nat) (z : Nat), b_law_whole_way (slots 9 [eB n R, nd a, nd q, .int x]) = some (.rt (.list (ndl ks))) ∧ goW R a 0 (ndl ks) q = .ok z ∧ fitL R a z = [] ∧ ks.length ≤ n by
    obtain ⟨ks, z, h1, h2⟩ := hb
    exact ⟨ks, z, by simp only [f_law_whole_way, runD, h1, List.length_cons, List.length_nil, if_true], h2⟩
  rw [b_law_whole_way, e9, e_sSeq]
  simp only [e_vVar, e_vRd, e_vC, e_v1, e_v2, e_c1, e_c2, e_l1, e_l2, e_vL, e_vB, e_vArgs0, e_vArgs, e_vTup, e_vCall, e_vIf, e_bTr, e_bNot, e_bAnd, e_bOr, e_bChain, e_iSeq, e_iRange1, e_iRange2, e_vCut, e_vOpt0, e_vOpt, e_sNx, e_sBk, e_sCt, e_sSeq, e_sSet, e_sOwn, e_sPut, e_sFreeze, e_sRet, e_sExpr, e_sIf, e_sApp, e_sPar, e_sFor, runD, slots, so_ok, rb_ok, rb_none, so_none, po_some, List.getElem?_cons_zero, List.getElem?_cons_succ, List.set_cons_zero, List.set_cons_succ, List.map_cons, List.map_nil, List.length_cons, List.length_nil, List.replicate, List.append_nil, List.cons_append, List.nil_append, rb_er, so_er, e_sErr, e_sTry, e_iEnumE, e_sSetIx, Bool.not_true, Bool.not_false, Bool.false_eq_true, Bool.true_and, Bool.false_and, Bool.and_true, Bool.and_false, Bool.true_or, Bool.false_or, Bool.or_true, Bool.or_false, if_true, if_false, Option.map_some, tr_bool, int_int, add_int, sub_int, x0b, rg]
  generalize hL : loopF _ _ _ _ = L
  obtain ⟨r', rfl, ks, z, y, s6, s7, s8, rfl, h1, h2, h3, h4, h5⟩ := loop_out hL (fun j e => ∃ (ks : List Nat) (z : Nat) (y : Int) (s6 s7 s8 : Slot), e = [.d (eB n R), .d (nd a), .d (nd q), .d (.int y), .d (nd z), .own (ndl ks), s6, s7, s8] ∧ goW R a 0 (ndl ks) q = .ok z ∧ z < n ∧ ks.length ≤ j ∧ (fitL R a z = [] ∨ ks.length = j) ∧ ks.length + (rk R a n n).getD z 0 ≤ (rk R a n n).getD q 0)
    ⟨[], q, x, _, _, _, rfl, rfl, hq, Nat.le_refl _, .inr rfl, by show 0 + _ ≤ _; omega⟩ (by
    rintro j w e hy ⟨ks, z, y, s6, s7, s8, rfl, h1, h2, h3, h4, h5⟩
    have hj := (List.getElem?_eq_some_iff.mp hy).1
    rw [rng_size] at hj
    have hc := w_can (a := a) B z (.d (nd q)) (.d (.int y)) (.own (ndl ks)) (.d w) s7 s8
    have q1 := ne_nil (ndl (fitL R a z))
    cases hf : fitL R a z with
    | nil =>
      rw [hf] at q1 hc
      have q2 : cNe (.list (ndl [])) (.list []) = some false := q1
      refine ⟨_, [.d (eB n R), .d (nd a), .d (nd q), .d (.int y), .d (nd z), .own (ndl ks), .d w, .d (.list (ndl [])), s8], rfl, ?_, _, _, _, _, _, _, rfl, h1, h2, by omega, .inl hf, h5⟩
      generalize ndl [] = F at hc q2
      simp only [e_vVar, e_vRd, e_vC, e_v1, e_v2, e_c1, e_c2, e_l1, e_l2, e_vL, e_vB, e_vArgs0, e_vArgs, e_vTup, e_vCall, e_vIf, e_bTr, e_bNot, e_bAnd, e_bOr, e_bChain, e_iSeq, e_iRange1, e_iRange2, e_vCut, e_vOpt0, e_vOpt, e_sNx, e_sBk, e_sCt, e_sSeq, e_sSet, e_sOwn, e_sPut, e_sFreeze, e_sRet, e_sExpr, e_sIf, e_sApp, e_sPar, e_sFor, runD, slots, so_ok, rb_ok, rb_none, so_none, po_some, List.getElem?_cons_zero, List.getElem?_cons_succ, List.set_cons_zero, List.set_cons_succ, List.map_cons, List.map_nil, List.length_cons, List.length_nil, List.replicate, List.append_nil, List.cons_append, List.nil_append, rb_er, so_er, e_sErr, e_sTry, e_iEnumE, e_sSetIx, Bool.not_true, Bool.not_false, Bool.false_eq_true, Bool.true_and, Bool.false_and, Bool.and_true, Bool.and_false, Bool.true_or, Bool.false_or, Bool.or_true, Bool.or_false, if_true, if_false, Option.map_some, tr_bool, int_int, add_int, sub_int, hc, q2]
    | cons k0 fs =>
      have q2 : cNe (.list (ndl (fitL R a z))) (.list []) = some true := by rw [q1, hf]; rfl
      have hpos : 0 < (fitL R a z).length := by rw [hf]; exact Nat.zero_lt_succ _
      have hp' : (0 : Int) < ((fitL R a z).length : Nat) := by omega
      have w1 := Int.emod_nonneg y (Int.ne_of_gt hp')
      have w2 := Int.emod_lt_of_pos y hp'
      obtain ⟨v, hv⟩ : ∃ v : Nat, y % ((fitL R a z).length : Nat) = (v : Nat) := ⟨(y % ((fitL R a z).length : Nat)).toNat, by omega⟩
      have hvl : v < (fitL R a z).length := by omega
      have em := List.getElem?_eq_getElem hvl
      have hmem := List.getElem_mem hvl
      generalize (fitL R a z)[v] = k at em hmem
      have fk : fitK R a z k = true := (List.mem_filter.mp hmem).2
      obtain ⟨r, er, hk, ra, ro⟩ := fitK_lt fk
      have m1 := mod_int y _ hp'
      rw [hv] at m1
      have ix : dIx (.list (ndl (fitL R a z))) (.int (v : Nat)) = some (nd k) := by rw [ix_ndl, em]; rfl
      have ll : dLen (.list (ndl (fitL R a z))) = some (.int ((fitL R a z).length : Nat)) := by rw [len_list, List.length_map]
      have lst := w_last ks k
      have lt : (ndl ks).length < lim := by rw [List.length_map]; omega
      have fl := falls B hg (List.mem_of_getElem? er)
      rw [ra, ro] at fl
      have o := B.at er
      refine ⟨_, [.d (eB n R), .d (nd a), .d (nd q), .d (.int (y / 7)), .d (nd r.w), .own (ndl (ks ++ [k])), .d w, .d (.list (ndl (fitL R a z))), s8], rfl, ?_, _, _, _, _, _, _, rfl, ?_, o.w, ?_, ?_, ?_⟩
      · rw [ndl_snoc] at lst ⊢
        generalize ndl ks = K1 at hc lt lst ⊢
        generalize ndl (fitL R a z) = F at hc q2 ix ll ⊢
        simp only [e_vVar, e_vRd, e_vC, e_v1, e_v2, e_c1, e_c2, e_l1, e_l2, e_vL, e_vB, e_vArgs0, e_vArgs, e_vTup, e_vCall, e_vIf, e_bTr, e_bNot, e_bAnd, e_bOr, e_bChain, e_iSeq, e_iRange1, e_iRange2, e_vCut, e_vOpt0, e_vOpt, e_sNx, e_sBk, e_sCt, e_sSeq, e_sSet, e_sOwn, e_sPut, e_sFreeze, e_sRet, e_sExpr, e_sIf, e_sApp, e_sPar, e_sFor, runD, slots, so_ok, rb_ok, rb_none, so_none, po_some, List.getElem?_cons_zero, List.getElem?_cons_succ, List.set_cons_zero, List.set_cons_succ, List.map_cons, List.map_nil, List.replicate, List.append_nil, List.cons_append, List.nil_append, rb_er, so_er, e_sErr, e_sTry, e_iEnumE, e_sSetIx, Bool.not_true, Bool.not_false, Bool.false_eq_true, Bool.true_and, Bool.false_and, Bool.and_true, Bool.and_false, Bool.true_or, Bool.false_or, Bool.or_true, Bool.or_false, if_true, if_false, Option.map_some, tr_bool, int_int, add_int, sub_int, hc, q2, ll, m1, ix, lt, div_int _ 7 (by decide) (by decide), x1b, neg_1, lst, xrule er, x2r]
      · rw [ndl_snoc, goW_snoc, h1]
        dsimp only
        rw [wtak_nd, if_pos fk, ruleOf_nd er]
      · rw [List.length_append, List.length_cons, List.length_nil]
        omega
      · rcases h4 with h4 | h4
        · rw [hf] at h4; cases h4
        · exact .inr (by rw [List.length_append, List.length_cons, List.length_nil, h4])
      · rw [List.length_append, List.length_cons, List.length_nil]
        omega)
  rw [rng_size] at h3 h4
  refine ⟨ks, z, by simp only [e_vVar, e_vRd, e_vC, e_v1, e_v2, e_c1, e_c2, e_l1, e_l2, e_vL, e_vB, e_vArgs0, e_vArgs, e_vTup, e_vCall, e_vIf, e_bTr, e_bNot, e_bAnd, e_bOr, e_bChain, e_iSeq, e_iRange1, e_iRange2, e_vCut, e_vOpt0, e_vOpt, e_sNx, e_sBk, e_sCt, e_sSeq, e_sSet, e_sOwn, e_sPut, e_sFreeze, e_sRet, e_sExpr, e_sIf, e_sApp, e_sPar, e_sFor, runD, slots, so_ok, rb_ok, rb_none, so_none, po_some, List.getElem?_cons_zero, List.getElem?_cons_succ, List.set_cons_zero, List.set_cons_succ, List.map_cons, List.map_nil, List.length_cons, List.length_nil, List.replicate, List.append_nil, List.cons_append, List.nil_append, rb_er, so_er, e_sErr, e_sTry, e_iEnumE, e_sSetIx, Bool.not_true, Bool.not_false, Bool.false_eq_true, Bool.true_and, Bool.false_and, Bool.and_true, Bool.and_false, Bool.true_or, Bool.false_or, Bool.or_true, Bool.or_false, if_true, if_false, Option.map_some, tr_bool, int_int, add_int, sub_int, frz], h1, ?_, h3⟩
  rcases h4 with h4 | h4
  · exact h4
  · have := w_rank B hg ha hq
    omega
/-! ### a way to each pair that is met -/
theorem sgW_snoc (x : D) : ∀ (xs : List D) (g : List Nat), sgW R (xs ++ [x]) g = (sgW R xs g).map fun s => (ruleOf R x).sg.getD s 0
  | [], g => rfl
  | y :: xs, g => by
    show sgW R (xs ++ [x]) _ = _
    rw [sgW_snoc x xs]
    rfl
/-- the way ks leads from (q, c) to p -/
def Leads (n : Nat) (R : List Rl) (a q c : Nat) (ks : List Nat) (p : Pr) : Prop := goW R a 0 (ndl ks) q = .ok p.1 ∧ (sgW R (ndl ks) (List.range n))[c]? = some p.2
theorem leads_nil {q c : Nat} (hc : c < n) : Leads n R a q c [] (q, c) := ⟨rfl, by show (List.range n)[c]? = _; rw [List.getElem?_range hc]⟩
theorem leads_snoc {q c : Nat} {ks : List Nat} {p : Pr} {k : Nat} (h : Leads n R a q c ks p) (hk : fitK R a p.1 k = true) : Leads n R a q c (ks ++ [k]) (nxP R p k) := by
  obtain ⟨r, er, _, ra, ro⟩ := fitK_lt hk
  have ex : nxP R p k = (r.w, r.sg.getD p.2 0) := by unfold nxP; rw [er]
  rw [ex]
  constructor
  · rw [ndl_snoc, goW_snoc, h.1]
    dsimp only
    rw [wtak_nd, if_pos hk, ruleOf_nd er]
  · rw [ndl_snoc, sgW_snoc, List.getElem?_map, h.2, ruleOf_nd er]
    rfl
structure Known (n : Nat) (R : List Rl) (a q c : Nat) (m : List Pr) (W : List (List Nat)) : Prop where
  len : W.length = m.length
  way : ∀ (i : Nat) (p : Pr), m[i]? = some p → ∃ ks, W[i]? = some ks ∧ Leads n R a q c ks p ∧ ks.length ≤ 100 * i
abbrev wd (ks : List Nat) : D := .list (ndl ks)
def fitTo (R : List Rl) (a z h : Nat) : List Nat := (List.range h).filter (fitK R a z)
theorem w_notIn (M : List Pr) (p : Pr) : cNotIn (.tuple [nd p.1, nd p.2]) (.list (M.map pd)) = some (!decide (p ∈ M)) := by
  have h1 : (M.map pd).all (deepI 1) = true := List.all_eq_true.mpr fun x hx => by obtain ⟨q, _, rfl⟩ := List.mem_map.mp hx; rfl
  have h3 := shaped_of (n := 2) (d := PyData.tuple (M.map pd)) h1
  have h2 := shaped_of (n := 1) (d := PyData.tuple [nd p.1, nd p.2]) rfl
  have h3' : SeqAt.shaped (.list (M.map pd)) = true := h3
  show (if _ then _ else _) = _
  rw [if_pos (by rw [h2, h3']; rfl), List.any_map]
  congr 2
  rw [Bool.eq_iff_iff, List.any_eq_true, decide_eq_true_eq]
  constructor
  · rintro ⟨q, hq, e⟩
    have e' : ((((q.1 : Nat) : Int) == ((p.1 : Nat) : Int)) && ((((q.2 : Nat) : Int) == ((p.2 : Nat) : Int)) && true)) = true := e
    rw [Bool.and_true, Bool.and_eq_true, beq_iff_eq, beq_iff_eq] at e'
    have : q = p := Prod.ext (by omega) (by omega)
    exact this ▸ hq
  · intro hp
    refine ⟨p, hp, ?_⟩
    show ((((p.1 : Nat) : Int) == ((p.1 : Nat) : Int)) && ((((p.2 : Nat) : Int) == ((p.2 : Nat) : Int)) && true)) = true
    simp
theorem known_app {q c : Nat} {m : List Pr} {W : List (List Nat)} (h : Known n R a q c m W) {t : Nat} {p : Pr} {ks : List Nat} {k : Nat} (ht : m[t]? = some p) (hw : W[t]? = some ks) (hl : Leads n R a q c ks p) (hb : ks.length ≤ 100 * t) (hk : fitK R a p.1 k = true) : Known n R a q c (m ++ [nxP R p k]) (W ++ [ks ++ [k]]) := by
  have tl := (List.getElem?_eq_some_iff.mp ht).1
  refine ⟨by rw [List.length_append, List.length_append, h.len]; rfl, fun i x hx => ?_⟩
  by_cases c1_ : i < m.length
  · rw [List.getElem?_append_left c1_] at hx
    obtain ⟨us, u1, u2⟩ := h.way i x hx
    exact ⟨us, by rw [List.getElem?_append_left (by rw [h.len]; exact c1_)]; exact u1, u2⟩
  · have hi := (List.getElem?_eq_some_iff.mp hx).1
    rw [List.length_append, List.length_cons, List.length_nil] at hi
    have e : i = m.length := by omega
    subst e
    rw [List.getElem?_append_right (Nat.le_refl _), Nat.sub_self] at hx
    have hx : nxP R p k = x := by simpa using hx
    refine ⟨ks ++ [k], by rw [← h.len, List.getElem?_append_right (Nat.le_refl _), Nat.sub_self]; rfl, hx ▸ leads_snoc hl hk, ?_⟩
    rw [List.length_append, List.length_cons, List.length_nil]
    omega
theorem w_okn (B : Bo n R) {m : List Pr} (h1 : m.Nodup) (h2 : ∀ p ∈ m, okP n p) : m.length ≤ n * n := by
  have h3 := nodupP_le h1 fun p hp => mem_allP (h2 p hp)
  have h4 : (allP n).length ≤ n * n := by
    have n1 := B.n1
    have n4 := B.n4
    have : n = 1 ∨ n = 2 ∨ n = 3 ∨ n = 4 := by omega
    rcases this with e | e | e | e <;> subst e <;> decide
  omega
theorem w_16 (B : Bo n R) : n * n ≤ 16 := Nat.mul_le_mul B.n4 B.n4
theorem found_turn (B : Bo n R) {q c t : Nat} {m0 : List Pr} {p : Pr} (ht : m0[t]? = some p) (hn0 : m0.Nodup) (hk0 : ∀ x ∈ m0, okP n x) : ∀ (h : Nat), h ≤ R.length → ∀ (W0 : List (List Nat)), Known n R a q c m0 W0 → ∀ s7 s8 s9 : Slot,
    ∃ (W : List (List Nat)) (s7' s8' s9' : Slot), loopF (.one 7) (sSeq (sSet 8 (v2 dIx (v2 dIx (vVar 0) (vC (.int 1))) (vVar 7))) (sSeq (sSet 9 (vTup [(v2 dIx (vVar 8) (vC (.int 2))), (v2 dIx (v2 dIx (vVar 8) (vC (.int 3))) (v2 dIx (v2 dIx (vRd 4) (vVar 6)) (vC (.int 1))))])) (sIf (bAnd (c2 cEq (vCut (vVar 8) none (some (vC (.int 2)))) (vTup [(vVar 1), (v2 dIx (v2 dIx (vRd 4) (vVar 6)) (vC (.int 0)))])) (c2 cNotIn (vVar 9) (vRd 4))) (sSeq (sApp 4 (vVar 9)) (sApp 5 (v2 dAdd (v2 dIx (vRd 5) (vVar 6)) (vL (vArgs [(vVar 7)]))))) sNx))) (rng 0 h) [.d (eB n R), .d (nd a), .d (nd q), .d (nd c), .own (m0.map pd), .own (W0.map wd), .d (nd t), s7, s8, s9] = some (.nx [.d (eB n R), .d (nd a), .d (nd q), .d (nd c), .own ((((fitTo R a p.1 h).map (nxP R p)).foldl addN m0).map pd), .own (W.map wd), .d (nd t), s7', s8', s9']) ∧ Known n R a q c (((fitTo R a p.1 h).map (nxP R p)).foldl addN m0) W := by
  intro h hh W0 hw0 s7 s8 s9
  have lb := big
  have n16 := w_16 B
  have okp := hk0 p (List.mem_of_getElem? ht)
  generalize hL : loopF (.one 7) (sSeq (sSet 8 (v2 dIx (v2 dIx (vVar 0) (vC (.int 1))) (vVar 7))) (sSeq (sSet 9 (vTup [(v2 dIx (vVar 8) (vC (.int 2))), (v2 dIx (v2 dIx (vVar 8) (vC (.int 3))) (v2 dIx (v2 dIx (vRd 4) (vVar 6)) (vC (.int 1))))])) (sIf (bAnd (c2 cEq (vCut (vVar 8) none (some (vC (.int 2)))) (vTup [(vVar 1), (v2 dIx (v2 dIx (vRd 4) (vVar 6)) (vC (.int 0)))])) (c2 cNotIn (vVar 9) (vRd 4))) (sSeq (sApp 4 (vVar 9)) (sApp 5 (v2 dAdd (v2 dIx (vRd 5) (vVar 6)) (vL (vArgs [(vVar 7)]))))) sNx))) (rng 0 h) [.d (eB n R), .d (nd a), .d (nd q), .d (nd c), .own (m0.map pd), .own (W0.map wd), .d (nd t), s7, s8, s9] = L
  obtain ⟨r', rfl, W, s7', s8', s9', rfl, hw⟩ := loop_out hL (fun j e => ∃ (W : List (List Nat)) (s7 s8 s9 : Slot), e = [.d (eB n R), .d (nd a), .d (nd q), .d (nd c), .own ((((fitTo R a p.1 j).map (nxP R p)).foldl addN m0).map pd), .own (W.map wd), .d (nd t), s7, s8, s9] ∧ Known n R a q c (((fitTo R a p.1 j).map (nxP R p)).foldl addN m0) W) ⟨W0, s7, s8, s9, rfl, hw0⟩ (by
    rintro j y e hy ⟨W, s7, s8, s9, rfl, hw⟩
    have hj := (List.getElem?_eq_some_iff.mp hy).1
    rw [rng_size] at hj
    rw [rng_at 0 _ j hj] at hy
    cases hy
    rw [show (0 : Int) + (j : Nat) = (j : Nat) by omega]
    have er := List.getElem?_eq_getElem (show j < R.length by omega)
    have o := B.at er
    have fe : fitTo R a p.1 (j + 1) = fitTo R a p.1 j ++ (if fitK R a p.1 j = true then [j] else []) := by
      unfold fitTo
      rw [List.range_succ, List.filter_append]
      congr 1
      rw [List.filter_cons, List.filter_nil]
    have hm : (((fitTo R a p.1 j).map (nxP R p)).foldl addN m0)[t]? = some p := get_foldN ht
    have hn : (((fitTo R a p.1 j).map (nxP R p)).foldl addN m0).Nodup := nodup_foldN hn0
    have hk : ∀ x ∈ ((fitTo R a p.1 j).map (nxP R p)).foldl addN m0, okP n x := fun x hx => by
      rcases mem_foldN.mp hx with h | h
      · exact hk0 x h
      · obtain ⟨k, h1, rfl⟩ := List.mem_map.mp h
        have kf := (List.mem_filter.mp h1).2
        obtain ⟨r, e1, _⟩ := fitK_lt kf
        have o := B.at e1
        unfold nxP
        rw [e1]
        exact ⟨o.w, o.sg _ (getD_mem (by rw [o.len]; exact okp.2))⟩
    have hlen := w_okn B hn hk
    have en_ : (((fitTo R a p.1 (j + 1)).map (nxP R p)).foldl addN m0) = if fitK R a p.1 j = true then addN (((fitTo R a p.1 j).map (nxP R p)).foldl addN m0) (nxP R p j) else ((fitTo R a p.1 j).map (nxP R p)).foldl addN m0 := by
      rw [fe]
      split
      · rw [List.map_append, List.foldl_append]
        rfl
      · rw [List.append_nil]
    rw [en_]
    generalize ((fitTo R a p.1 j).map (nxP R p)).foldl addN m0 = m at hw hm hn hk hlen
    generalize hr : R[j]'(by omega) = r at er o
    have ex : nxP R p j = (r.w, r.sg.getD p.2 0) := by unfold nxP; rw [er]
    have fk : fitK R a p.1 j = (r.a == a && r.o == p.1) := w_fitK er
    have xr := xrule er
    have y2 := x2r (r := r)
    have y3 := x3r (r := r)
    have ct := w_cut (r := r)
    have xm : dIx (.list (m.map pd)) (nd t) = some (pd p) := by rw [ixl, List.getElem?_map, hm]; rfl
    have p0 : dIx (pd p) (.int 0) = some (nd p.1) := ixt [nd p.1, nd p.2] 0
    have p1 : dIx (pd p) (.int 1) = some (nd p.2) := ixt [nd p.1, nd p.2] 1
    have x8 : dIx (.tuple (ndl r.sg)) (nd p.2) = some (nd (r.sg.getD p.2 0)) := by rw [ix_ndt, get_nat (by rw [o.len]; exact okp.2)]; rfl
    have te := w_two_eq (a := a) (q := p.1) (b := r.a) (p := r.o)
    rw [← fk] at te
    have ni : cNotIn (.tuple [nd r.w, nd (r.sg.getD p.2 0)]) (.list (m.map pd)) = some (!decide (nxP R p j ∈ m)) := by rw [ex]; exact w_notIn m (r.w, r.sg.getD p.2 0)
    obtain ⟨ks, k1, k2, k3⟩ := hw.way t p hm
    have xw : dIx (.list (W.map wd)) (nd t) = some (wd ks) := by rw [ixl, List.getElem?_map, k1]; rfl
    have tl := (List.getElem?_eq_some_iff.mp hm).1
    have ad : dAdd (wd ks) (.list [nd j]) = some (wd (ks ++ [j])) := by
      show dAdd (.list _) (.list _) = _
      rw [add_list _ _ (by rw [List.length_append, List.length_map, List.length_cons, List.length_nil]; omega)]
      exact congrArg some (congrArg PyData.list (ndl_snoc ks j).symm)
    have l4 : (m.map pd).length < lim := by rw [List.length_map]; omega
    have l5 : (W.map wd).length < lim := by rw [List.length_map, hw.len]; omega
    by_cases c1_ : fitK R a p.1 j = true
    · rw [if_pos c1_]
      rw [c1_] at te
      by_cases c2_ : nxP R p j ∈ m
      · rw [decide_eq_true c2_] at ni
        rw [show addN m (nxP R p j) = m from if_pos c2_]
        refine ⟨_, [.d (eB n R), .d (nd a), .d (nd q), .d (nd c), .own (m.map pd), .own (W.map wd), .d (nd t), .d (nd j), .d (eR r), .d (.tuple [nd r.w, nd (r.sg.getD p.2 0)])], rfl, ?_, _, _, _, _, rfl, hw⟩
        generalize eR r = er_ at xr y2 y3 ct
        generalize m.map pd = MD at xm ni
        generalize W.map wd = WD at xw
        generalize pd p = P at xm p0 p1
        simp only [e_vVar, e_vRd, e_vC, e_v1, e_v2, e_c1, e_c2, e_l1, e_l2, e_vL, e_vB, e_vArgs0, e_vArgs, e_vTup, e_vCall, e_vIf, e_bTr, e_bNot, e_bAnd, e_bOr, e_bChain, e_iSeq, e_iRange1, e_iRange2, e_vCut, e_vOpt0, e_vOpt, e_sNx, e_sBk, e_sCt, e_sSeq, e_sSet, e_sOwn, e_sPut, e_sFreeze, e_sRet, e_sExpr, e_sIf, e_sApp, e_sPar, e_sFor, runD, slots, so_ok, rb_ok, rb_none, so_none, po_some, List.getElem?_cons_zero, List.getElem?_cons_succ, List.set_cons_zero, List.set_cons_succ, List.map_cons, List.map_nil, List.length_cons, List.length_nil, List.replicate, List.append_nil, List.cons_append, List.nil_append, rb_er, so_er, e_sErr, e_sTry, e_iEnumE, e_sSetIx, Bool.not_true, Bool.not_false, Bool.false_eq_true, Bool.true_and, Bool.false_and, Bool.and_true, Bool.and_false, Bool.true_or, Bool.false_or, Bool.or_true, Bool.or_false, if_true, if_false, Option.map_some, tr_bool, int_int, add_int, sub_int, x1b, xr, y2, y3, ct, xm, p0, p1, x8, te, ni]
      · rw [decide_eq_false c2_] at ni
        rw [show addN m (nxP R p j) = m ++ [nxP R p j] from if_neg c2_]
        have em : (m ++ [nxP R p j]).map pd = m.map pd ++ [.tuple [nd r.w, nd (r.sg.getD p.2 0)]] := by rw [List.map_append, ex]; rfl
        have ew : (W ++ [ks ++ [j]]).map wd = W.map wd ++ [wd (ks ++ [j])] := List.map_append
        refine ⟨_, [.d (eB n R), .d (nd a), .d (nd q), .d (nd c), .own ((m ++ [nxP R p j]).map pd), .own ((W ++ [ks ++ [j]]).map wd), .d (nd t), .d (nd j), .d (eR r), .d (.tuple [nd r.w, nd (r.sg.getD p.2 0)])], rfl, ?_, _, _, _, _, rfl, known_app hw hm k1 k2 k3 c1_⟩
        rw [em, ew]
        generalize eR r = er_ at xr y2 y3 ct
        generalize m.map pd = MD at xm ni l4
        generalize W.map wd = WD at xw l5
        generalize wd (ks ++ [j]) = w2 at ad
        generalize wd ks = w1 at ad xw
        generalize pd p = P at xm p0 p1
        simp only [e_vVar, e_vRd, e_vC, e_v1, e_v2, e_c1, e_c2, e_l1, e_l2, e_vL, e_vB, e_vArgs0, e_vArgs, e_vTup, e_vCall, e_vIf, e_bTr, e_bNot, e_bAnd, e_bOr, e_bChain, e_iSeq, e_iRange1, e_iRange2, e_vCut, e_vOpt0, e_vOpt, e_sNx, e_sBk, e_sCt, e_sSeq, e_sSet, e_sOwn, e_sPut, e_sFreeze, e_sRet, e_sExpr, e_sIf, e_sApp, e_sPar, e_sFor, runD, slots, so_ok, rb_ok, rb_none, so_none, po_some, List.getElem?_cons_zero, List.getElem?_cons_succ, List.set_cons_zero, List.set_cons_succ, List.map_cons, List.map_nil, List.length_cons, List.length_nil, List.replicate, List.append_nil, List.cons_append, List.nil_append, rb_er, so_er, e_sErr, e_sTry, e_iEnumE, e_sSetIx, Bool.not_true, Bool.not_false, Bool.false_eq_true, Bool.true_and, Bool.false_and, Bool.and_true, Bool.and_false, Bool.true_or, Bool.false_or, Bool.or_true, Bool.or_false, if_true, if_false, Option.map_some, tr_bool, int_int, add_int, sub_int, x1b, xr, y2, y3, ct, xm, p0, p1, x8, te, ni, l4, l5, xw, ad]
    · rw [if_neg c1_]
      rw [Bool.not_eq_true] at c1_
      rw [c1_] at te
      refine ⟨_, [.d (eB n R), .d (nd a), .d (nd q), .d (nd c), .own (m.map pd), .own (W.map wd), .d (nd t), .d (nd j), .d (eR r), .d (.tuple [nd r.w, nd (r.sg.getD p.2 0)])], rfl, ?_, _, _, _, _, rfl, hw⟩
      generalize eR r = er_ at xr y2 y3 ct
      generalize m.map pd = MD at xm ni
      generalize W.map wd = WD at xw
      generalize pd p = P at xm p0 p1
      simp only [e_vVar, e_vRd, e_vC, e_v1, e_v2, e_c1, e_c2, e_l1, e_l2, e_vL, e_vB, e_vArgs0, e_vArgs, e_vTup, e_vCall, e_vIf, e_bTr, e_bNot, e_bAnd, e_bOr, e_bChain, e_iSeq, e_iRange1, e_iRange2, e_vCut, e_vOpt0, e_vOpt, e_sNx, e_sBk, e_sCt, e_sSeq, e_sSet, e_sOwn, e_sPut, e_sFreeze, e_sRet, e_sExpr, e_sIf, e_sApp, e_sPar, e_sFor, runD, slots, so_ok, rb_ok, rb_none, so_none, po_some, List.getElem?_cons_zero, List.getElem?_cons_succ, List.set_cons_zero, List.set_cons_succ, List.map_cons, List.map_nil, List.length_cons, List.length_nil, List.replicate, List.append_nil, List.cons_append, List.nil_append, rb_er, so_er, e_sErr, e_sTry, e_iEnumE, e_sSetIx, Bool.not_true, Bool.not_false, Bool.false_eq_true, Bool.true_and, Bool.false_and, Bool.and_true, Bool.and_false, Bool.true_or, Bool.false_or, Bool.or_true, Bool.or_false, if_true, if_false, Option.map_some, tr_bool, int_int, add_int, sub_int, x1b, xr, y2, y3, ct, xm, p0, p1, x8, te])
  rw [rng_size] at hw ⊢
  exact ⟨W, s7', s8', s9', rfl, hw⟩
theorem found_t (B : Bo n R) {q c : Nat} (ha : a < n) (hq : q < n) (hc : c < n) : ∃ (M : List Pr) (W : List (List Nat)), f_law_found_ways [eB n R, nd a, nd q, nd c] = ok (.tuple [.list (M.map pd), .list (W.map wd)]) ∧ Known n R a q c M W ∧ M.Nodup ∧ (∀ x ∈ M, okP n x) ∧ (∀ (t : Nat) (p : Pr), Rch R a (q, c) t p → p ∈ M) := by
  have lb := big
  have n16 := w_16 B
  have hs : okP n (q, c) := ⟨hq, hc⟩
  have okm : ∀ j, ∀ x ∈ metB R a (q, c) j, okP n x := fun j x hx => ok_metB B hs hx
  have few : ∀ j, (metB R a (q, c) j).length ≤ n * n := fun j => w_okn B (nodup_metB j) (okm j)
  have mm : dMul (nd n) (nd n) = some (nd (n * n)) := by
    rw [mulL _ _ (small_of _ (by omega) (by have := B.n4; omega))]
    show some (PyData.int _) = some (.int _)
    rw [Int.natCast_mul]
  have rg : rng1 (nd (n * n)) = some (rng 0 (n * n)) := rng1_nat (by omega)
  have rgR : rng1 (.int ((R.map eR).length : Nat)) = some (rng 0 R.length) := by rw [List.length_map]; exact rng1_nat (by have := B.len; omega)
  have e10 : slots 10 [eB n R, nd a, nd q, nd c] = [.d (eB n R), .d (nd a), .d (nd q), .d (nd c), .un, .un, .un, .un, .un, .un] := rfl
  suffices hb : ∃ (M : List Pr) (W : List (List Nat)), b_law_found_ways (slots 10 [eB n R, nd a, nd q, nd c]) = some (.rt (.tuple [.list (M.map pd), .list (W.map wd)])) ∧ Known n R a q c M W ∧ M.Nodup ∧ (∀ x ∈ M, okP n x) ∧ (∀ (t : Nat) (p : Pr), Rch R a (q, c) t p → p ∈ M) by
    obtain ⟨M, W, h1, h2⟩ := hb
    exact ⟨M, W, by simp only [f_law_found_ways, runD, h1, List.length_cons, List.length_nil, if_true], h2⟩
  rw [b_law_found_ways, e10, e_sSeq]
  have d1 : sOwn 4 (vArgs [(vTup [(vVar 2), (vVar 3)])]) [.d (eB n R), .d (nd a), .d (nd q), .d (nd c), .un, .un, .un, .un, .un, .un] = some (.nx [.d (eB n R), .d (nd a), .d (nd q), .d (nd c), .own [pd (q, c)], .un, .un, .un, .un, .un]) := rfl
  rw [d1]
  dsimp only
  have d2 : sOwn 5 (vArgs [(vL (vArgs []))]) [.d (eB n R), .d (nd a), .d (nd q), .d (nd c), .own [pd (q, c)], .un, .un, .un, .un, .un] = some (.nx [.d (eB n R), .d (nd a), .d (nd q), .d (nd c), .own [pd (q, c)], .own [wd []], .un, .un, .un, .un]) := rfl
  rw [e_sSeq, d2]
  dsimp only
  rw [e_sSeq, e_sFor]
  have it : iRange1 (v2 dMul (v2 dIx (vVar 0) (vC (.int 0))) (v2 dIx (vVar 0) (vC (.int 0)))) [.d (eB n R), .d (nd a), .d (nd q), .d (nd c), .own [pd (q, c)], .own [wd []], .un, .un, .un, .un] = ok (rng 0 (n * n)) := by
    simp only [e_vVar, e_vRd, e_vC, e_v1, e_v2, e_c1, e_c2, e_l1, e_l2, e_vL, e_vB, e_vArgs0, e_vArgs, e_vTup, e_vCall, e_vIf, e_bTr, e_bNot, e_bAnd, e_bOr, e_bChain, e_iSeq, e_iRange1, e_iRange2, e_vCut, e_vOpt0, e_vOpt, e_sNx, e_sBk, e_sCt, e_sSeq, e_sSet, e_sOwn, e_sPut, e_sFreeze, e_sRet, e_sExpr, e_sIf, e_sApp, e_sPar, e_sFor, runD, slots, so_ok, rb_ok, rb_none, so_none, po_some, List.getElem?_cons_zero, List.getElem?_cons_succ, List.set_cons_zero, List.set_cons_succ, List.map_cons, List.map_nil, List.length_cons, List.length_nil, List.replicate, List.append_nil, List.cons_append, List.nil_append, rb_er, so_er, e_sErr, e_sTry, e_iEnumE, e_sSetIx, Bool.not_true, Bool.not_false, Bool.false_eq_true, Bool.true_and, Bool.false_and, Bool.and_true, Bool.and_false, Bool.true_or, Bool.false_or, Bool.or_true, Bool.or_false, if_true, if_false, Option.map_some, tr_bool, int_int, add_int, sub_int, x0b, mm, rg]
  rw [it, so_ok]
  generalize hL : loopF _ _ _ _ = L
  obtain ⟨r', rfl, W, s6, s7, s8, s9, rfl, hw⟩ := loop_out hL (fun j e => ∃ (W : List (List Nat)) (s6 s7 s8 s9 : Slot), e = [.d (eB n R), .d (nd a), .d (nd q), .d (nd c), .own ((metB R a (q, c) j).map pd), .own (W.map wd), s6, s7, s8, s9] ∧ Known n R a q c (metB R a (q, c) j) W) ⟨[[]], _, _, _, _, rfl, ⟨rfl, fun i p hp => by
      have h0 : [(q, c)][i]? = some p := hp
      cases i with
      | zero =>
        have e : (q, c) = p := by simpa using h0
        subst e
        exact ⟨[], rfl, leads_nil hc, Nat.le_refl _⟩
      | succ i => simp at h0⟩⟩ (by
    rintro j y e hy ⟨W, s6, s7, s8, s9, rfl, hw⟩
    have hj := (List.getElem?_eq_some_iff.mp hy).1
    rw [rng_size] at hj
    rw [rng_at 0 _ j hj] at hy
    cases hy
    rw [show (0 : Int) + (j : Nat) = (j : Nat) by omega]
    have ll : dLen (.list ((metB R a (q, c) j).map pd)) = some (.int ((metB R a (q, c) j).length : Nat)) := by rw [len_list, List.length_map]
    by_cases c1_ : j < (metB R a (q, c) j).length
    · have lt1 : cLt (nd j) (.int ((metB R a (q, c) j).length : Nat)) = some true := by rw [lt_int, decide_eq_true (by omega)]
      have eg := List.getElem?_eq_getElem c1_
      generalize (metB R a (q, c) j)[j] = p at eg
      obtain ⟨W1, t7, t8, t9, w1, w2⟩ := found_turn B eg (nodup_metB j) (okm j) R.length (Nat.le_refl _) W hw s7 s8 s9
      have em : metB R a (q, c) (j + 1) = ((fitTo R a p.1 R.length).map (nxP R p)).foldl addN (metB R a (q, c) j) := by rw [metB, eg]; rfl
      rw [← em] at w1 w2
      refine ⟨_, [.d (eB n R), .d (nd a), .d (nd q), .d (nd c), .own ((metB R a (q, c) (j + 1)).map pd), .own (W1.map wd), .d (nd j), t7, t8, t9], rfl, ?_, W1, _, _, _, _, rfl, w2⟩
      generalize (metB R a (q, c) (j + 1)).map pd = MD1 at w1
      generalize (metB R a (q, c) j).map pd = MD at ll w1
      simp only [e_vVar, e_vRd, e_vC, e_v1, e_v2, e_c1, e_c2, e_l1, e_l2, e_vL, e_vB, e_vArgs0, e_vArgs, e_vTup, e_vCall, e_vIf, e_bTr, e_bNot, e_bAnd, e_bOr, e_bChain, e_iSeq, e_iRange1, e_iRange2, e_vCut, e_vOpt0, e_vOpt, e_sNx, e_sBk, e_sCt, e_sSeq, e_sSet, e_sOwn, e_sPut, e_sFreeze, e_sRet, e_sExpr, e_sIf, e_sApp, e_sPar, e_sFor, runD, slots, so_ok, rb_ok, rb_none, so_none, po_some, List.getElem?_cons_zero, List.getElem?_cons_succ, List.set_cons_zero, List.set_cons_succ, List.map_cons, List.map_nil, List.length_cons, List.length_nil, List.replicate, List.append_nil, List.cons_append, List.nil_append, rb_er, so_er, e_sErr, e_sTry, e_iEnumE, e_sSetIx, Bool.not_true, Bool.not_false, Bool.false_eq_true, Bool.true_and, Bool.false_and, Bool.and_true, Bool.and_false, Bool.true_or, Bool.false_or, Bool.or_true, Bool.or_false, if_true, if_false, Option.map_some, tr_bool, int_int, add_int, sub_int, ll, lt1, x1b, len_tup, rgR, w1]
    · have lt1 : cLt (nd j) (.int ((metB R a (q, c) j).length : Nat)) = some false := by rw [lt_int, decide_eq_false (by omega)]
      have em : metB R a (q, c) (j + 1) = metB R a (q, c) j := by
        rw [metB, List.getElem?_eq_none (by omega)]
      rw [em]
      refine ⟨_, [.d (eB n R), .d (nd a), .d (nd q), .d (nd c), .own ((metB R a (q, c) j).map pd), .own (W.map wd), .d (nd j), s7, s8, s9], rfl, ?_, W, _, _, _, _, rfl, hw⟩
      generalize (metB R a (q, c) j).map pd = MD at ll
      simp only [e_vVar, e_vRd, e_vC, e_v1, e_v2, e_c1, e_c2, e_l1, e_l2, e_vL, e_vB, e_vArgs0, e_vArgs, e_vTup, e_vCall, e_vIf, e_bTr, e_bNot, e_bAnd, e_bOr, e_bChain, e_iSeq, e_iRange1, e_iRange2, e_vCut, e_vOpt0, e_vOpt, e_sNx, e_sBk, e_sCt, e_sSeq, e_sSet, e_sOwn, e_sPut, e_sFreeze, e_sRet, e_sExpr, e_sIf, e_sApp, e_sPar, e_sFor, runD, slots, so_ok, rb_ok, rb_none, so_none, po_some, List.getElem?_cons_zero, List.getElem?_cons_succ, List.set_cons_zero, List.set_cons_succ, List.map_cons, List.map_nil, List.length_cons, List.length_nil, List.replicate, List.append_nil, List.cons_append, List.nil_append, rb_er, so_er, e_sErr, e_sTry, e_iEnumE, e_sSetIx, Bool.not_true, Bool.not_false, Bool.false_eq_true, Bool.true_and, Bool.false_and, Bool.and_true, Bool.and_false, Bool.true_or, Bool.false_or, Bool.or_true, Bool.or_false, if_true, if_false, Option.map_some, tr_bool, int_int, add_int, sub_int, ll, lt1])
  rw [rng_size] at hw ⊢
  refine ⟨metB R a (q, c) (n * n), W, ?_, hw, nodup_metB _, okm _, fun t p h => all_metB (few _) h⟩
  generalize (metB R a (q, c) (n * n)).map pd = MD
  generalize W.map wd = WD
  simp only [e_vVar, e_vRd, e_vC, e_v1, e_v2, e_c1, e_c2, e_l1, e_l2, e_vL, e_vB, e_vArgs0, e_vArgs, e_vTup, e_vCall, e_vIf, e_bTr, e_bNot, e_bAnd, e_bOr, e_bChain, e_iSeq, e_iRange1, e_iRange2, e_vCut, e_vOpt0, e_vOpt, e_sNx, e_sBk, e_sCt, e_sSeq, e_sSet, e_sOwn, e_sPut, e_sFreeze, e_sRet, e_sExpr, e_sIf, e_sApp, e_sPar, e_sFor, runD, slots, so_ok, rb_ok, rb_none, so_none, po_some, List.getElem?_cons_zero, List.getElem?_cons_succ, List.set_cons_zero, List.set_cons_succ, List.map_cons, List.map_nil, List.length_cons, List.length_nil, List.replicate, List.append_nil, List.cons_append, List.nil_append, rb_er, so_er, e_sErr, e_sTry, e_iEnumE, e_sSetIx, Bool.not_true, Bool.not_false, Bool.false_eq_true, Bool.true_and, Bool.false_and, Bool.and_true, Bool.and_false, Bool.true_or, Bool.false_or, Bool.or_true, Bool.or_false, if_true, if_false, Option.map_some, tr_bool, int_int, add_int, sub_int, frz]
/-- where one state of a child goes -/
def sg1 (R : List Rl) : List D → Nat → Nat
  | [], s => s
  | x :: xs, s => sg1 R xs ((ruleOf R x).sg.getD s 0)
theorem sgW_get {i : Nat} : ∀ (xs : List D) (g : List Nat), (sgW R xs g)[i]? = (g[i]?).map (sg1 R xs)
  | [], g => by
    show g[i]? = _
    cases g[i]? <;> rfl
  | x :: xs, g => by
    show (sgW R xs (g.map fun s => (ruleOf R x).sg.getD s 0))[i]? = _
    rw [sgW_get xs, List.getElem?_map]
    cases g[i]? <;> rfl
theorem way_rch {s : Pr} : ∀ (xs : List D) (k t : Nat) (p : Pr) (z : Nat), Rch R a s t p → goW R a k xs p.1 = .ok z → ∃ t', Rch R a s t' (z, sg1 R xs p.2)
  | [], k, t, p, z, h, g => by cases g; exact ⟨t, h⟩
  | x :: xs, k, t, p, z, h, g => by
    rw [goW_cons] at g
    split at g
    · rename_i c
      obtain ⟨j, r, rfl, er, hj, ra, ro⟩ := wtak_is c
      rw [ruleOf_nd er] at g
      have hn : (r.w, r.sg.getD p.2 0) ∈ succs R a p := List.mem_map.mpr ⟨j, List.mem_filter.mpr ⟨List.mem_range.mpr hj, by rw [w_fitK er, ra, ro]; simp⟩, by unfold nxP; rw [er]⟩
      obtain ⟨t', h'⟩ := way_rch xs (k + 1) (t + 1) (r.w, r.sg.getD p.2 0) z (.n h hn) g
      refine ⟨t', ?_⟩
      show Rch R a s t' (z, sg1 R xs ((ruleOf R (nd j)).sg.getD p.2 0))
      rw [ruleOf_nd er]
      exact h'
    · cases g
theorem rules_for_t (B : Bo n R) (ha : a < n) {z : Nat} (hz : z < n) : f_rules_for [eB n R, nd a, nd z] = ok (.list (ndl (fitL R a z))) := by
  have h3 : f_check_book [eB n R] = ok .none := by rw [check_book_, B.is]; rfl
  have h1 := check_state_t (R := R) ha
  have h4 := check_state_t (R := R) hz
  have h2 := fitting_t B a z
  have e3 : slots 3 [eB n R, nd a, nd z] = [.d (eB n R), .d (nd a), .d (nd z)] := rfl
  suffices hb : b_rules_for (slots 3 [eB n R, nd a, nd z]) = some (.rt (.list (ndl (fitL R a z)))) by
    simp only [f_rules_for, runD, hb, List.length_cons, List.length_nil, if_true]
  rw [b_rules_for, e3]
  simp only [e_vVar, e_vRd, e_vC, e_v1, e_v2, e_c1, e_c2, e_l1, e_l2, e_vL, e_vB, e_vArgs0, e_vArgs, e_vTup, e_vCall, e_vIf, e_bTr, e_bNot, e_bAnd, e_bOr, e_bChain, e_iSeq, e_iRange1, e_iRange2, e_vCut, e_vOpt0, e_vOpt, e_sNx, e_sBk, e_sCt, e_sSeq, e_sSet, e_sOwn, e_sPut, e_sFreeze, e_sRet, e_sExpr, e_sIf, e_sApp, e_sPar, e_sFor, runD, slots, so_ok, rb_ok, rb_none, so_none, po_some, List.getElem?_cons_zero, List.getElem?_cons_succ, List.set_cons_zero, List.set_cons_succ, List.map_cons, List.map_nil, List.length_cons, List.length_nil, List.replicate, List.append_nil, List.cons_append, List.nil_append, rb_er, so_er, e_sErr, e_sTry, e_iEnumE, e_sSetIx, Bool.not_true, Bool.not_false, Bool.false_eq_true, Bool.true_and, Bool.false_and, Bool.and_true, Bool.and_false, Bool.true_or, Bool.false_or, Bool.or_true, Bool.or_false, if_true, if_false, Option.map_some, tr_bool, int_int, add_int, sub_int, h3, h1, h4, h2]
theorem first_way_go {q : Nat} : ∀ j : Nat, goW R a 0 (ndl (ls R a q j)) q = .ok (en R a q j)
  | 0 => rfl
  | j + 1 => by
    have ih := first_way_go (q := q) j
    cases hf : fitL R a (en R a q j) with
    | nil =>
      have h1 := ls_rest hf 1
      rw [h1.1, h1.2]
      exact ih
    | cons k ks =>
      obtain ⟨r, hr, ra, ro⟩ := fit_head hf
      have el : ls R a q (j + 1) = ls R a q j ++ [k] := by rw [ls, hf]; rfl
      have ee : en R a q (j + 1) = r.w := stp_cons hf hr
      have fk : fitK R a (en R a q j) k = true := by rw [w_fitK hr, ra, ro]; simp
      rw [el, ee, ndl_snoc, goW_snoc, ih]
      dsimp only
      rw [wtak_nd, if_pos fk, ruleOf_nd hr]
theorem first_end (B : Bo n R) (hg : ringIn R n = false) {q : Nat} (ha : a < n) (hq : q < n) : fitL R a (en R a q n) = [] := by
  have hn4 := B.n4
  have hr := w_rank B hg ha hq
  obtain ⟨J, _, h2, h3⟩ := way_while B hg (a := a) hq ((rk R a n n).getD q 0) 0 fuel (Nat.le_refl _) (lt_fuel (by omega)) (by omega)
  obtain ⟨m, rfl⟩ : ∃ m, n = J + m := ⟨n - J, by omega⟩
  rw [(ls_rest h2 m).1]
  exact h2
theorem index_t (M : List Pr) {p : Pr} (hp : p ∈ M) : ∃ i : Nat, dIndexOf (.list (M.map pd)) (pd p) = some (nd i) ∧ M[i]? = some p := by
  have h1 : (M.map pd).all (deepI 1) = true := List.all_eq_true.mpr fun x hx => by obtain ⟨q, _, rfl⟩ := List.mem_map.mp hx; rfl
  have h3 := shaped_of (n := 2) (d := PyData.tuple (M.map pd)) h1
  have h2 := shaped_of (n := 1) (d := pd p) rfl
  have h3' : SeqAt.shaped (.list (M.map pd)) = true := h3
  have ev : ∀ q : Pr, PyData.eqv (pd q) (pd p) = decide (q = p) := fun q => by
    show ((((q.1 : Nat) : Int) == ((p.1 : Nat) : Int)) && ((((q.2 : Nat) : Int) == ((p.2 : Nat) : Int)) && true)) = _
    rw [Bool.eq_iff_iff, Bool.and_true, Bool.and_eq_true, beq_iff_eq, beq_iff_eq, decide_eq_true_eq]
    exact ⟨fun h => Prod.ext (by omega) (by omega), fun h => by subst h; exact ⟨rfl, rfl⟩⟩
  have hf : ∃ i : Nat, (M.map pd).findIdx? (fun z => PyData.eqv z (pd p)) = some i ∧ M[i]? = some p := by
    clear h1 h2 h3 h3'
    induction M with
    | nil => cases hp
    | cons q M ih =>
      rw [List.map_cons, List.findIdx?_cons, ev]
      by_cases c : q = p
      · rw [decide_eq_true c]
        exact ⟨0, rfl, by subst c; rfl⟩
      · rw [decide_eq_false c]
        obtain ⟨i, h1, h2⟩ := ih ((List.mem_cons.mp hp).elim (fun e => absurd e.symm c) id)
        exact ⟨i + 1, by rw [h1]; rfl, h2⟩
  obtain ⟨i, h4, h5⟩ := hf
  refine ⟨i, ?_, h5⟩
  show (if _ then _ else _) = _
  rw [if_pos (by rw [h2, h3']; rfl), h4]
  rfl
theorem e_vIndex {x y : EX} {r : DL.Env} : vIndex x y r = rb (x r) fun x => match x with
  | .list ds => rb (y r) fun y => po (dIndexOf (.list ds) y)
  | _ => none := (rfl)
theorem same_pd (p : Pr) : f_law_same [pd p, .tuple [nd p.1, nd p.2]] = ok (.bool true) := wsame_t (d := pd p) (k := 1) (by decide) rfl (by simp only [wt, wts]; omega)
theorem same_nil : f_law_same [.list [], .list []] = ok (.bool true) := wsame_t (k := 1) (by decide) rfl (by simp only [wt, wts]; omega)
/-- each pair that is told is one that the way found leads to -/
theorem told_loop (B : Bo n R) (ha : a < n) {q c : Nat} (hq : q < n) (hc : c < n) {M : List Pr} {W : List (List Nat)} (hw : Known n R a q c M W) (hl : M.length ≤ 16) (s3 s4 s5 s7 s13 : Slot) : ∀ (F : List Pr), (∀ p ∈ F, p ∈ M ∧ restP R a p = true) → ∀ s10 s11 s12 : Slot,
    ∃ s10' s11' s12' : Slot, loopF (.one 10) (sSeq (sIf (c2 cNotIn (vVar 10) (vVar 8)) (sRet (vC (.bool false))) sNx) (sSeq (sPut (.many [11, 12]) (vCall f_way_result [(vVar 0), (vVar 1), (vVar 2), (vL (l1 lOf (v2 dIx (vVar 9) (vIndex (vVar 8) (vVar 10)))))])) (sIf (bOr (bNot (bTr (vCall f_law_same [(vVar 10), (vTup [(vVar 11), (v2 dIx (vVar 12) (vVar 6))])]))) (bNot (bTr (vCall f_law_same [(vCall f_rules_for [(vVar 0), (vVar 1), (vVar 11)]), (vL (vArgs []))])))) (sRet (vC (.bool false))) sNx))) (F.map pd) [.d (eB n R), .d (nd a), .d (nd q), s3, s4, s5, .d (nd c), s7, .d (.list (M.map pd)), .d (.list (W.map wd)), s10, s11, s12, s13] = some (.nx [.d (eB n R), .d (nd a), .d (nd q), s3, s4, s5, .d (nd c), s7, .d (.list (M.map pd)), .d (.list (W.map wd)), s10', s11', s12', s13])
  | [], _, s10, s11, s12 => ⟨s10, s11, s12, rfl⟩
  | p :: F, hF, s10, s11, s12 => by
    obtain ⟨hp, hr⟩ := hF p List.mem_cons_self
    obtain ⟨i, i1, i2⟩ := index_t M hp
    obtain ⟨ks, k1, k2, k3⟩ := hw.way i p i2
    have il := (List.getElem?_eq_some_iff.mp i2).1
    have wt_ := way_t B ha hq (xs := ndl ks) (by rw [List.length_map]; omega)
    rw [k2.1] at wt_
    have wt' : f_way_result [eB n R, nd a, nd q, .list (ndl ks)] = ok (.tuple [nd p.1, .tuple (ndl (sgW R (ndl ks) (List.range n)))]) := wt_
    have xs_ : dIx (.tuple (ndl (sgW R (ndl ks) (List.range n)))) (nd c) = some (nd p.2) := by rw [ix_ndt, k2.2]; rfl
    have xw : dIx (.list (W.map wd)) (nd i) = some (wd ks) := by rw [ixl, List.getElem?_map, k1]; rfl
    have lo : lOf (wd ks) = some (ndl ks) := rfl
    have pn : p.1 < n := goW_lt B a (ndl ks) 0 q p.1 hq k2.1
    have rf := rules_for_t (a := a) B ha pn
    have fe : fitL R a p.1 = [] := by unfold restP at hr; exact List.isEmpty_iff.mp hr
    rw [fe] at rf
    have rf' : f_rules_for [eB n R, nd a, nd p.1] = ok (.list []) := rf
    have ni : cNotIn (pd p) (.list (M.map pd)) = some false := by
      have := w_notIn M p
      rw [decide_eq_true hp] at this
      exact this
    have sm := same_pd p
    have sn := same_nil
    obtain ⟨t10, t11, t12, h1⟩ := told_loop B ha hq hc hw hl s3 s4 s5 s7 s13 F (fun x hx => hF x (List.mem_cons_of_mem _ hx)) (.d (pd p)) (.d (nd p.1)) (.d (.tuple (ndl (sgW R (ndl ks) (List.range n)))))
    refine ⟨t10, t11, t12, ?_⟩
    have put : ∀ P : D, (Tg.many [11, 12]).put (.tuple [nd p.1, .tuple (ndl (sgW R (ndl ks) (List.range n)))]) [.d (eB n R), .d (nd a), .d (nd q), s3, s4, s5, .d (nd c), s7, .d (.list (M.map pd)), .d (.list (W.map wd)), .d P, s11, s12, s13] = some [.d (eB n R), .d (nd a), .d (nd q), s3, s4, s5, .d (nd c), s7, .d (.list (M.map pd)), .d (.list (W.map wd)), .d P, .d (nd p.1), .d (.tuple (ndl (sgW R (ndl ks) (List.range n)))), s13] := fun _ => rfl
    rw [← h1, List.map_cons, loopF, put_one]
    generalize pd p = P at i1 ni sm
    have put := put P
    generalize ndl (sgW R (ndl ks) (List.range n)) = SG at xs_ wt' put
    generalize M.map pd = MD at i1 ni put
    generalize W.map wd = WD at xw put
    generalize wd ks = w1 at xw lo
    simp only [e_vVar, e_vRd, e_vC, e_v1, e_v2, e_c1, e_c2, e_l1, e_l2, e_vL, e_vB, e_vArgs0, e_vArgs, e_vTup, e_vCall, e_vIf, e_bTr, e_bNot, e_bAnd, e_bOr, e_bChain, e_iSeq, e_iRange1, e_iRange2, e_vCut, e_vOpt0, e_vOpt, e_sNx, e_sBk, e_sCt, e_sSeq, e_sSet, e_sOwn, e_sPut, e_sFreeze, e_sRet, e_sExpr, e_sIf, e_sApp, e_sPar, e_sFor, runD, slots, so_ok, rb_ok, rb_none, so_none, po_some, List.getElem?_cons_zero, List.getElem?_cons_succ, List.set_cons_zero, List.set_cons_succ, List.map_cons, List.map_nil, List.length_cons, List.length_nil, List.replicate, List.append_nil, List.cons_append, List.nil_append, rb_er, so_er, e_sErr, e_sTry, e_iEnumE, e_sSetIx, Bool.not_true, Bool.not_false, Bool.false_eq_true, Bool.true_and, Bool.false_and, Bool.and_true, Bool.and_false, Bool.true_or, Bool.false_or, Bool.or_true, Bool.or_false, if_true, if_false, Option.map_some, tr_bool, int_int, add_int, sub_int, ni, e_vIndex, i1, xw, lo, wt', put, xs_, sm, rf', sn]
/-- each way leads to a pair that is told -/
theorem ways_loop2 (B : Bo n R) (ha : a < n) {q c : Nat} (hq : q < n) (hc : c < n) {F : List Pr} (hF : ∀ p, (∃ t, Rch R a (q, c) t p) → restP R a p = true → p ∈ F) (s3 s4 s5 s8 s9 s10 : Slot) : ∀ (Ws : List (List Nat)), (∀ ks ∈ Ws, ks.length ≤ 1000 ∧ ∃ z, goW R a 0 (ndl ks) q = .ok z ∧ fitL R a z = []) → ∀ s11 s12 s13 : Slot,
    ∃ s11' s12' s13' : Slot, loopF (.one 13) (sSeq (sPut (.many [11, 12]) (vCall f_way_result [(vVar 0), (vVar 1), (vVar 2), (vL (l1 lOf (vVar 13)))])) (sIf (bOr (bNot (bTr (vCall f_law_same [(vCall f_rules_for [(vVar 0), (vVar 1), (vVar 11)]), (vL (vArgs []))]))) (c2 cNotIn (vTup [(vVar 11), (v2 dIx (vVar 12) (vVar 6))]) (vVar 7))) (sRet (vC (.bool false))) sNx)) (Ws.map wd) [.d (eB n R), .d (nd a), .d (nd q), s3, s4, s5, .d (nd c), .d (.list (F.map pd)), s8, s9, s10, s11, s12, s13] = some (.nx [.d (eB n R), .d (nd a), .d (nd q), s3, s4, s5, .d (nd c), .d (.list (F.map pd)), s8, s9, s10, s11', s12', s13'])
  | [], _, s11, s12, s13 => ⟨s11, s12, s13, rfl⟩
  | ks :: Ws, hW, s11, s12, s13 => by
    obtain ⟨l1_, z, g1, g2⟩ := hW ks List.mem_cons_self
    have wt_ := way_t B ha hq (xs := ndl ks) (by rw [List.length_map]; omega)
    rw [g1] at wt_
    have wt' : f_way_result [eB n R, nd a, nd q, .list (ndl ks)] = ok (.tuple [nd z, .tuple (ndl (sgW R (ndl ks) (List.range n)))]) := wt_
    have sg : (sgW R (ndl ks) (List.range n))[c]? = some (sg1 R (ndl ks) c) := by rw [sgW_get, List.getElem?_range hc]; rfl
    have xs_ : dIx (.tuple (ndl (sgW R (ndl ks) (List.range n)))) (nd c) = some (nd (sg1 R (ndl ks) c)) := by rw [ix_ndt, sg]; rfl
    obtain ⟨t', ht⟩ := way_rch (a := a) (s := (q, c)) (ndl ks) 0 0 (q, c) z .z g1
    have lo : lOf (wd ks) = some (ndl ks) := rfl
    have zn : z < n := goW_lt B a (ndl ks) 0 q z hq g1
    have rf := rules_for_t (a := a) B ha zn
    rw [g2] at rf
    have rf' : f_rules_for [eB n R, nd a, nd z] = ok (.list []) := rf
    have hp : (z, sg1 R (ndl ks) c) ∈ F := hF _ ⟨t', ht⟩ (by unfold restP; rw [g2]; rfl)
    have ni : cNotIn (.tuple [nd z, nd (sg1 R (ndl ks) c)]) (.list (F.map pd)) = some false := by
      have := w_notIn F (z, sg1 R (ndl ks) c)
      rw [decide_eq_true hp] at this
      exact this
    have sn := same_nil
    obtain ⟨t11, t12, t13, h1⟩ := ways_loop2 B ha hq hc hF s3 s4 s5 s8 s9 s10 Ws (fun x hx => hW x (List.mem_cons_of_mem _ hx)) (.d (nd z)) (.d (.tuple (ndl (sgW R (ndl ks) (List.range n))))) (.d (wd ks))
    refine ⟨t11, t12, t13, ?_⟩
    have put : ∀ P : D, (Tg.many [11, 12]).put (.tuple [nd z, .tuple (ndl (sgW R (ndl ks) (List.range n)))]) [.d (eB n R), .d (nd a), .d (nd q), s3, s4, s5, .d (nd c), .d (.list (F.map pd)), s8, s9, s10, s11, s12, .d P] = some [.d (eB n R), .d (nd a), .d (nd q), s3, s4, s5, .d (nd c), .d (.list (F.map pd)), s8, s9, s10, .d (nd z), .d (.tuple (ndl (sgW R (ndl ks) (List.range n)))), .d P] := fun _ => rfl
    rw [← h1, List.map_cons, loopF, put_one]
    have put := put (wd ks)
    generalize sg1 R (ndl ks) c = s1 at xs_ ni
    generalize ndl (sgW R (ndl ks) (List.range n)) = SG at xs_ wt' put
    generalize F.map pd = FD at ni put
    generalize wd ks = w1 at lo put
    simp only [e_vVar, e_vRd, e_vC, e_v1, e_v2, e_c1, e_c2, e_l1, e_l2, e_vL, e_vB, e_vArgs0, e_vArgs, e_vTup, e_vCall, e_vIf, e_bTr, e_bNot, e_bAnd, e_bOr, e_bChain, e_iSeq, e_iRange1, e_iRange2, e_vCut, e_vOpt0, e_vOpt, e_sNx, e_sBk, e_sCt, e_sSeq, e_sSet, e_sOwn, e_sPut, e_sFreeze, e_sRet, e_sExpr, e_sIf, e_sApp, e_sPar, e_sFor, runD, slots, so_ok, rb_ok, rb_none, so_none, po_some, List.getElem?_cons_zero, List.getElem?_cons_succ, List.set_cons_zero, List.set_cons_succ, List.map_cons, List.map_nil, List.length_cons, List.length_nil, List.replicate, List.append_nil, List.cons_append, List.nil_append, rb_er, so_er, e_sErr, e_sTry, e_iEnumE, e_sSetIx, Bool.not_true, Bool.not_false, Bool.false_eq_true, Bool.true_and, Bool.false_and, Bool.and_true, Bool.and_false, Bool.true_or, Bool.false_or, Bool.or_true, Bool.or_false, if_true, if_false, Option.map_some, tr_bool, int_int, add_int, sub_int, ni, lo, wt', put, xs_, rf', sn]
theorem w_rch_any {q c d : Nat} : ∀ {t : Nat} {p : Pr}, Rch R a (q, c) t p → ∃ p', Rch R a (q, d) t p' ∧ p'.1 = p.1
  | _, _, .z => ⟨_, .z, rfl⟩
  | _, _, .n (p := p) h hq => by
    obtain ⟨p', h1, h2⟩ := w_rch_any (d := d) h
    obtain ⟨k, hk, rfl⟩ := List.mem_map.mp hq
    have er := List.getElem?_eq_getElem (fit_lt hk)
    refine ⟨nxP R p' k, .n h1 (List.mem_map.mpr ⟨k, by rw [h2]; exact hk, rfl⟩), ?_⟩
    unfold nxP
    rw [er]
theorem comp_one {i : Nat} {u : EX} {E : DL.Env} (hu : ∀ p : Pr, u (E.set i (.d (pd p))) = ok (nd p.1)) : ∀ M : List Pr, compL (.one i) bYes u E (M.map pd) = ok (ndl (M.map (·.1)))
  | [] => rfl
  | p :: M => by
    rw [List.map_cons, compL, put_one]
    dsimp only
    rw [show bYes (E.set i (.d (pd p))) = ok true from rfl, rb_ok, if_pos rfl, hu p, rb_ok, comp_one hu M, rb_ok]
    rfl
theorem w_pl_ints (xs : List Int) : (xs.map PyData.int).all (pl 1) = true := List.all_eq_true.mpr fun x hx => by obtain ⟨p, _, rfl⟩ := List.mem_map.mp hx; rfl
theorem w_wts_ints : ∀ xs : List Int, wts (xs.map PyData.int) ≤ 5 * xs.length
  | [] => by simp [wts]
  | p :: xs => by
    have := w_wts_ints xs
    rw [List.map_cons, List.length_cons]
    simp only [wts, wt]
    omega
theorem right_t (B : Bo n R) (hg : ringIn R n = false) {q : Nat} (ha : a < n) (hq : q < n) {Ws : List (List Nat)} (hW : ∀ ks ∈ Ws, ks.length ≤ 1000 ∧ ∃ z, goW R a 0 (ndl ks) q = .ok z ∧ fitL R a z = []) (hWl : Ws.length ≤ 1000) : f_law_right [eB n R, nd a, nd q, .list (Ws.map wd)] = ok (.bool true) := by
  have hn4 := B.n4
  have lb := big
  have rg : rng1 (nd n) = some (rng 0 n) := rng1_nat (by omega)
  have e14 : slots 14 [eB n R, nd a, nd q, .list (Ws.map wd)] = [.d (eB n R), .d (nd a), .d (nd q), .d (.list (Ws.map wd)), .un, .un, .un, .un, .un, .un, .un, .un, .un, .un] := rfl
  obtain ⟨xs, x1, x2⟩ := node_rests_t B ha hq hg
  have fw : f_first_way [eB n R, nd a, nd q] = ok (.list (ndl (ls R a q n))) := by
    have := first_t B ha hq
    rw [hg, if_neg (by decide)] at this
    exact this
  have hW2 : ∀ ks ∈ Ws ++ [ls R a q n], ks.length ≤ 1000 ∧ ∃ z, goW R a 0 (ndl ks) q = .ok z ∧ fitL R a z = [] := fun ks hk => by
    rcases List.mem_append.mp hk with h | h
    · exact hW ks h
    · rw [List.mem_singleton.mp h]
      exact ⟨by have := ls_len (R := R) (a := a) (q := q) n; omega, _, first_way_go n, first_end B hg ha hq⟩
  have adw : dAdd (.list (Ws.map wd)) (.list [.list (ndl (ls R a q n))]) = some (.list ((Ws ++ [ls R a q n]).map wd)) := by
    rw [add_list _ _ (by rw [List.length_append, List.length_map, List.length_cons, List.length_nil]; omega), List.map_append]
    rfl
  suffices hb : b_law_right (slots 14 [eB n R, nd a, nd q, .list (Ws.map wd)]) = some (.rt (.bool true)) by
    simp only [f_law_right, runD, hb, List.length_cons, List.length_nil, if_true]
  rw [b_law_right, e14, e_sSeq]
  simp only [e_vVar, e_vRd, e_vC, e_v1, e_v2, e_c1, e_c2, e_l1, e_l2, e_vL, e_vB, e_vArgs0, e_vArgs, e_vTup, e_vCall, e_vIf, e_bTr, e_bNot, e_bAnd, e_bOr, e_bChain, e_iSeq, e_iRange1, e_iRange2, e_vCut, e_vOpt0, e_vOpt, e_sNx, e_sBk, e_sCt, e_sSeq, e_sSet, e_sOwn, e_sPut, e_sFreeze, e_sRet, e_sExpr, e_sIf, e_sApp, e_sPar, e_sFor, runD, slots, so_ok, rb_ok, rb_none, so_none, po_some, List.getElem?_cons_zero, List.getElem?_cons_succ, List.set_cons_zero, List.set_cons_succ, List.map_cons, List.map_nil, List.length_cons, List.length_nil, List.replicate, List.append_nil, List.cons_append, List.nil_append, rb_er, so_er, e_sErr, e_sTry, e_iEnumE, e_sSetIx, Bool.not_true, Bool.not_false, Bool.false_eq_true, Bool.true_and, Bool.false_and, Bool.and_true, Bool.and_false, Bool.true_or, Bool.false_or, Bool.or_true, Bool.or_false, if_true, if_false, Option.map_some, tr_bool, int_int, add_int, sub_int, x1, x0b, rg]
  generalize hL : loopF _ _ _ _ = L
  obtain ⟨r', rfl, zs, s6, s7, s8, s9, s10, s11, s12, s13, rfl, z1, z2⟩ := loop_out hL (fun j e => ∃ (zs : List Int) (s6 s7 s8 s9 s10 s11 s12 s13 : Slot), e = [.d (eB n R), .d (nd a), .d (nd q), .d (.list (Ws.map wd)), .d (.list ((setS xs).map PyData.int)), .d (nums zs), s6, s7, s8, s9, s10, s11, s12, s13] ∧ zs.length ≤ 16 * j ∧ ∀ k, k ∈ zs ↔ ∃ c, c < j ∧ ∃ (t : Nat) (p : Pr), Rch R a (q, c) t p ∧ restP R a p = true ∧ k = (p.1 : Nat)) ⟨[], _, _, _, _, _, _, _, _, rfl, Nat.le_refl _, fun k => ⟨fun h => (by cases h), fun ⟨c, h, _⟩ => absurd h (Nat.not_lt_zero _)⟩⟩ (by
    rintro j y e hy ⟨zs, s6, s7, s8, s9, s10, s11, s12, s13, rfl, z1, z2⟩
    have hj := (List.getElem?_eq_some_iff.mp hy).1
    rw [rng_size] at hj
    rw [rng_at 0 _ j hj] at hy
    cases hy
    rw [show (0 : Int) + (j : Nat) = (j : Nat) by omega]
    have okS : okP n (q, j) := ⟨hq, hj⟩
    obtain ⟨L, n1, n2, n3⟩ := node_results_t (s := (q, j)) B ha okS hg
    obtain ⟨F, m1, m2⟩ := srt_pd L n2
    rw [m1] at n1
    have n1' : f_node_results [eB n R, nd a, nd q, nd j] = ok (.list (F.map pd)) := n1
    have hF : ∀ p, p ∈ F ↔ (∃ t, Rch R a (q, j) t p) ∧ restP R a p = true := fun p => by rw [m2.mem_iff, n3]
    have few : F.length ≤ 16 := by rw [m2.length_eq]; exact rch_few (s := (q, j)) B okS n2 fun p hp => ((n3 p).mp hp).1
    obtain ⟨M, W, f1, f2, f3, f4, f5⟩ := found_t B ha hq hj
    have fewM : M.length ≤ 16 := by have := w_okn B f3 f4; have := w_16 B; omega
    obtain ⟨t10, t11, t12, w1⟩ := told_loop (a := a) B ha hq hj f2 fewM (.d (.list (Ws.map wd))) (.d (.list ((setS xs).map PyData.int))) (.d (nums zs)) (.d (.list (F.map pd))) s13 F (fun p hp => by
      obtain ⟨⟨t, ht⟩, hr⟩ := (hF p).mp hp
      exact ⟨f5 t p ht, hr⟩) s10 s11 s12
    have ad : dAdd (nums zs) (nums (F.map fun p => ((p.1 : Nat) : Int))) = some (nums (zs ++ F.map fun p => ((p.1 : Nat) : Int))) := by
      show dAdd (.list _) (.list _) = _
      rw [add_list _ _ (by rw [List.length_append, List.length_map, List.length_map, List.length_map]; omega)]
      exact congrArg some (congrArg PyData.list List.map_append.symm)
    obtain ⟨u11, u12, u13, w2⟩ := ways_loop2 (a := a) B ha hq hj (F := F) (fun p hp hr => (hF p).mpr ⟨hp, hr⟩) (.d (.list (Ws.map wd))) (.d (.list ((setS xs).map PyData.int))) (.d (nums (zs ++ F.map fun p => ((p.1 : Nat) : Int)))) (.d (.list (M.map pd))) (.d (.list (W.map wd))) t10 (Ws ++ [ls R a q n]) hW2 t11 t12 s13
    have hc : lComp (iSeq (vVar 7)) (.one 10) bYes (v2 dIx (vVar 10) (vC (.int 0))) [.d (eB n R), .d (nd a), .d (nd q), .d (.list (Ws.map wd)), .d (.list ((setS xs).map PyData.int)), .d (nums zs), .d (nd j), .d (.list (F.map pd)), .d (.list (M.map pd)), .d (.list (W.map wd)), t10, t11, t12, s13] = ok ((F.map fun p => ((p.1 : Nat) : Int)).map PyData.int) := by
      unfold lComp
      rw [show iSeq (vVar 7) [.d (eB n R), .d (nd a), .d (nd q), .d (.list (Ws.map wd)), .d (.list ((setS xs).map PyData.int)), .d (nums zs), .d (nd j), .d (.list (F.map pd)), .d (.list (M.map pd)), .d (.list (W.map wd)), t10, t11, t12, s13] = ok (F.map pd) from rfl, rb_ok, if_pos (by rw [List.length_map]; omega)]
      show noEr (compL (.one 10) _ _ [.d (eB n R), .d (nd a), .d (nd q), .d (.list (Ws.map wd)), .d (.list ((setS xs).map PyData.int)), .d (nums zs), .d (nd j), .d (.list (F.map pd)), .d (.list (M.map pd)), .d (.list (W.map wd)), .un, t11, t12, s13] (F.map pd)) = _
      rw [comp_one (fun p => rfl)]
      unfold ndl
      rw [List.map_map, List.map_map]
      rfl
    have put : (Tg.many [8, 9]).put (.tuple [.list (M.map pd), .list (W.map wd)]) [.d (eB n R), .d (nd a), .d (nd q), .d (.list (Ws.map wd)), .d (.list ((setS xs).map PyData.int)), .d (nums zs), .d (nd j), .d (.list (F.map pd)), s8, s9, s10, s11, s12, s13] = some [.d (eB n R), .d (nd a), .d (nd q), .d (.list (Ws.map wd)), .d (.list ((setS xs).map PyData.int)), .d (nums zs), .d (nd j), .d (.list (F.map pd)), .d (.list (M.map pd)), .d (.list (W.map wd)), s10, s11, s12, s13] := rfl
    refine ⟨_, [.d (eB n R), .d (nd a), .d (nd q), .d (.list (Ws.map wd)), .d (.list ((setS xs).map PyData.int)), .d (nums (zs ++ F.map fun p => ((p.1 : Nat) : Int))), .d (nd j), .d (.list (F.map pd)), .d (.list (M.map pd)), .d (.list (W.map wd)), t10, u11, u12, u13], rfl, ?_, _, _, _, _, _, _, _, _, _, rfl, ?_, fun k => ?_⟩
    · generalize (F.map fun p => ((p.1 : Nat) : Int)) = fs at hc ad w2 ⊢
      generalize nums (zs ++ fs) = ZF at ad w2 ⊢
      generalize nums zs = ZS at hc ad w1 put ⊢
      generalize F.map pd = FD at n1' w1 w2 hc put ⊢
      generalize M.map pd = MD at f1 w1 w2 hc put ⊢
      generalize W.map wd = WD at f1 w1 w2 hc put ⊢
      generalize (Ws ++ [ls R a q n]).map wd = WW at adw w2
      generalize Ws.map wd = W0 at adw w1 w2 hc put ⊢
      generalize ndl (ls R a q n) = FW at fw adw
      generalize (setS xs).map PyData.int = SX_ at hc w1 w2 put ⊢
      simp only [e_vVar, e_vRd, e_vC, e_v1, e_v2, e_c1, e_c2, e_l1, e_l2, e_vL, e_vB, e_vArgs0, e_vArgs, e_vTup, e_vCall, e_vIf, e_bTr, e_bNot, e_bAnd, e_bOr, e_bChain, e_iSeq, e_iRange1, e_iRange2, e_vCut, e_vOpt0, e_vOpt, e_sNx, e_sBk, e_sCt, e_sSeq, e_sSet, e_sOwn, e_sPut, e_sFreeze, e_sRet, e_sExpr, e_sIf, e_sApp, e_sPar, e_sFor, runD, slots, so_ok, rb_ok, rb_none, so_none, po_some, List.getElem?_cons_zero, List.getElem?_cons_succ, List.set_cons_zero, List.set_cons_succ, List.map_cons, List.map_nil, List.length_cons, List.length_nil, List.replicate, List.append_nil, List.cons_append, List.nil_append, rb_er, so_er, e_sErr, e_sTry, e_iEnumE, e_sSetIx, Bool.not_true, Bool.not_false, Bool.false_eq_true, Bool.true_and, Bool.false_and, Bool.and_true, Bool.and_false, Bool.true_or, Bool.false_or, Bool.or_true, Bool.or_false, if_true, if_false, Option.map_some, tr_bool, int_int, add_int, sub_int, n1', f1, put, seq_list, w1, hc, ad, fw, adw, w2]
    · rw [List.length_append, List.length_map]
      omega
    · rw [List.mem_append, z2, List.mem_map]
      constructor
      · rintro (⟨c, h1, h2⟩ | ⟨p, hp, rfl⟩)
        · exact ⟨c, by omega, h2⟩
        · obtain ⟨⟨t, ht⟩, hr⟩ := (hF p).mp hp
          exact ⟨j, by omega, t, p, ht, hr, rfl⟩
      · rintro ⟨c, h1, h2⟩
        by_cases e : c = j
        · subst e
          obtain ⟨t, p, ht, hr, rfl⟩ := h2
          exact .inr ⟨p, (hF p).mpr ⟨⟨t, ht⟩, hr⟩, rfl⟩
        · exact .inl ⟨c, by omega, h2⟩)
  rw [rng_size] at z1 z2
  have bnd : ∀ k ∈ zs, 0 ≤ k ∧ k < (n : Int) := fun k hk => by
    obtain ⟨c, hc, t, p, ht, _, rfl⟩ := (z2 k).mp hk
    have := (ok_rch (s := (q, c)) B ⟨hq, hc⟩ ht).1
    omega
  have st := sortS_t bnd hn4 (by omega)
  have es : setS xs = setS zs := set_same fun k => by
    rw [x2, z2]
    constructor
    · intro h
      exact ⟨q, hq, h⟩
    · rintro ⟨c, _, t, p, h1, h2, h3⟩
      obtain ⟨p', h4, h5⟩ := w_rch_any (d := q) h1
      exact ⟨t, p', h4, by unfold restP; rw [h5]; exact h2, by rw [h5]; exact h3⟩
  have sf := set_few bnd hn4
  have sm : f_law_same [.list ((setS zs).map PyData.int), .list ((setS zs).map PyData.int)] = ok (.bool true) := wsame_t (k := 2) (by decide) (w_pl_ints _) (by have := w_wts_ints (setS zs); simp only [wt]; omega)
  rw [es]
  generalize (setS zs).map PyData.int = SL at st sm
  generalize nums zs = ZS at st
  simp only [e_vVar, e_vRd, e_vC, e_v1, e_v2, e_c1, e_c2, e_l1, e_l2, e_vL, e_vB, e_vArgs0, e_vArgs, e_vTup, e_vCall, e_vIf, e_bTr, e_bNot, e_bAnd, e_bOr, e_bChain, e_iSeq, e_iRange1, e_iRange2, e_vCut, e_vOpt0, e_vOpt, e_sNx, e_sBk, e_sCt, e_sSeq, e_sSet, e_sOwn, e_sPut, e_sFreeze, e_sRet, e_sExpr, e_sIf, e_sApp, e_sPar, e_sFor, runD, slots, so_ok, rb_ok, rb_none, so_none, po_some, List.getElem?_cons_zero, List.getElem?_cons_succ, List.set_cons_zero, List.set_cons_succ, List.map_cons, List.map_nil, List.length_cons, List.length_nil, List.replicate, List.append_nil, List.cons_append, List.nil_append, rb_er, so_er, e_sErr, e_sTry, e_iEnumE, e_sSetIx, Bool.not_true, Bool.not_false, Bool.false_eq_true, Bool.true_and, Bool.false_and, Bool.and_true, Bool.and_false, Bool.true_or, Bool.false_or, Bool.or_true, Bool.or_false, if_true, if_false, Option.map_some, tr_bool, int_int, add_int, sub_int, st, sm]
end
theorem seq_nx {p q : SX} {r r1 : DL.Env} {x : Option Out} (h : p r = some (.nx r1)) (g : q r1 = x) : sSeq p q r = x := by
  unfold sSeq
  rw [h]
  exact g
theorem law_true (ns : List Int) (hl : ns.length ≤ 63) : f_law [.list (ns.map PyData.int)] = ok (.bool true) := by
  suffices h : b_law (slots 8 [nums ns]) = some (.rt (.bool true)) by
    show f_law [nums ns] = _
    simp only [f_law, runD, h, List.length_cons, List.length_nil, if_true]
  have lb := big
  obtain ⟨c0, hc0'⟩ := cell_ ns 0
  have hc0 : f_law_cell [nums ns, .int 0] = ok (.int c0) := hc0'
  obtain ⟨k1, hk1'⟩ := cell_ ns 1
  have hk1 : f_law_cell [nums ns, .int 1] = ok (.int k1) := hk1'
  obtain ⟨zs, hz', lz⟩ := cut_nums ns (some 2) (some 63)
  have hz : dCut (some 2) (some 63) (nums ns) = some (nums zs) := by rw [cut_list, hz']
  have ad : dAdd (.list [.int k1]) (nums zs) = some (nums (k1 :: zs)) := add_list [.int k1] _ (by rw [List.length_append, List.length_map, List.length_cons, List.length_nil]; omega)
  obtain ⟨as, d0, la⟩ := draws_ c0 13 (by decide)
  have d0' : f_law_draws [.int c0, .int 13] = ok (nums as) := d0
  obtain ⟨n, R, b1, B, hg⟩ := ebook_t as la
  have n4 := B.n4
  have rg : rng1 (nd n) = some (rng 0 n) := rng1_nat (by omega)
  have rg5 : rng1 (.int 5) = some (rng 0 5) := rng1_nat (n := 5) (by omega)
  have e8 : slots 8 [nums ns] = [.d (nums ns), .un, .un, .un, .un, .un, .un, .un] := rfl
  have cl : dLen (nums (k1 :: zs)) = some (.int ((k1 :: zs).length : Nat)) := by rw [len_list, List.length_map]
  have cpos : 0 < (k1 :: zs).length := Nat.zero_lt_succ _
  have cix : ∀ v : Nat, v < (k1 :: zs).length → ∃ x, dIx (nums (k1 :: zs)) (nd v) = some (.int x) := fun v hv => ⟨(k1 :: zs)[v], by rw [ixl, List.getElem?_map, List.getElem?_eq_getElem hv]; rfl⟩
  generalize hcs : (k1 :: zs) = cs at ad cl cpos cix
  have turn : ∀ (a q : Nat), a < n → q < n → ∀ s5 s6 s7 : Slot, ∃ s5' s6' s7' : Slot, (sSeq (sOwn 5 (vArgs [])) (sSeq (sFor (iRange1 (vC (.int 5))) (.one 6) (sSeq (sSet 7 (v2 dIx (vVar 2) (v2 dMod (v1 dInt (v2 dAdd (v2 dMul (vC (.int 5)) (v2 dAdd (v2 dMul (vVar 3) (v2 dIx (vVar 1) (vC (.int 0)))) (vVar 4))) (vVar 6))) (v1 dLen (vVar 2))))) (sApp 5 (vCall f_law_whole_way [(vVar 1), (vVar 3), (vVar 4), (v2 dIx (vCall f_law_draws [(vVar 7), (v2 dAdd (vVar 6) (vC (.int 1)))]) (vVar 6))])))) (sSeq (sFreeze 5) (sIf (bNot (bTr (vCall f_law_right [(vVar 1), (vVar 3), (vVar 4), (vVar 5)]))) (sRet (vC (.bool false))) sNx)))) [.d (nums ns), .d (eB n R), .d (nums cs), .d (nd a), .d (nd q), s5, s6, s7] = some (.nx [.d (nums ns), .d (eB n R), .d (nums cs), .d (nd a), .d (nd q), s5', s6', s7']) := by
    intro a q ha hq s5 s6 s7
    have lp : ∃ (Ws : List (List Nat)) (s6' s7' : Slot), (sFor (iRange1 (vC (.int 5))) (.one 6) (sSeq (sSet 7 (v2 dIx (vVar 2) (v2 dMod (v1 dInt (v2 dAdd (v2 dMul (vC (.int 5)) (v2 dAdd (v2 dMul (vVar 3) (v2 dIx (vVar 1) (vC (.int 0)))) (vVar 4))) (vVar 6))) (v1 dLen (vVar 2))))) (sApp 5 (vCall f_law_whole_way [(vVar 1), (vVar 3), (vVar 4), (v2 dIx (vCall f_law_draws [(vVar 7), (v2 dAdd (vVar 6) (vC (.int 1)))]) (vVar 6))])))) [.d (nums ns), .d (eB n R), .d (nums cs), .d (nd a), .d (nd q), .own [], s6, s7] = some (.nx [.d (nums ns), .d (eB n R), .d (nums cs), .d (nd a), .d (nd q), .own (Ws.map wd), s6', s7']) ∧ Ws.length ≤ 5 ∧ ∀ ks ∈ Ws, ks.length ≤ 1000 ∧ ∃ z, goW R a 0 (ndl ks) q = .ok z ∧ fitL R a z = [] := by
      rw [e_sFor, show iRange1 (vC (.int 5)) [.d (nums ns), .d (eB n R), .d (nums cs), .d (nd a), .d (nd q), .own [], s6, s7] = ok (rng 0 5) from by rw [e_iRange1, e_vC, rb_ok, rg5, po_some], so_ok]
      generalize hL : loopF _ _ _ _ = L
      obtain ⟨r', rfl, Ws, s6', s7', rfl, h1, h2⟩ := loop_out hL (fun j e => ∃ (Ws : List (List Nat)) (s6 s7 : Slot), e = [.d (nums ns), .d (eB n R), .d (nums cs), .d (nd a), .d (nd q), .own (Ws.map wd), s6, s7] ∧ Ws.length ≤ j ∧ ∀ ks ∈ Ws, ks.length ≤ 1000 ∧ ∃ z, goW R a 0 (ndl ks) q = .ok z ∧ fitL R a z = []) ⟨[], _, _, rfl, Nat.le_refl _, fun _ h => nomatch h⟩ (by
        rintro j y e hy ⟨Ws, s6, s7, rfl, h1, h2⟩
        have hj := (List.getElem?_eq_some_iff.mp hy).1
        rw [rng_size] at hj
        rw [rng_at 0 _ j hj] at hy
        cases hy
        rw [show (0 : Int) + (j : Nat) = (j : Nat) by omega]
        have m1 := mulL (a : Int) (n : Int) (small_of _ (by omega) (by omega))
        have m2 := mulL 5 ((a : Int) * (n : Int) + (q : Int)) (by decide)
        have cp : (0 : Int) < (cs.length : Nat) := by omega
        have w1 := Int.emod_nonneg (5 * ((a : Int) * (n : Int) + (q : Int)) + (j : Int)) (Int.ne_of_gt cp)
        have w2 := Int.emod_lt_of_pos (5 * ((a : Int) * (n : Int) + (q : Int)) + (j : Int)) cp
        obtain ⟨v, hv⟩ : ∃ v : Nat, (5 * ((a : Int) * (n : Int) + (q : Int)) + (j : Int)) % (cs.length : Nat) = (v : Nat) := ⟨((5 * ((a : Int) * (n : Int) + (q : Int)) + (j : Int)) % (cs.length : Nat)).toNat, by omega⟩
        have m3 := mod_int (5 * ((a : Int) * (n : Int) + (q : Int)) + (j : Int)) _ cp
        rw [hv] at m3
        obtain ⟨x, hx⟩ := cix v (by omega)
        obtain ⟨xs, dx, lx⟩ := draws_ x (j + 1) (by omega)
        have dx' : f_law_draws [.int x, .int ((j : Int) + 1)] = ok (nums xs) := by
          rw [show ((j : Int) + 1) = ((j + 1 : Nat) : Int) by omega]
          exact dx
        have xj : dIx (nums xs) (nd j) = some (.int xs[j]) := by rw [ixl, List.getElem?_map, List.getElem?_eq_getElem (by omega)]; rfl
        obtain ⟨ks, z, k1_, k2_, k3_, k4_⟩ := whole_t B hg ha hq xs[j]
        have lt : (Ws.map wd).length < lim := by rw [List.length_map]; omega
        have em : (Ws ++ [ks]).map wd = Ws.map wd ++ [.list (ndl ks)] := List.map_append
        refine ⟨_, [.d (nums ns), .d (eB n R), .d (nums cs), .d (nd a), .d (nd q), .own ((Ws ++ [ks]).map wd), .d (nd j), .d (.int x)], rfl, ?_, _, _, _, rfl, by rw [List.length_append, List.length_cons, List.length_nil]; omega, fun us hus => ?_⟩
        · rw [em]
          generalize xs[j] = xj_ at xj k1_
          generalize nums xs = XS at dx' xj
          generalize nums cs = CS at cl hx
          generalize nums ns = NS_
          generalize Ws.map wd = WD at lt
          generalize ndl ks = K1 at k1_
          simp only [e_vVar, e_vRd, e_vC, e_v1, e_v2, e_c1, e_c2, e_l1, e_l2, e_vL, e_vB, e_vArgs0, e_vArgs, e_vTup, e_vCall, e_vIf, e_bTr, e_bNot, e_bAnd, e_bOr, e_bChain, e_iSeq, e_iRange1, e_iRange2, e_vCut, e_vOpt0, e_vOpt, e_sNx, e_sBk, e_sCt, e_sSeq, e_sSet, e_sOwn, e_sPut, e_sFreeze, e_sRet, e_sExpr, e_sIf, e_sApp, e_sPar, e_sFor, runD, slots, so_ok, rb_ok, rb_none, so_none, po_some, List.getElem?_cons_zero, List.getElem?_cons_succ, List.set_cons_zero, List.set_cons_succ, List.map_cons, List.map_nil, List.length_cons, List.length_nil, List.replicate, List.append_nil, List.cons_append, List.nil_append, rb_er, so_er, e_sErr, e_sTry, e_iEnumE, e_sSetIx, Bool.not_true, Bool.not_false, Bool.false_eq_true, Bool.true_and, Bool.false_and, Bool.and_true, Bool.and_false, Bool.true_or, Bool.false_or, Bool.or_true, Bool.or_false, if_true, if_false, Option.map_some, tr_bool, int_int, add_int, sub_int, x0b, m1, m2, cl, m3, hx, dx', xj, k1_, lt]
        · rcases List.mem_append.mp hus with h | h
          · exact h2 us h
          · rw [List.mem_singleton.mp h]
            exact ⟨by omega, z, k2_, k3_⟩)
      rw [rng_size] at h1
      exact ⟨Ws, s6', s7', rfl, h1, h2⟩
    obtain ⟨Ws, s6', s7', l1_, l2_, l3_⟩ := lp
    have rt := right_t B hg ha hq l3_ (by omega)
    refine ⟨.d (.list (Ws.map wd)), s6', s7', ?_⟩
    refine seq_nx (r1 := [.d (nums ns), .d (eB n R), .d (nums cs), .d (nd a), .d (nd q), .own [], s6, s7]) rfl ?_
    refine seq_nx l1_ ?_
    refine seq_nx (r1 := [.d (nums ns), .d (eB n R), .d (nums cs), .d (nd a), .d (nd q), .d (.list (Ws.map wd)), s6', s7']) rfl ?_
    generalize Ws.map wd = WD at rt
    generalize nums ns = NS_
    generalize nums cs = CS
    simp only [e_vVar, e_vRd, e_vC, e_v1, e_v2, e_c1, e_c2, e_l1, e_l2, e_vL, e_vB, e_vArgs0, e_vArgs, e_vTup, e_vCall, e_vIf, e_bTr, e_bNot, e_bAnd, e_bOr, e_bChain, e_iSeq, e_iRange1, e_iRange2, e_vCut, e_vOpt0, e_vOpt, e_sNx, e_sBk, e_sCt, e_sSeq, e_sSet, e_sOwn, e_sPut, e_sFreeze, e_sRet, e_sExpr, e_sIf, e_sApp, e_sPar, e_sFor, runD, slots, so_ok, rb_ok, rb_none, so_none, po_some, List.getElem?_cons_zero, List.getElem?_cons_succ, List.set_cons_zero, List.set_cons_succ, List.map_cons, List.map_nil, List.length_cons, List.length_nil, List.replicate, List.append_nil, List.cons_append, List.nil_append, rb_er, so_er, e_sErr, e_sTry, e_iEnumE, e_sSetIx, Bool.not_true, Bool.not_false, Bool.false_eq_true, Bool.true_and, Bool.false_and, Bool.and_true, Bool.and_false, Bool.true_or, Bool.false_or, Bool.or_true, Bool.or_false, if_true, if_false, Option.map_some, tr_bool, int_int, add_int, sub_int, rt]
  rw [b_law, e8]
  refine seq_nx (r1 := [.d (nums ns), .d (eB n R), .un, .un, .un, .un, .un, .un]) (by simp only [e_vVar, e_vRd, e_vC, e_v1, e_v2, e_c1, e_c2, e_l1, e_l2, e_vL, e_vB, e_vArgs0, e_vArgs, e_vTup, e_vCall, e_vIf, e_bTr, e_bNot, e_bAnd, e_bOr, e_bChain, e_iSeq, e_iRange1, e_iRange2, e_vCut, e_vOpt0, e_vOpt, e_sNx, e_sBk, e_sCt, e_sSeq, e_sSet, e_sOwn, e_sPut, e_sFreeze, e_sRet, e_sExpr, e_sIf, e_sApp, e_sPar, e_sFor, runD, slots, so_ok, rb_ok, rb_none, so_none, po_some, List.getElem?_cons_zero, List.getElem?_cons_succ, List.set_cons_zero, List.set_cons_succ, List.map_cons, List.map_nil, List.length_cons, List.length_nil, List.replicate, List.append_nil, List.cons_append, List.nil_append, rb_er, so_er, e_sErr, e_sTry, e_iEnumE, e_sSetIx, Bool.not_true, Bool.not_false, Bool.false_eq_true, Bool.true_and, Bool.false_and, Bool.and_true, Bool.and_false, Bool.true_or, Bool.false_or, Bool.or_true, Bool.or_false, if_true, if_false, Option.map_some, tr_bool, int_int, add_int, sub_int, hc0, d0', b1]) ?_
  refine seq_nx (r1 := [.d (nums ns), .d (eB n R), .d (nums cs), .un, .un, .un, .un, .un]) (by
    generalize nums cs = CS at ad
    generalize nums zs = ZS at hz ad
    simp only [e_vVar, e_vRd, e_vC, e_v1, e_v2, e_c1, e_c2, e_l1, e_l2, e_vL, e_vB, e_vArgs0, e_vArgs, e_vTup, e_vCall, e_vIf, e_bTr, e_bNot, e_bAnd, e_bOr, e_bChain, e_iSeq, e_iRange1, e_iRange2, e_vCut, e_vOpt0, e_vOpt, e_sNx, e_sBk, e_sCt, e_sSeq, e_sSet, e_sOwn, e_sPut, e_sFreeze, e_sRet, e_sExpr, e_sIf, e_sApp, e_sPar, e_sFor, runD, slots, so_ok, rb_ok, rb_none, so_none, po_some, List.getElem?_cons_zero, List.getElem?_cons_succ, List.set_cons_zero, List.set_cons_succ, List.map_cons, List.map_nil, List.length_cons, List.length_nil, List.replicate, List.append_nil, List.cons_append, List.nil_append, rb_er, so_er, e_sErr, e_sTry, e_iEnumE, e_sSetIx, Bool.not_true, Bool.not_false, Bool.false_eq_true, Bool.true_and, Bool.false_and, Bool.and_true, Bool.and_false, Bool.true_or, Bool.false_or, Bool.or_true, Bool.or_false, if_true, if_false, Option.map_some, tr_bool, int_int, add_int, sub_int, hk1, hz, ad]) ?_
  have inner : ∀ (a : Nat) (ha : a < n) (s4 s5 s6 s7 : Slot), ∃ s4' s5' s6' s7' : Slot, (sFor (iRange1 (v2 dIx (vVar 1) (vC (.int 0)))) (.one 4) (sSeq (sOwn 5 (vArgs [])) (sSeq (sFor (iRange1 (vC (.int 5))) (.one 6) (sSeq (sSet 7 (v2 dIx (vVar 2) (v2 dMod (v1 dInt (v2 dAdd (v2 dMul (vC (.int 5)) (v2 dAdd (v2 dMul (vVar 3) (v2 dIx (vVar 1) (vC (.int 0)))) (vVar 4))) (vVar 6))) (v1 dLen (vVar 2))))) (sApp 5 (vCall f_law_whole_way [(vVar 1), (vVar 3), (vVar 4), (v2 dIx (vCall f_law_draws [(vVar 7), (v2 dAdd (vVar 6) (vC (.int 1)))]) (vVar 6))])))) (sSeq (sFreeze 5) (sIf (bNot (bTr (vCall f_law_right [(vVar 1), (vVar 3), (vVar 4), (vVar 5)]))) (sRet (vC (.bool false))) sNx))))) [.d (nums ns), .d (eB n R), .d (nums cs), .d (nd a), s4, s5, s6, s7] = some (.nx [.d (nums ns), .d (eB n R), .d (nums cs), .d (nd a), s4', s5', s6', s7']) := by
    intro a ha s4 s5 s6 s7
    rw [e_sFor, show iRange1 (v2 dIx (vVar 1) (vC (.int 0))) [.d (nums ns), .d (eB n R), .d (nums cs), .d (nd a), s4, s5, s6, s7] = ok (rng 0 n) from by simp only [e_vVar, e_vRd, e_vC, e_v1, e_v2, e_c1, e_c2, e_l1, e_l2, e_vL, e_vB, e_vArgs0, e_vArgs, e_vTup, e_vCall, e_vIf, e_bTr, e_bNot, e_bAnd, e_bOr, e_bChain, e_iSeq, e_iRange1, e_iRange2, e_vCut, e_vOpt0, e_vOpt, e_sNx, e_sBk, e_sCt, e_sSeq, e_sSet, e_sOwn, e_sPut, e_sFreeze, e_sRet, e_sExpr, e_sIf, e_sApp, e_sPar, e_sFor, runD, slots, so_ok, rb_ok, rb_none, so_none, po_some, List.getElem?_cons_zero, List.getElem?_cons_succ, List.set_cons_zero, List.set_cons_succ, List.map_cons, List.map_nil, List.length_cons, List.length_nil, List.replicate, List.append_nil, List.cons_append, List.nil_append, rb_er, so_er, e_sErr, e_sTry, e_iEnumE, e_sSetIx, Bool.not_true, Bool.not_false, Bool.false_eq_true, Bool.true_and, Bool.false_and, Bool.and_true, Bool.and_false, Bool.true_or, Bool.false_or, Bool.or_true, Bool.or_false, if_true, if_false, Option.map_some, tr_bool, int_int, add_int, sub_int, x0b, rg], so_ok]
    generalize hL : loopF _ _ _ _ = L
    obtain ⟨r', rfl, s4', s5', s6', s7', rfl⟩ := loop_out hL (fun j e => ∃ s4 s5 s6 s7 : Slot, e = [.d (nums ns), .d (eB n R), .d (nums cs), .d (nd a), s4, s5, s6, s7]) ⟨_, _, _, _, rfl⟩ (by
      rintro q y e hy ⟨s4, s5, s6, s7, rfl⟩
      have hq := (List.getElem?_eq_some_iff.mp hy).1
      rw [rng_size] at hq
      rw [rng_at 0 _ q hq] at hy
      cases hy
      rw [show (0 : Int) + (q : Nat) = (q : Nat) by omega]
      obtain ⟨t5, t6, t7, h⟩ := turn a q ha hq s5 s6 s7
      exact ⟨_, _, rfl, h, _, _, _, _, rfl⟩)
    exact ⟨_, _, _, _, rfl⟩
  have outer : ∃ s3' s4' s5' s6' s7' : Slot, (sFor (iRange1 (v2 dIx (vVar 1) (vC (.int 0)))) (.one 3) (sFor (iRange1 (v2 dIx (vVar 1) (vC (.int 0)))) (.one 4) (sSeq (sOwn 5 (vArgs [])) (sSeq (sFor (iRange1 (vC (.int 5))) (.one 6) (sSeq (sSet 7 (v2 dIx (vVar 2) (v2 dMod (v1 dInt (v2 dAdd (v2 dMul (vC (.int 5)) (v2 dAdd (v2 dMul (vVar 3) (v2 dIx (vVar 1) (vC (.int 0)))) (vVar 4))) (vVar 6))) (v1 dLen (vVar 2))))) (sApp 5 (vCall f_law_whole_way [(vVar 1), (vVar 3), (vVar 4), (v2 dIx (vCall f_law_draws [(vVar 7), (v2 dAdd (vVar 6) (vC (.int 1)))]) (vVar 6))])))) (sSeq (sFreeze 5) (sIf (bNot (bTr (vCall f_law_right [(vVar 1), (vVar 3), (vVar 4), (vVar 5)]))) (sRet (vC (.bool false))) sNx)))))) [.d (nums ns), .d (eB n R), .d (nums cs), .un, .un, .un, .un, .un] = some (.nx [.d (nums ns), .d (eB n R), .d (nums cs), s3', s4', s5', s6', s7']) := by
    rw [e_sFor, show iRange1 (v2 dIx (vVar 1) (vC (.int 0))) [.d (nums ns), .d (eB n R), .d (nums cs), .un, .un, .un, .un, .un] = ok (rng 0 n) from by simp only [e_vVar, e_vRd, e_vC, e_v1, e_v2, e_c1, e_c2, e_l1, e_l2, e_vL, e_vB, e_vArgs0, e_vArgs, e_vTup, e_vCall, e_vIf, e_bTr, e_bNot, e_bAnd, e_bOr, e_bChain, e_iSeq, e_iRange1, e_iRange2, e_vCut, e_vOpt0, e_vOpt, e_sNx, e_sBk, e_sCt, e_sSeq, e_sSet, e_sOwn, e_sPut, e_sFreeze, e_sRet, e_sExpr, e_sIf, e_sApp, e_sPar, e_sFor, runD, slots, so_ok, rb_ok, rb_none, so_none, po_some, List.getElem?_cons_zero, List.getElem?_cons_succ, List.set_cons_zero, List.set_cons_succ, List.map_cons, List.map_nil, List.length_cons, List.length_nil, List.replicate, List.append_nil, List.cons_append, List.nil_append, rb_er, so_er, e_sErr, e_sTry, e_iEnumE, e_sSetIx, Bool.not_true, Bool.not_false, Bool.false_eq_true, Bool.true_and, Bool.false_and, Bool.and_true, Bool.and_false, Bool.true_or, Bool.false_or, Bool.or_true, Bool.or_false, if_true, if_false, Option.map_some, tr_bool, int_int, add_int, sub_int, x0b, rg], so_ok]
    generalize hL : loopF _ _ _ _ = L
    obtain ⟨r', rfl, s3', s4', s5', s6', s7', rfl⟩ := loop_out hL (fun j e => ∃ s3 s4 s5 s6 s7 : Slot, e = [.d (nums ns), .d (eB n R), .d (nums cs), s3, s4, s5, s6, s7]) ⟨_, _, _, _, _, rfl⟩ (by
      rintro a y e hy ⟨s3, s4, s5, s6, s7, rfl⟩
      have ha := (List.getElem?_eq_some_iff.mp hy).1
      rw [rng_size] at ha
      rw [rng_at 0 _ a ha] at hy
      cases hy
      rw [show (0 : Int) + (a : Nat) = (a : Nat) by omega]
      obtain ⟨t4, t5, t6, t7, h⟩ := inner a ha s4 s5 s6 s7
      exact ⟨_, _, rfl, h, _, _, _, _, _, rfl⟩)
    exact ⟨_, _, _, _, _, rfl⟩
  obtain ⟨s3', s4', s5', s6', s7', ho⟩ := outer
  refine seq_nx ho rfl
end K24
/-! Each def of the text is the function of Core. Made by wip/tools/gen.py. -/
namespace K24
open PySem PySem.Spec PyProof.Rows L2 DL
def top (i : Nat) : Stmt := PySem.Challenge.pw_onerest_k24_whole_results_by_every_way.main.body.getD i (.Pass ⟨0, 0, 0, 0⟩)
structure Cn (mg : Str → Option Value) : Prop where
  c_MOST_STATES : ∃ t, mg "MOST_STATES" = some (.int (4) t)
  c_MOST_RULES : ∃ t, mg "MOST_RULES" = some (.int (12) t)
structure Er (P : Program) (w : World) (K : PySem.W.Frag) (mg : Str → Option Value) (base : Heap) (ec : EC) : Prop where
  g_BadBook : mg (PySem.Str.ofString "BadBook") = some (.ref (ec "BadBook"))
  g_BadState : mg (PySem.Str.ofString "BadState") = some (.ref (ec "BadState"))
  g_NoEnd : mg (PySem.Str.ofString "NoEnd") = some (.ref (ec "NoEnd"))
  g_BadWay : mg (PySem.Str.ofString "BadWay") = some (.ref (ec "BadWay"))
  f_BadBook : errF K (ec "BadBook") = true
  f_BadState : errF K (ec "BadState") = true
  f_NoEnd : errF K (ec "NoEnd") = true
  i_BadWay : ErrI P w K mg base ec "BadWay" "place"
  tab : TabT K ec tabl
abbrev s_BadWay : Stmt := (clsBody (top 5)).getD 0 (.Pass ⟨0, 0, 0, 0⟩)
abbrev N_BadWay : List Str := ["self", "place"]
theorem sc_BadWay : FnScope N_BadWay N_BadWay (defScope s_BadWay) := ⟨rfl, rfl, rfl, by decide +kernel, rfl, by decide +kernel, by decide +kernel⟩
theorem in_BadWay {P : Program} {w : World} {K : PySem.W.Frag} {mg : Str → Option Value} {base : Heap} {f C Cr : Addr} {fd : FuncData} (F : Fun K "__init__" "BadWay.__init__" s_BadWay f fd) (gR : mg "RestError" = some (.ref Cr))
    (sg : PySem.W.specialIn K (.ref Cr) "__getattribute__" = some (some (.builtin "type.__getattribute__"))) (rd : PySem.W.readsIn K Cr (.type "type") = true) (fc : PySem.W.findCls K (.ref Cr) (.type "type") "__init__" = some (.val (.builtin "ValueError.__init__"))) :
    FnOk P w K mg base (L2.CX P w) 1 f fd N_BadWay (spI K C "place") := by
  refine F.okX sc_BadWay (fun vs H Q E h => by obtain ⟨a, i, rfl, _⟩ := h; rfl) (fun cdv A outer s H vs Q E hr h => ⟨_, pss_cons (ps_expr (pe_reinit (pl := _) rfl gR sg rd fc (pa_cons (pv 0) (pa_cons (pe_joined (.cons pe_str (.cons (pe_fmt (pv 1)) (.cons pe_str .nil)))) pa_nil)) (by decide +kernel))) (pss_cons (ps_ost (pv 0) (pv 1)) pss_nil), ?_⟩)
  obtain ⟨a, i, rfl, hl, T, hf, ha, q⟩ := h
  exact init_use (by decide +kernel) (by decide +kernel) hl T hf ha fun dx n ne => q dx n ne
abbrev s_is_integer : Stmt := top 7
abbrev N_is_integer : List Str := ["thing"]
abbrev P_is_integer : List Str := ["thing"]
theorem sc_is_integer : FnScope N_is_integer P_is_integer (defScope s_is_integer) := ⟨rfl, rfl, rfl, by decide +kernel, rfl, by decide +kernel, by decide +kernel⟩
abbrev s_is_integer_from : Stmt := top 8
abbrev N_is_integer_from : List Str := ["thing", "low", "high"]
abbrev P_is_integer_from : List Str := ["thing", "low", "high"]
theorem sc_is_integer_from : FnScope N_is_integer_from P_is_integer_from (defScope s_is_integer_from) := ⟨rfl, rfl, rfl, by decide +kernel, rfl, by decide +kernel, by decide +kernel⟩
abbrev s_is_number_below : Stmt := top 9
abbrev N_is_number_below : List Str := ["thing", "limit"]
abbrev P_is_number_below : List Str := ["thing", "limit"]
theorem sc_is_number_below : FnScope N_is_number_below P_is_number_below (defScope s_is_number_below) := ⟨rfl, rfl, rfl, by decide +kernel, rfl, by decide +kernel, by decide +kernel⟩
abbrev s_is_tuple_of : Stmt := top 10
abbrev N_is_tuple_of : List Str := ["thing", "length"]
abbrev P_is_tuple_of : List Str := ["thing", "length"]
theorem sc_is_tuple_of : FnScope N_is_tuple_of P_is_tuple_of (defScope s_is_tuple_of) := ⟨rfl, rfl, rfl, by decide +kernel, rfl, by decide +kernel, by decide +kernel⟩
abbrev s_are_numbers_below : Stmt := top 11
abbrev N_are_numbers_below : List Str := ["things", "limit", "thing"]
abbrev P_are_numbers_below : List Str := ["things", "limit"]
theorem sc_are_numbers_below : FnScope N_are_numbers_below P_are_numbers_below (defScope s_are_numbers_below) := ⟨rfl, rfl, rfl, by decide +kernel, rfl, by decide +kernel, by decide +kernel⟩
abbrev s_is_rule : Stmt := top 16
abbrev N_is_rule : List Str := ["n", "thing", "above", "own", "new", "signal"]
abbrev P_is_rule : List Str := ["n", "thing"]
theorem sc_is_rule : FnScope N_is_rule P_is_rule (defScope s_is_rule) := ⟨rfl, rfl, rfl, by decide +kernel, rfl, by decide +kernel, by decide +kernel⟩
abbrev s_is_book : Stmt := top 15
abbrev N_is_book : List Str := ["thing", "n", "rules", "rule"]
abbrev P_is_book : List Str := ["thing"]
theorem sc_is_book : FnScope N_is_book P_is_book (defScope s_is_book) := ⟨rfl, rfl, rfl, by decide +kernel, rfl, by decide +kernel, by decide +kernel⟩
abbrev s_check_book : Stmt := top 17
abbrev N_check_book : List Str := ["thing"]
abbrev P_check_book : List Str := ["thing"]
theorem sc_check_book : FnScope N_check_book P_check_book (defScope s_check_book) := ⟨rfl, rfl, rfl, by decide +kernel, rfl, by decide +kernel, by decide +kernel⟩
abbrev s_check_state : Stmt := top 18
abbrev N_check_state : List Str := ["book", "thing"]
abbrev P_check_state : List Str := ["book", "thing"]
theorem sc_check_state : FnScope N_check_state P_check_state (defScope s_check_state) := ⟨rfl, rfl, rfl, by decide +kernel, rfl, by decide +kernel, by decide +kernel⟩
abbrev s_fitting_rules : Stmt := top 20
abbrev N_fitting_rules : List Str := ["book", "above", "own", "number", "rule"]
abbrev P_fitting_rules : List Str := ["book", "above", "own"]
theorem sc_fitting_rules : FnScope N_fitting_rules P_fitting_rules (defScope s_fitting_rules) := ⟨rfl, rfl, rfl, by decide +kernel, rfl, by decide +kernel, by decide +kernel⟩
abbrev s_rules_for : Stmt := top 19
abbrev N_rules_for : List Str := ["book", "above", "own"]
abbrev P_rules_for : List Str := ["book", "above", "own"]
theorem sc_rules_for : FnScope N_rules_for P_rules_for (defScope s_rules_for) := ⟨rfl, rfl, rfl, by decide +kernel, rfl, by decide +kernel, by decide +kernel⟩
abbrev s_ranks_under : Stmt := top 22
abbrev N_ranks_under : List Str := ["book", "above", "n", "rules", "ranks", "_", "own", "rule"]
abbrev P_ranks_under : List Str := ["book", "above"]
theorem sc_ranks_under : FnScope N_ranks_under P_ranks_under (defScope s_ranks_under) := ⟨rfl, rfl, rfl, by decide +kernel, rfl, by decide +kernel, by decide +kernel⟩
abbrev s_has_ring_in : Stmt := top 23
abbrev N_has_ring_in : List Str := ["ranks"]
abbrev P_has_ring_in : List Str := ["ranks"]
theorem sc_has_ring_in : FnScope N_has_ring_in P_has_ring_in (defScope s_has_ring_in) := ⟨rfl, rfl, rfl, by decide +kernel, rfl, by decide +kernel, by decide +kernel⟩
abbrev s_has_ring : Stmt := top 24
abbrev N_has_ring : List Str := ["book", "above"]
abbrev P_has_ring : List Str := ["book"]
theorem sc_has_ring : FnScope N_has_ring P_has_ring (defScope s_has_ring) := ⟨rfl, rfl, rfl, by decide +kernel, rfl, by decide +kernel, by decide +kernel⟩
abbrev s_check_ends : Stmt := top 25
abbrev N_check_ends : List Str := ["book"]
abbrev P_check_ends : List Str := ["book"]
theorem sc_check_ends : FnScope N_check_ends P_check_ends (defScope s_check_ends) := ⟨rfl, rfl, rfl, by decide +kernel, rfl, by decide +kernel, by decide +kernel⟩
abbrev s_check_states : Stmt := top 29
abbrev N_check_states : List Str := ["book", "states", "state"]
abbrev P_check_states : List Str := ["book", "states"]
theorem sc_check_states : FnScope N_check_states P_check_states (defScope s_check_states) := ⟨rfl, rfl, rfl, by decide +kernel, rfl, by decide +kernel, by decide +kernel⟩
abbrev s_signal_of : Stmt := top 28
abbrev N_signal_of : List Str := ["book", "numbers", "signal", "number", "state"]
abbrev P_signal_of : List Str := ["book", "numbers"]
theorem sc_signal_of : FnScope N_signal_of P_signal_of (defScope s_signal_of) := ⟨rfl, rfl, rfl, by decide +kernel, rfl, by decide +kernel, by decide +kernel⟩
abbrev s_way_result : Stmt := top 27
abbrev N_way_result : List Str := ["book", "above", "own", "numbers", "place", "number"]
abbrev P_way_result : List Str := ["book", "above", "own", "numbers"]
theorem sc_way_result : FnScope N_way_result P_way_result (defScope s_way_result) := ⟨rfl, rfl, rfl, by decide +kernel, rfl, by decide +kernel, by decide +kernel⟩
abbrev s_rest_ways : Stmt := top 33
abbrev N_rest_ways : List Str := ["book", "above", "own", "child", "ways", "met", "at", "state", "below", "number", "_", "new", "signal", "pair"]
abbrev P_rest_ways : List Str := ["book", "above", "own", "child"]
theorem sc_rest_ways : FnScope N_rest_ways P_rest_ways (defScope s_rest_ways) := ⟨rfl, rfl, rfl, by decide +kernel, rfl, by decide +kernel, by decide +kernel⟩
abbrev s_results_of : Stmt := top 32
abbrev N_results_of : List Str := ["book", "above", "own", "child"]
abbrev P_results_of : List Str := ["book", "above", "own", "child"]
theorem sc_results_of : FnScope N_results_of P_results_of (defScope s_results_of) := ⟨rfl, rfl, rfl, by decide +kernel, rfl, by decide +kernel, by decide +kernel⟩
abbrev s_node_rests : Stmt := top 30
abbrev N_node_rests : List Str := ["book", "above", "own", "rest", "_"]
abbrev P_node_rests : List Str := ["book", "above", "own"]
theorem sc_node_rests : FnScope N_node_rests P_node_rests (defScope s_node_rests) := ⟨rfl, rfl, rfl, by decide +kernel, rfl, by decide +kernel, by decide +kernel⟩
abbrev s_node_results : Stmt := top 31
abbrev N_node_results : List Str := ["book", "above", "own", "child"]
abbrev P_node_results : List Str := ["book", "above", "own", "child"]
theorem sc_node_results : FnScope N_node_results P_node_results (defScope s_node_results) := ⟨rfl, rfl, rfl, by decide +kernel, rfl, by decide +kernel, by decide +kernel⟩
abbrev s_way_by_least_numbers : Stmt := top 35
abbrev N_way_by_least_numbers : List Str := ["book", "above", "own", "way", "fitting"]
abbrev P_way_by_least_numbers : List Str := ["book", "above", "own"]
theorem sc_way_by_least_numbers : FnScope N_way_by_least_numbers P_way_by_least_numbers (defScope s_way_by_least_numbers) := ⟨rfl, rfl, rfl, by decide +kernel, rfl, by decide +kernel, by decide +kernel⟩
abbrev s_first_way : Stmt := top 34
abbrev N_first_way : List Str := ["book", "above", "own"]
abbrev P_first_way : List Str := ["book", "above", "own"]
theorem sc_first_way : FnScope N_first_way P_first_way (defScope s_first_way) := ⟨rfl, rfl, rfl, by decide +kernel, rfl, by decide +kernel, by decide +kernel⟩
abbrev s_law_cell : Stmt := top 37
abbrev N_law_cell : List Str := ["script", "k"]
abbrev P_law_cell : List Str := ["script", "k"]
theorem sc_law_cell : FnScope N_law_cell P_law_cell (defScope s_law_cell) := ⟨rfl, rfl, rfl, by decide +kernel, rfl, by decide +kernel, by decide +kernel⟩
abbrev s_law_draws : Stmt := top 38
abbrev N_law_draws : List Str := ["cell", "many", "found", "rest", "k", "number"]
abbrev P_law_draws : List Str := ["cell", "many"]
theorem sc_law_draws : FnScope N_law_draws P_law_draws (defScope s_law_draws) := ⟨rfl, rfl, rfl, by decide +kernel, rfl, by decide +kernel, by decide +kernel⟩
abbrev s_law_rule : Stmt := top 39
abbrev N_law_rule : List Str := ["x", "many", "kind", "above", "own", "new", "rest", "signal", "state"]
abbrev P_law_rule : List Str := ["x", "many", "kind"]
theorem sc_law_rule : FnScope N_law_rule P_law_rule (defScope s_law_rule) := ⟨rfl, rfl, rfl, by decide +kernel, rfl, by decide +kernel, by decide +kernel⟩
abbrev s_law_same : Stmt := top 40
abbrev N_law_same : List Str := ["found", "due", "alike", "k"]
abbrev P_law_same : List Str := ["found", "due"]
theorem sc_law_same : FnScope N_law_same P_law_same (defScope s_law_same) := ⟨rfl, rfl, rfl, by decide +kernel, rfl, by decide +kernel, by decide +kernel⟩
abbrev s_law_ending_book : Stmt := top 41
abbrev N_law_ending_book : List Str := ["xs", "many", "rules", "x", "rule"]
abbrev P_law_ending_book : List Str := ["xs"]
theorem sc_law_ending_book : FnScope N_law_ending_book P_law_ending_book (defScope s_law_ending_book) := ⟨rfl, rfl, rfl, by decide +kernel, rfl, by decide +kernel, by decide +kernel⟩
abbrev s_law_whole_way : Stmt := top 42
abbrev N_law_whole_way : List Str := ["book", "above", "own", "x", "state", "numbers", "turn", "can", "k"]
abbrev P_law_whole_way : List Str := ["book", "above", "own", "x"]
theorem sc_law_whole_way : FnScope N_law_whole_way P_law_whole_way (defScope s_law_whole_way) := ⟨rfl, rfl, rfl, by decide +kernel, rfl, by decide +kernel, by decide +kernel⟩
abbrev s_law_found_ways : Stmt := top 43
abbrev N_law_found_ways : List Str := ["book", "above", "own", "child", "met", "ways", "turn", "k", "rule", "pair"]
abbrev P_law_found_ways : List Str := ["book", "above", "own", "child"]
theorem sc_law_found_ways : FnScope N_law_found_ways P_law_found_ways (defScope s_law_found_ways) := ⟨rfl, rfl, rfl, by decide +kernel, rfl, by decide +kernel, by decide +kernel⟩
abbrev s_law_right : Stmt := top 44
abbrev N_law_right : List Str := ["book", "above", "own", "ways", "rests", "states", "child", "found", "met", "known", "pair", "state", "signal", "way"]
abbrev P_law_right : List Str := ["book", "above", "own", "ways"]
theorem sc_law_right : FnScope N_law_right P_law_right (defScope s_law_right) := ⟨rfl, rfl, rfl, by decide +kernel, rfl, by decide +kernel, by decide +kernel⟩
abbrev s_law : Stmt := top 45
abbrev N_law : List Str := ["script", "book", "cells", "above", "own", "ways", "k", "cell"]
abbrev P_law : List Str := ["script"]
theorem sc_law : FnScope N_law P_law (defScope s_law) := ⟨rfl, rfl, rfl, by decide +kernel, rfl, by decide +kernel, by decide +kernel⟩
section
variable {P : Program} {w : World} {K : PySem.W.Frag} {mg : Str → Option Value} {base : Heap} {ec : EC}
theorem ok_is_integer (T : Bl mg) (C : Cn mg) (Z : Er P w K mg base ec) (D : DAt K mg "is_integer" s_is_integer P_is_integer) : DOk P w K mg base ec "is_integer" P_is_integer 1 1 f_is_integer := by
  refine DAt.ok (n := 1) (p := 1) D sc_is_integer rfl rfl fun f cdv A outer s H E hr => ?_
  have S := sc_is_integer
  have hp := passes_of (X := cxOf (L2.CX P w) P w K mg base N_is_integer "is_integer" (defScope s_is_integer) f cdv A outer s H E) rfl
  have tk := takes_of (X := cxOf (L2.CX P w) P w K mg base N_is_integer "is_integer" (defScope s_is_integer) f cdv A outer s H E) (E := E) rfl rfl rfl rfl
  have hu := hu65 hr
  exact (dss_one (ds_ret (db_and (db_isi kind_int rfl T.isinstance rfl T.int (by decide +kernel) (DE.x (de_var 0))) (db_one (db_not (db_isi kind_bool rfl T.isinstance rfl T.bool (by decide +kernel) (DE.x (de_var 0))))))))
theorem ok_is_integer_from (T : Bl mg) (C : Cn mg) (Z : Er P w K mg base ec) (D : DAt K mg "is_integer_from" s_is_integer_from P_is_integer_from) (G_is_integer : DOk P w K mg base ec "is_integer" P_is_integer 1 1 f_is_integer) : DOk P w K mg base ec "is_integer_from" P_is_integer_from 2 3 f_is_integer_from := by
  refine DAt.ok (n := 3) (p := 3) D sc_is_integer_from rfl rfl fun f cdv A outer s H E hr => ?_
  have S := sc_is_integer_from
  have hp := passes_of (X := cxOf (L2.CX P w) P w K mg base N_is_integer_from "is_integer_from" (defScope s_is_integer_from) f cdv A outer s H E) rfl
  have tk := takes_of (X := cxOf (L2.CX P w) P w K mg base N_is_integer_from "is_integer_from" (defScope s_is_integer_from) f cdv A outer s H E) (E := E) rfl rfl rfl rfl
  have hu := hu65 hr
  exact (dss_one (ds_ret (db_and (DE.tr (de_callD G_is_integer hr tk (by decide) rfl (da_cons (de_var 0) da_nil))) (db_one (db_chain op_le op_le o_le o_le (DE.x (de_var 1)) (DE.x (de_var 0)) (DE.x (de_var 2)))))))
theorem ok_is_number_below (T : Bl mg) (C : Cn mg) (Z : Er P w K mg base ec) (D : DAt K mg "is_number_below" s_is_number_below P_is_number_below) (G_is_integer_from : DOk P w K mg base ec "is_integer_from" P_is_integer_from 2 3 f_is_integer_from) : DOk P w K mg base ec "is_number_below" P_is_number_below 3 2 f_is_number_below := by
  refine DAt.ok (n := 2) (p := 2) D sc_is_number_below rfl rfl fun f cdv A outer s H E hr => ?_
  have S := sc_is_number_below
  have hp := passes_of (X := cxOf (L2.CX P w) P w K mg base N_is_number_below "is_number_below" (defScope s_is_number_below) f cdv A outer s H E) rfl
  have tk := takes_of (X := cxOf (L2.CX P w) P w K mg base N_is_number_below "is_number_below" (defScope s_is_number_below) f cdv A outer s H E) (E := E) rfl rfl rfl rfl
  have hu := hu65 hr
  exact (dss_one (ds_ret (de_callD G_is_integer_from hr tk (by decide) rfl (da_cons (de_var 0) (da_cons de_int (da_cons (de_op op_subA o_sub (DE.x (de_var 1)) (DE.x de_int)) da_nil))))))
theorem ok_is_tuple_of (T : Bl mg) (C : Cn mg) (Z : Er P w K mg base ec) (D : DAt K mg "is_tuple_of" s_is_tuple_of P_is_tuple_of) : DOk P w K mg base ec "is_tuple_of" P_is_tuple_of 1 2 f_is_tuple_of := by
  refine DAt.ok (n := 2) (p := 2) D sc_is_tuple_of rfl rfl fun f cdv A outer s H E hr => ?_
  have S := sc_is_tuple_of
  have hp := passes_of (X := cxOf (L2.CX P w) P w K mg base N_is_tuple_of "is_tuple_of" (defScope s_is_tuple_of) f cdv A outer s H E) rfl
  have tk := takes_of (X := cxOf (L2.CX P w) P w K mg base N_is_tuple_of "is_tuple_of" (defScope s_is_tuple_of) f cdv A outer s H E) (E := E) rfl rfl rfl rfl
  have hu := hu65 hr
  exact (dss_one (ds_ret (db_and (db_isi kind_tuple rfl T.isinstance rfl T.tuple (by decide +kernel) (DE.x (de_var 0))) (db_one (db_cmp (op_eqQ hu) o_eqQ (DE.x (de_b1 call_len_seq b_len rfl T.len (DE.x (de_var 0)) PySem.boot_len)) (DE.x (de_var 1)) (nomark _))))))
theorem ok_are_numbers_below (T : Bl mg) (C : Cn mg) (Z : Er P w K mg base ec) (D : DAt K mg "are_numbers_below" s_are_numbers_below P_are_numbers_below) (G_is_number_below : DOk P w K mg base ec "is_number_below" P_is_number_below 3 2 f_is_number_below) : DOk P w K mg base ec "are_numbers_below" P_are_numbers_below 4 2 f_are_numbers_below := by
  refine DAt.ok (n := 3) (p := 2) D sc_are_numbers_below rfl rfl fun f cdv A outer s H E hr => ?_
  have S := sc_are_numbers_below
  have hp := passes_of (X := cxOf (L2.CX P w) P w K mg base N_are_numbers_below "are_numbers_below" (defScope s_are_numbers_below) f cdv A outer s H E) rfl
  have tk := takes_of (X := cxOf (L2.CX P w) P w K mg base N_are_numbers_below "are_numbers_below" (defScope s_are_numbers_below) f cdv A outer s H E) (E := E) rfl rfl rfl rfl
  have hu := hu65 hr
  exact (dss_one (ds_ret (db_b1 (cr_all rfl) b_all rfl T.all (DE.x (DLi.d (dl_comp rfl S.nd (dix_seq (DE.x (de_var 0))) (blkOk_by (own := [("thing", 2)]) (N := N_are_numbers_below) (sc := defScope s_are_numbers_below) (by decide +kernel)) rfl (fun _ _ _ _ _ => (pg_name (i := 2) S.nd rfl (by first | exact .inl rfl | exact .inr rfl))) (fun _ _ _ _ _ => dts_nil) (fun _ _ _ _ _ => (de_callD G_is_number_below hr takes0 (by decide) rfl (da_cons (de_var 2) (da_cons (de_var 1) da_nil))))))) PyProof.Rows.boot_all)))
theorem ok_is_rule (T : Bl mg) (C : Cn mg) (Z : Er P w K mg base ec) (D : DAt K mg "is_rule" s_is_rule P_is_rule) (G_is_tuple_of : DOk P w K mg base ec "is_tuple_of" P_is_tuple_of 1 2 f_is_tuple_of) (G_are_numbers_below : DOk P w K mg base ec "are_numbers_below" P_are_numbers_below 4 2 f_are_numbers_below) : DOk P w K mg base ec "is_rule" P_is_rule 5 2 f_is_rule := by
  refine DAt.ok (n := 6) (p := 2) D sc_is_rule rfl rfl fun f cdv A outer s H E hr => ?_
  have S := sc_is_rule
  have hp := passes_of (X := cxOf (L2.CX P w) P w K mg base N_is_rule "is_rule" (defScope s_is_rule) f cdv A outer s H E) rfl
  have tk := takes_of (X := cxOf (L2.CX P w) P w K mg base N_is_rule "is_rule" (defScope s_is_rule) f cdv A outer s H E) (E := E) rfl rfl rfl rfl
  have hu := hu65 hr
  exact (dss_cons (ds_if (dt_not (DE.test (de_callD G_is_tuple_of hr tk (by decide) rfl (da_cons (de_var 1) (da_cons de_int da_nil))))) (dss_one (ds_ret de_bl)) dss_nil) (dss_cons (ds_put (g := (.many [2, 3, 4, 5])) (de_var 1) (pg_tup rfl (pgs_cons (pg_name (i := 2) S.nd rfl (by first | exact .inl rfl | exact .inr rfl)) (pgs_cons (pg_name (i := 3) S.nd rfl (by first | exact .inl rfl | exact .inr rfl)) (pgs_cons (pg_name (i := 4) S.nd rfl (by first | exact .inl rfl | exact .inr rfl)) (pgs_cons (pg_name (i := 5) S.nd rfl (by first | exact .inl rfl | exact .inr rfl)) pgs_nil)))))) (dss_cons (ds_if (DW.t (dw_or (dt_not (DE.test (de_callD G_are_numbers_below hr tk (by decide) rfl (da_cons (de_tup (da_cons (de_var 2) (da_cons (de_var 3) (da_cons (de_var 4) da_nil)))) (da_cons (de_var 0) da_nil))))) (dw_or1 (dt_cmp (op_eqQ hu) o_eqQ (DE.x (de_var 3)) (DE.x (de_var 4)) (nomark _))))) (dss_one (ds_ret de_bl)) dss_nil) (dss_one (ds_ret (db_and (DE.tr (de_callD G_is_tuple_of hr tk (by decide) rfl (da_cons (de_var 5) (da_cons (de_var 0) da_nil)))) (db_one (DE.tr (de_callD G_are_numbers_below hr tk (by decide) rfl (da_cons (de_var 5) (da_cons (de_var 0) da_nil)))))))))))
theorem ok_is_book (T : Bl mg) (C : Cn mg) (Z : Er P w K mg base ec) (D : DAt K mg "is_book" s_is_book P_is_book) (G_is_tuple_of : DOk P w K mg base ec "is_tuple_of" P_is_tuple_of 1 2 f_is_tuple_of) (G_is_integer_from : DOk P w K mg base ec "is_integer_from" P_is_integer_from 2 3 f_is_integer_from) (G_is_rule : DOk P w K mg base ec "is_rule" P_is_rule 5 2 f_is_rule) : DOk P w K mg base ec "is_book" P_is_book 6 1 f_is_book := by
  refine DAt.ok (n := 4) (p := 1) D sc_is_book rfl rfl fun f cdv A outer s H E hr => ?_
  have S := sc_is_book
  have hp := passes_of (X := cxOf (L2.CX P w) P w K mg base N_is_book "is_book" (defScope s_is_book) f cdv A outer s H E) rfl
  have tk := takes_of (X := cxOf (L2.CX P w) P w K mg base N_is_book "is_book" (defScope s_is_book) f cdv A outer s H E) (E := E) rfl rfl rfl rfl
  have hu := hu65 hr
  exact (dss_cons (ds_if (dt_not (DE.test (de_callD G_is_tuple_of hr tk (by decide) rfl (da_cons (de_var 0) (da_cons de_int da_nil))))) (dss_one (ds_ret de_bl)) dss_nil) (dss_cons (ds_put (g := (.many [1, 2])) (de_var 0) (pg_tup rfl (pgs_cons (pg_name (i := 1) S.nd rfl (by first | exact .inl rfl | exact .inr rfl)) (pgs_cons (pg_name (i := 2) S.nd rfl (by first | exact .inl rfl | exact .inr rfl)) pgs_nil)))) (dss_cons (ds_if (dt_not (DE.test (de_callD G_is_integer_from hr tk (by decide) rfl (da_cons (de_var 1) (da_cons de_int (da_cons (de_globI rfl C.c_MOST_STATES) da_nil)))))) (dss_one (ds_ret de_bl)) dss_nil) (dss_cons (ds_if (DW.t (dw_or (dt_not (DB.test (db_isi kind_tuple rfl T.isinstance rfl T.tuple (by decide +kernel) (DE.x (de_var 2))))) (dw_or1 (dt_cmp op_gt o_gt (DE.x (de_b1 call_len_seq b_len rfl T.len (DE.x (de_var 2)) PySem.boot_len)) (DE.x (de_globI rfl C.c_MOST_RULES)) (nomark _))))) (dss_one (ds_ret de_bl)) dss_nil) (dss_cons (ds_if (dt_not (DB.test (db_b1 (cr_all rfl) b_all rfl T.all (DE.x (DLi.d (dl_comp rfl S.nd (dix_seq (DE.x (de_var 2))) (blkOk_by (own := [("rule", 3)]) (N := N_is_book) (sc := defScope s_is_book) (by decide +kernel)) rfl (fun _ _ _ _ _ => (pg_name (i := 3) S.nd rfl (by first | exact .inl rfl | exact .inr rfl))) (fun _ _ _ _ _ => dts_nil) (fun _ _ _ _ _ => (de_callD G_is_rule hr takes0 (by decide) rfl (da_cons (de_var 1) (da_cons (de_var 3) da_nil))))))) PyProof.Rows.boot_all))) (dss_one (ds_ret de_bl)) dss_nil) (dss_one (ds_ret (db_cmp (op_eqQ hu) o_eqQ (DE.x (de_lenset hu rfl T.len rfl T.set (DE.x (de_var 2)))) (DE.x (de_b1 call_len_seq b_len rfl T.len (DE.x (de_var 2)) PySem.boot_len)) (nomark _)))))))))
theorem ok_check_book (T : Bl mg) (C : Cn mg) (Z : Er P w K mg base ec) (D : DAt K mg "check_book" s_check_book P_check_book) (G_is_book : DOk P w K mg base ec "is_book" P_is_book 6 1 f_is_book) : DOk P w K mg base ec "check_book" P_check_book 7 1 f_check_book := by
  refine DAt.ok (n := 1) (p := 1) D sc_check_book rfl rfl fun f cdv A outer s H E hr => ?_
  have S := sc_check_book
  have hp := passes_of (X := cxOf (L2.CX P w) P w K mg base N_check_book "check_book" (defScope s_check_book) f cdv A outer s H E) rfl
  have tk := takes_of (X := cxOf (L2.CX P w) P w K mg base N_check_book "check_book" (defScope s_check_book) f cdv A outer s H E) (E := E) rfl rfl rfl rfl
  have hu := hu65 hr
  exact (dss_one (ds_if (dt_not (DE.test (de_callD G_is_book hr tk (by decide) rfl (da_cons (de_var 0) da_nil)))) (dss_one (ds_raise (c := "BadBook") rfl tk ⟨Z.g_BadBook, Z.f_BadBook⟩ rfl)) dss_nil))
theorem ok_check_state (T : Bl mg) (C : Cn mg) (Z : Er P w K mg base ec) (D : DAt K mg "check_state" s_check_state P_check_state) (G_is_number_below : DOk P w K mg base ec "is_number_below" P_is_number_below 3 2 f_is_number_below) : DOk P w K mg base ec "check_state" P_check_state 4 2 f_check_state := by
  refine DAt.ok (n := 2) (p := 2) D sc_check_state rfl rfl fun f cdv A outer s H E hr => ?_
  have S := sc_check_state
  have hp := passes_of (X := cxOf (L2.CX P w) P w K mg base N_check_state "check_state" (defScope s_check_state) f cdv A outer s H E) rfl
  have tk := takes_of (X := cxOf (L2.CX P w) P w K mg base N_check_state "check_state" (defScope s_check_state) f cdv A outer s H E) (E := E) rfl rfl rfl rfl
  have hu := hu65 hr
  exact (dss_one (ds_if (dt_not (DE.test (de_callD G_is_number_below hr tk (by decide) rfl (da_cons (de_var 1) (da_cons (de_ix (DE.x (de_var 0)) (DE.x de_int)) da_nil))))) (dss_one (ds_raise (c := "BadState") rfl tk ⟨Z.g_BadState, Z.f_BadState⟩ rfl)) dss_nil))
theorem ok_fitting_rules (T : Bl mg) (C : Cn mg) (Z : Er P w K mg base ec) (D : DAt K mg "fitting_rules" s_fitting_rules P_fitting_rules) : DOk P w K mg base ec "fitting_rules" P_fitting_rules 1 3 f_fitting_rules := by
  refine DAt.ok (n := 5) (p := 3) D sc_fitting_rules rfl rfl fun f cdv A outer s H E hr => ?_
  have S := sc_fitting_rules
  have hp := passes_of (X := cxOf (L2.CX P w) P w K mg base N_fitting_rules "fitting_rules" (defScope s_fitting_rules) f cdv A outer s H E) rfl
  have tk := takes_of (X := cxOf (L2.CX P w) P w K mg base N_fitting_rules "fitting_rules" (defScope s_fitting_rules) f cdv A outer s H E) (E := E) rfl rfl rfl rfl
  have hu := hu65 hr
  exact (dss_one (ds_ret (DLi.d (dl_comp rfl S.nd (DI.x (di_enum rfl T.enumerate (de_ix (DE.x (de_var 0)) (DE.x de_int)))) (blkOk_by (own := [("number", 3), ("rule", 4)]) (N := N_fitting_rules) (sc := defScope s_fitting_rules) (by decide +kernel)) rfl (fun _ _ _ _ _ => (pg_tup rfl (pgs_cons (pg_name (i := 3) S.nd rfl (by first | exact .inl rfl | exact .inr rfl)) (pgs_cons (pg_name (i := 4) S.nd rfl (by first | exact .inl rfl | exact .inr rfl)) pgs_nil)))) (fun _ _ _ _ _ => (dts_one (DW.t (dw_and (dt_cmp (op_eqQ hu) o_eqQ (DE.x (de_ix (DE.x (de_var 4)) (DE.x de_int))) (DE.x (de_var 1)) (nomark _)) (dw_and1 (dt_cmp (op_eqQ hu) o_eqQ (DE.x (de_ix (DE.x (de_var 4)) (DE.x de_int))) (DE.x (de_var 2)) (nomark _))))))) (fun _ _ _ _ _ => (de_var 3))))))
theorem ok_rules_for (T : Bl mg) (C : Cn mg) (Z : Er P w K mg base ec) (D : DAt K mg "rules_for" s_rules_for P_rules_for) (G_check_book : DOk P w K mg base ec "check_book" P_check_book 7 1 f_check_book) (G_check_state : DOk P w K mg base ec "check_state" P_check_state 4 2 f_check_state) (G_fitting_rules : DOk P w K mg base ec "fitting_rules" P_fitting_rules 1 3 f_fitting_rules) : DOk P w K mg base ec "rules_for" P_rules_for 8 3 f_rules_for := by
  refine DAt.ok (n := 3) (p := 3) D sc_rules_for rfl rfl fun f cdv A outer s H E hr => ?_
  have S := sc_rules_for
  have hp := passes_of (X := cxOf (L2.CX P w) P w K mg base N_rules_for "rules_for" (defScope s_rules_for) f cdv A outer s H E) rfl
  have tk := takes_of (X := cxOf (L2.CX P w) P w K mg base N_rules_for "rules_for" (defScope s_rules_for) f cdv A outer s H E) (E := E) rfl rfl rfl rfl
  have hu := hu65 hr
  exact (dss_cons (ds_expr (de_callD G_check_book hr tk (by decide) rfl (da_cons (de_var 0) da_nil))) (dss_cons (ds_expr (de_callD G_check_state hr tk (by decide) rfl (da_cons (de_var 0) (da_cons (de_var 1) da_nil)))) (dss_cons (ds_expr (de_callD G_check_state hr tk (by decide) rfl (da_cons (de_var 0) (da_cons (de_var 2) da_nil)))) (dss_one (ds_ret (de_callD G_fitting_rules hr tk (by decide) rfl (da_cons (de_var 0) (da_cons (de_var 1) (da_cons (de_var 2) da_nil)))))))))
theorem ok_ranks_under (T : Bl mg) (C : Cn mg) (Z : Er P w K mg base ec) (D : DAt K mg "ranks_under" s_ranks_under P_ranks_under) : DOk P w K mg base ec "ranks_under" P_ranks_under 1 2 f_ranks_under := by
  refine DAt.ok (n := 8) (p := 2) D sc_ranks_under rfl rfl fun f cdv A outer s H E hr => ?_
  have S := sc_ranks_under
  have hp := passes_of (X := cxOf (L2.CX P w) P w K mg base N_ranks_under "ranks_under" (defScope s_ranks_under) f cdv A outer s H E) rfl
  have tk := takes_of (X := cxOf (L2.CX P w) P w K mg base N_ranks_under "ranks_under" (defScope s_ranks_under) f cdv A outer s H E) (E := E) rfl rfl rfl rfl
  have hu := hu65 hr
  exact (dss_cons (ds_put (g := (.many [2, 3])) (de_var 0) (pg_tup rfl (pgs_cons (pg_name (i := 2) S.nd rfl (by first | exact .inl rfl | exact .inr rfl)) (pgs_cons (pg_name (i := 3) S.nd rfl (by first | exact .inl rfl | exact .inr rfl)) pgs_nil)))) (dss_cons (ds_set (i := 4) S.nd rfl (by first | exact .inl rfl | exact .inr rfl) (DLi.d (dl_op op_repL o_rep (DE.x (DLi.d (dl_lst (da_cons de_int da_nil)))) (DE.x (de_var 2))))) (dss_cons (ds_for hp rfl (di_range1 rfl T.range (DE.x (de_var 2))) (pg_name (i := 5) S.nd rfl (by first | exact .inl rfl | exact .inr rfl)) (dss_one (ds_set (i := 4) S.nd rfl (by first | exact .inl rfl | exact .inr rfl) (DLi.d (dl_comp rfl S.nd (DI.x (di_range1 rfl T.range (DE.x (de_var 2)))) (blkOk_by (own := [("own", 6)]) (N := N_ranks_under) (sc := defScope s_ranks_under) (by decide +kernel)) rfl (fun _ _ _ _ _ => (pg_name (i := 6) S.nd rfl (by first | exact .inl rfl | exact .inr rfl))) (fun _ _ _ _ _ => dts_nil) (fun _ _ _ _ _ => (de_maxdef rfl hu rfl T.max (DE.x (DLi.d (dl_comp rfl S.nd (dix_seq (DE.x (de_var 3))) (blkOk_in (own := [("rule", 7)]) (N := N_ranks_under) (sc := defScope s_ranks_under) rfl rfl (by decide +kernel)) rfl (fun _ _ _ _ _ => (pg_name (i := 7) S.nd rfl (by first | exact .inl rfl | exact .inr rfl))) (fun _ _ _ _ _ => (dts_one (DW.t (dw_and (dt_cmp (op_eqQ hu) o_eqQ (DE.x (de_ix (DE.x (de_var 7)) (DE.x de_int))) (DE.x (de_var 1)) (nomark _)) (dw_and1 (dt_cmp (op_eqQ hu) o_eqQ (DE.x (de_ix (DE.x (de_var 7)) (DE.x de_int))) (DE.x (de_var 6)) (nomark _))))))) (fun _ _ _ _ _ => (de_op op_addA o_add (DE.x (de_ix (DE.x (de_var 4)) (DE.x (de_ix (DE.x (de_var 7)) (DE.x de_int))))) (DE.x de_int))))))))))))) (dss_one (ds_ret (de_var 4))))))
theorem ok_has_ring_in (T : Bl mg) (C : Cn mg) (Z : Er P w K mg base ec) (D : DAt K mg "has_ring_in" s_has_ring_in P_has_ring_in) : DOk P w K mg base ec "has_ring_in" P_has_ring_in 1 1 f_has_ring_in := by
  refine DAt.ok (n := 1) (p := 1) D sc_has_ring_in rfl rfl fun f cdv A outer s H E hr => ?_
  have S := sc_has_ring_in
  have hp := passes_of (X := cxOf (L2.CX P w) P w K mg base N_has_ring_in "has_ring_in" (defScope s_has_ring_in) f cdv A outer s H E) rfl
  have tk := takes_of (X := cxOf (L2.CX P w) P w K mg base N_has_ring_in "has_ring_in" (defScope s_has_ring_in) f cdv A outer s H E) (E := E) rfl rfl rfl rfl
  have hu := hu65 hr
  exact (dss_one (ds_ret (db_cmp (op_inS2 hu) o_in (DE.x (de_b1 call_len_seq b_len rfl T.len (DE.x (de_var 0)) PySem.boot_len)) (DE.x (de_var 0)) (by with_unfolding_all rfl))))
theorem ok_has_ring (T : Bl mg) (C : Cn mg) (Z : Er P w K mg base ec) (D : DAt K mg "has_ring" s_has_ring P_has_ring) (G_ranks_under : DOk P w K mg base ec "ranks_under" P_ranks_under 1 2 f_ranks_under) (G_has_ring_in : DOk P w K mg base ec "has_ring_in" P_has_ring_in 1 1 f_has_ring_in) : DOk P w K mg base ec "has_ring" P_has_ring 2 1 f_has_ring := by
  refine DAt.ok (n := 2) (p := 1) D sc_has_ring rfl rfl fun f cdv A outer s H E hr => ?_
  have S := sc_has_ring
  have hp := passes_of (X := cxOf (L2.CX P w) P w K mg base N_has_ring "has_ring" (defScope s_has_ring) f cdv A outer s H E) rfl
  have tk := takes_of (X := cxOf (L2.CX P w) P w K mg base N_has_ring "has_ring" (defScope s_has_ring) f cdv A outer s H E) (E := E) rfl rfl rfl rfl
  have hu := hu65 hr
  exact (dss_one (ds_ret (db_b1 (cr_any rfl) b_any rfl T.any (DE.x (DLi.d (dl_comp rfl S.nd (DI.x (di_range1 rfl T.range (DE.x (de_ix (DE.x (de_var 0)) (DE.x de_int))))) (blkOk_by (own := [("above", 1)]) (N := N_has_ring) (sc := defScope s_has_ring) (by decide +kernel)) rfl (fun _ _ _ _ _ => (pg_name (i := 1) S.nd rfl (by first | exact .inl rfl | exact .inr rfl))) (fun _ _ _ _ _ => dts_nil) (fun _ _ _ _ _ => (de_callD G_has_ring_in hr takes0 (by decide) rfl (da_cons (de_callD G_ranks_under hr takes0 (by decide) rfl (da_cons (de_var 0) (da_cons (de_var 1) da_nil))) da_nil)))))) (by decide +kernel))))
theorem ok_check_ends (T : Bl mg) (C : Cn mg) (Z : Er P w K mg base ec) (D : DAt K mg "check_ends" s_check_ends P_check_ends) (G_has_ring : DOk P w K mg base ec "has_ring" P_has_ring 2 1 f_has_ring) : DOk P w K mg base ec "check_ends" P_check_ends 3 1 f_check_ends := by
  refine DAt.ok (n := 1) (p := 1) D sc_check_ends rfl rfl fun f cdv A outer s H E hr => ?_
  have S := sc_check_ends
  have hp := passes_of (X := cxOf (L2.CX P w) P w K mg base N_check_ends "check_ends" (defScope s_check_ends) f cdv A outer s H E) rfl
  have tk := takes_of (X := cxOf (L2.CX P w) P w K mg base N_check_ends "check_ends" (defScope s_check_ends) f cdv A outer s H E) (E := E) rfl rfl rfl rfl
  have hu := hu65 hr
  exact (dss_one (ds_if (DE.test (de_callD G_has_ring hr tk (by decide) rfl (da_cons (de_var 0) da_nil))) (dss_one (ds_raise (c := "NoEnd") rfl tk ⟨Z.g_NoEnd, Z.f_NoEnd⟩ rfl)) dss_nil))
theorem ok_check_states (T : Bl mg) (C : Cn mg) (Z : Er P w K mg base ec) (D : DAt K mg "check_states" s_check_states P_check_states) (G_check_book : DOk P w K mg base ec "check_book" P_check_book 7 1 f_check_book) (G_check_state : DOk P w K mg base ec "check_state" P_check_state 4 2 f_check_state) : DOk P w K mg base ec "check_states" P_check_states 8 2 f_check_states := by
  refine DAt.ok (n := 3) (p := 2) D sc_check_states rfl rfl fun f cdv A outer s H E hr => ?_
  have S := sc_check_states
  have hp := passes_of (X := cxOf (L2.CX P w) P w K mg base N_check_states "check_states" (defScope s_check_states) f cdv A outer s H E) rfl
  have tk := takes_of (X := cxOf (L2.CX P w) P w K mg base N_check_states "check_states" (defScope s_check_states) f cdv A outer s H E) (E := E) rfl rfl rfl rfl
  have hu := hu65 hr
  exact (dss_cons (ds_expr (de_callD G_check_book hr tk (by decide) rfl (da_cons (de_var 0) da_nil))) (dss_one (ds_for hp rfl (di_seq (de_var 1)) (pg_name (i := 2) S.nd rfl (by first | exact .inl rfl | exact .inr rfl)) (dss_one (ds_expr (de_callD G_check_state hr tk (by decide) rfl (da_cons (de_var 0) (da_cons (de_var 2) da_nil))))))))
theorem ok_signal_of (T : Bl mg) (C : Cn mg) (Z : Er P w K mg base ec) (D : DAt K mg "signal_of" s_signal_of P_signal_of) : DOk P w K mg base ec "signal_of" P_signal_of 1 2 f_signal_of := by
  refine DAt.ok (n := 5) (p := 2) D sc_signal_of rfl rfl fun f cdv A outer s H E hr => ?_
  have S := sc_signal_of
  have hp := passes_of (X := cxOf (L2.CX P w) P w K mg base N_signal_of "signal_of" (defScope s_signal_of) f cdv A outer s H E) rfl
  have tk := takes_of (X := cxOf (L2.CX P w) P w K mg base N_signal_of "signal_of" (defScope s_signal_of) f cdv A outer s H E) (E := E) rfl rfl rfl rfl
  have hu := hu65 hr
  exact (dss_cons (ds_set (i := 2) S.nd rfl (by first | exact .inl rfl | exact .inr rfl) (DLi.d (dl_range1 rfl rfl T.list rfl T.range (DE.x (de_ix (DE.x (de_var 0)) (DE.x de_int)))))) (dss_cons (ds_for hp rfl (di_seq (de_var 1)) (pg_name (i := 3) S.nd rfl (by first | exact .inl rfl | exact .inr rfl)) (dss_one (ds_setC (i := 2) rfl S.nd rfl rfl (sw_true rfl rfl rfl (by decide +kernel)) (dix_seq (DE.x (de_var 2))) (blkOk_by (own := [("state", 4)]) (N := N_signal_of) (sc := defScope s_signal_of) (by decide +kernel)) rfl (fun _ _ _ _ _ => (pg_name (i := 4) S.nd rfl (by first | exact .inl rfl | exact .inr rfl))) (fun _ _ _ _ _ => dts_nil) (fun _ _ _ _ _ => (de_ix (DE.x (de_ix (DE.x (de_ix (DE.x (de_ix (DE.x (de_var 0)) (DE.x de_int))) (DE.x (de_var 3)))) (DE.x de_int))) (DE.x (de_var 4))))))) (dss_one (ds_ret (de_t1 call_tuple_of b_tup rfl T.tuple (DE.x (de_var 2)) PyProof.Rows.boot_tuple)))))
theorem ok_way_result (T : Bl mg) (C : Cn mg) (Z : Er P w K mg base ec) (D : DAt K mg "way_result" s_way_result P_way_result) (G_check_states : DOk P w K mg base ec "check_states" P_check_states 8 2 f_check_states) (G_fitting_rules : DOk P w K mg base ec "fitting_rules" P_fitting_rules 1 3 f_fitting_rules) (G_is_number_below : DOk P w K mg base ec "is_number_below" P_is_number_below 3 2 f_is_number_below) (G_signal_of : DOk P w K mg base ec "signal_of" P_signal_of 1 2 f_signal_of) : DOk P w K mg base ec "way_result" P_way_result 9 4 f_way_result := by
  refine DAt.ok (n := 6) (p := 4) D sc_way_result rfl rfl fun f cdv A outer s H E hr => ?_
  have S := sc_way_result
  have hp := passes_of (X := cxOf (L2.CX P w) P w K mg base N_way_result "way_result" (defScope s_way_result) f cdv A outer s H E) rfl
  have tk := takes_of (X := cxOf (L2.CX P w) P w K mg base N_way_result "way_result" (defScope s_way_result) f cdv A outer s H E) (E := E) rfl rfl rfl rfl
  have hu := hu65 hr
  exact (dss_cons (ds_expr (de_callD G_check_states hr tk (by decide) rfl (da_cons (de_var 0) (da_cons (de_tup (da_cons (de_var 1) (da_cons (de_var 2) da_nil))) da_nil)))) (dss_cons (ds_for hp rfl (di_enum rfl T.enumerate (de_var 3)) (pg_tup rfl (pgs_cons (pg_name (i := 4) S.nd rfl (by first | exact .inl rfl | exact .inr rfl)) (pgs_cons (pg_name (i := 5) S.nd rfl (by first | exact .inl rfl | exact .inr rfl)) pgs_nil))) (dss_cons (ds_if (DW.t (dw_or (dt_not (DE.test (de_callD G_is_number_below hr tk (by decide) rfl (da_cons (de_var 5) (da_cons (de_b1 call_len_seq b_len rfl T.len (DE.x (de_ix (DE.x (de_var 0)) (DE.x de_int))) PySem.boot_len) da_nil))))) (dw_or1 (dt_cmp (op_notInS2 hu) o_notIn (DE.x (de_var 5)) (DE.x (de_callD G_fitting_rules hr tk (by decide) rfl (da_cons (de_var 0) (da_cons (de_var 1) (da_cons (de_var 2) da_nil))))) (by with_unfolding_all rfl))))) (dss_one (ds_raiseF (c := "BadWay") (f := "place") rfl tk Z.i_BadWay (hr.mono (by decide)) rfl (de_var 4))) dss_nil) (dss_one (ds_set (i := 2) S.nd rfl (by first | exact .inl rfl | exact .inr rfl) (de_ix (DE.x (de_ix (DE.x (de_ix (DE.x (de_var 0)) (DE.x de_int))) (DE.x (de_var 5)))) (DE.x de_int)))))) (dss_one (ds_ret (de_tup (da_cons (de_var 2) (da_cons (de_callD G_signal_of hr tk (by decide) rfl (da_cons (de_var 0) (da_cons (de_var 3) da_nil))) da_nil)))))))
theorem ok_rest_ways (T : Bl mg) (C : Cn mg) (Z : Er P w K mg base ec) (D : DAt K mg "rest_ways" s_rest_ways P_rest_ways) (G_fitting_rules : DOk P w K mg base ec "fitting_rules" P_fitting_rules 1 3 f_fitting_rules) : DOk P w K mg base ec "rest_ways" P_rest_ways 2 4 f_rest_ways := by
  refine DAt.ok (n := 14) (p := 4) D sc_rest_ways rfl rfl fun f cdv A outer s H E hr => ?_
  have S := sc_rest_ways
  have hp := passes_of (X := cxOf (L2.CX P w) P w K mg base N_rest_ways "rest_ways" (defScope s_rest_ways) f cdv A outer s H E) rfl
  have tk := takes_of (X := cxOf (L2.CX P w) P w K mg base N_rest_ways "rest_ways" (defScope s_rest_ways) f cdv A outer s H E) (E := E) rfl rfl rfl rfl
  have hu := hu65 hr
  exact (dss_cons (ds_dct1 (i := 4) hu S.nd rfl (by first | exact .inl rfl | exact .inr rfl) (de_tup (da_cons (de_var 2) (da_cons (de_var 3) da_nil))) (DLi.d (dl_lst da_nil))) (dss_cons (ds_own (i := 5) S.nd rfl (by first | exact .inl rfl | exact .inr rfl) (dl_lst (da_cons (de_tup (da_cons (de_var 2) (da_cons (de_var 3) da_nil))) da_nil))) (dss_cons (ds_set (i := 6) S.nd rfl (by first | exact .inl rfl | exact .inr rfl) de_int) (dss_cons (ds_while fuel hp (dt_cmp op_lt o_lt (DE.x (de_var 6)) (DE.x (de_b1 call_len_seq b_len rfl T.len (dx_var 5) PySem.boot_len)) (nomark _)) (dss_cons (ds_put (g := (.many [7, 8])) (de_ix (dx_var 5) (DE.x (de_var 6))) (pg_tup rfl (pgs_cons (pg_name (i := 7) S.nd rfl (by first | exact .inl rfl | exact .inr rfl)) (pgs_cons (pg_name (i := 8) S.nd rfl (by first | exact .inl rfl | exact .inr rfl)) pgs_nil)))) (dss_cons (ds_for hp rfl (di_seq (de_callD G_fitting_rules hr tk (by decide) rfl (da_cons (de_var 0) (da_cons (de_var 1) (da_cons (de_var 7) da_nil))))) (pg_name (i := 9) S.nd rfl (by first | exact .inl rfl | exact .inr rfl)) (dss_cons (ds_put (g := (.many [10, 10, 11, 12])) (de_ix (DE.x (de_ix (DE.x (de_var 0)) (DE.x de_int))) (DE.x (de_var 9))) (pg_tup rfl (pgs_cons (pg_name (i := 10) S.nd rfl (by first | exact .inl rfl | exact .inr rfl)) (pgs_cons (pg_name (i := 10) S.nd rfl (by first | exact .inl rfl | exact .inr rfl)) (pgs_cons (pg_name (i := 11) S.nd rfl (by first | exact .inl rfl | exact .inr rfl)) (pgs_cons (pg_name (i := 12) S.nd rfl (by first | exact .inl rfl | exact .inr rfl)) pgs_nil)))))) (dss_cons (ds_set (i := 13) S.nd rfl (by first | exact .inl rfl | exact .inr rfl) (de_tup (da_cons (de_var 11) (da_cons (de_ix (DE.x (de_var 12)) (DE.x (de_var 8))) da_nil)))) (dss_one (ds_if (dt_dnin (i := 4) hu rfl (by first | exact .inl rfl | exact .inr (.inl rfl) | exact .inr (.inr rfl)) (DE.x (de_var 13))) (dss_cons (ds_dput (i := 4) hu rfl (by first | exact .inl rfl | exact .inr (.inl rfl) | exact .inr (.inr rfl)) (DE.x (de_var 13)) (de_op op_addA o_add (DE.x (de_dget (i := 4) hu rfl (by first | exact .inl rfl | exact .inr (.inl rfl) | exact .inr (.inr rfl)) (DE.x (de_tup (da_cons (de_var 7) (da_cons (de_var 8) da_nil)))))) (DE.x (DLi.d (dl_lst (da_cons (de_var 9) da_nil)))))) (dss_one (ds_app (i := 5) rfl (by first | exact .inl rfl | exact .inr (.inl rfl)) (de_var 13)))) dss_nil))))) (dss_one (ds_augAdd (i := 6) S.nd rfl (by first | exact .inl rfl | exact .inr rfl) (DE.x de_int)))))) (dss_one (ds_ret (de_dcomp hu rfl S.nd (dix_seq (dx_var 5)) (blkOk_by (own := [("pair", 13)]) (N := N_rest_ways) (sc := defScope s_rest_ways) (by decide +kernel)) rfl (fun _ _ _ _ _ => (pg_name (i := 13) S.nd rfl (by first | exact .inl rfl | exact .inr rfl))) (fun _ _ _ _ _ => (dts_one (dt_cmp (op_eqQ hu) o_eqQ (DE.x (de_callD G_fitting_rules hr takes0 (by decide) rfl (da_cons (de_var 0) (da_cons (de_var 1) (da_cons (de_ix (DE.x (de_var 13)) (DE.x de_int)) da_nil))))) (DE.x (DLi.d (dl_lst da_nil))) (nomark _)))) (fun _ _ _ _ _ => (de_var 13)) (fun _ _ _ _ _ => (de_dget (i := 4) hu rfl (by first | exact .inl rfl | exact .inr (.inl rfl) | exact .inr (.inr rfl)) (DE.x (de_var 13)))))))))))
theorem ok_results_of (T : Bl mg) (C : Cn mg) (Z : Er P w K mg base ec) (D : DAt K mg "results_of" s_results_of P_results_of) (G_rest_ways : DOk P w K mg base ec "rest_ways" P_rest_ways 2 4 f_rest_ways) : DOk P w K mg base ec "results_of" P_results_of 3 4 f_results_of := by
  refine DAt.ok (n := 4) (p := 4) D sc_results_of rfl rfl fun f cdv A outer s H E hr => ?_
  have S := sc_results_of
  have hp := passes_of (X := cxOf (L2.CX P w) P w K mg base N_results_of "results_of" (defScope s_results_of) f cdv A outer s H E) rfl
  have tk := takes_of (X := cxOf (L2.CX P w) P w K mg base N_results_of "results_of" (defScope s_results_of) f cdv A outer s H E) (E := E) rfl rfl rfl rfl
  have hu := hu65 hr
  exact (dss_one (ds_ret (DLi.d (dl_b1 cr_sortedQ b_sortP rfl T.sorted (DE.x (DLi.d (dl_keys rfl T.list (de_callD G_rest_ways hr tk (by decide) rfl (da_cons (de_var 0) (da_cons (de_var 1) (da_cons (de_var 2) (da_cons (de_var 3) da_nil))))) PyProof.Rows.boot_list))) PyProof.Rows.boot_sorted))))
theorem ok_node_rests (T : Bl mg) (C : Cn mg) (Z : Er P w K mg base ec) (D : DAt K mg "node_rests" s_node_rests P_node_rests) (G_check_states : DOk P w K mg base ec "check_states" P_check_states 8 2 f_check_states) (G_check_ends : DOk P w K mg base ec "check_ends" P_check_ends 3 1 f_check_ends) (G_results_of : DOk P w K mg base ec "results_of" P_results_of 3 4 f_results_of) : DOk P w K mg base ec "node_rests" P_node_rests 9 3 f_node_rests := by
  refine DAt.ok (n := 5) (p := 3) D sc_node_rests rfl rfl fun f cdv A outer s H E hr => ?_
  have S := sc_node_rests
  have hp := passes_of (X := cxOf (L2.CX P w) P w K mg base N_node_rests "node_rests" (defScope s_node_rests) f cdv A outer s H E) rfl
  have tk := takes_of (X := cxOf (L2.CX P w) P w K mg base N_node_rests "node_rests" (defScope s_node_rests) f cdv A outer s H E) (E := E) rfl rfl rfl rfl
  have hu := hu65 hr
  exact (dss_cons (ds_expr (de_callD G_check_states hr tk (by decide) rfl (da_cons (de_var 0) (da_cons (de_tup (da_cons (de_var 1) (da_cons (de_var 2) da_nil))) da_nil)))) (dss_cons (ds_expr (de_callD G_check_ends hr tk (by decide) rfl (da_cons (de_var 0) da_nil))) (dss_one (ds_ret (DLi.d (dl_sortset rfl T.sorted rfl T.set (DE.x (DLi.d (dl_comp rfl S.nd (dix_seq (DE.x (de_callD G_results_of hr tk (by decide) rfl (da_cons (de_var 0) (da_cons (de_var 1) (da_cons (de_var 2) (da_cons (de_var 2) da_nil))))))) (blkOk_by (own := [("rest", 3), ("_", 4)]) (N := N_node_rests) (sc := defScope s_node_rests) (by decide +kernel)) rfl (fun _ _ _ _ _ => (pg_tup rfl (pgs_cons (pg_name (i := 3) S.nd rfl (by first | exact .inl rfl | exact .inr rfl)) (pgs_cons (pg_name (i := 4) S.nd rfl (by first | exact .inl rfl | exact .inr rfl)) pgs_nil)))) (fun _ _ _ _ _ => dts_nil) (fun _ _ _ _ _ => (de_var 3))))) PyProof.Rows.boot_sorted (by decide +kernel)))))))
theorem ok_node_results (T : Bl mg) (C : Cn mg) (Z : Er P w K mg base ec) (D : DAt K mg "node_results" s_node_results P_node_results) (G_check_states : DOk P w K mg base ec "check_states" P_check_states 8 2 f_check_states) (G_check_ends : DOk P w K mg base ec "check_ends" P_check_ends 3 1 f_check_ends) (G_results_of : DOk P w K mg base ec "results_of" P_results_of 3 4 f_results_of) : DOk P w K mg base ec "node_results" P_node_results 9 4 f_node_results := by
  refine DAt.ok (n := 4) (p := 4) D sc_node_results rfl rfl fun f cdv A outer s H E hr => ?_
  have S := sc_node_results
  have hp := passes_of (X := cxOf (L2.CX P w) P w K mg base N_node_results "node_results" (defScope s_node_results) f cdv A outer s H E) rfl
  have tk := takes_of (X := cxOf (L2.CX P w) P w K mg base N_node_results "node_results" (defScope s_node_results) f cdv A outer s H E) (E := E) rfl rfl rfl rfl
  have hu := hu65 hr
  exact (dss_cons (ds_expr (de_callD G_check_states hr tk (by decide) rfl (da_cons (de_var 0) (da_cons (de_tup (da_cons (de_var 1) (da_cons (de_var 2) (da_cons (de_var 3) da_nil)))) da_nil)))) (dss_cons (ds_expr (de_callD G_check_ends hr tk (by decide) rfl (da_cons (de_var 0) da_nil))) (dss_one (ds_ret (de_callD G_results_of hr tk (by decide) rfl (da_cons (de_var 0) (da_cons (de_var 1) (da_cons (de_var 2) (da_cons (de_var 3) da_nil)))))))))
theorem ok_way_by_least_numbers (T : Bl mg) (C : Cn mg) (Z : Er P w K mg base ec) (D : DAt K mg "way_by_least_numbers" s_way_by_least_numbers P_way_by_least_numbers) (G_fitting_rules : DOk P w K mg base ec "fitting_rules" P_fitting_rules 1 3 f_fitting_rules) : DOk P w K mg base ec "way_by_least_numbers" P_way_by_least_numbers 2 3 f_way_by_least_numbers := by
  refine DAt.ok (n := 5) (p := 3) D sc_way_by_least_numbers rfl rfl fun f cdv A outer s H E hr => ?_
  have S := sc_way_by_least_numbers
  have hp := passes_of (X := cxOf (L2.CX P w) P w K mg base N_way_by_least_numbers "way_by_least_numbers" (defScope s_way_by_least_numbers) f cdv A outer s H E) rfl
  have tk := takes_of (X := cxOf (L2.CX P w) P w K mg base N_way_by_least_numbers "way_by_least_numbers" (defScope s_way_by_least_numbers) f cdv A outer s H E) (E := E) rfl rfl rfl rfl
  have hu := hu65 hr
  exact (dss_cons (ds_own (i := 3) S.nd rfl (by first | exact .inl rfl | exact .inr rfl) (dl_lst da_nil)) (dss_cons (ds_set (i := 4) S.nd rfl (by first | exact .inl rfl | exact .inr rfl) (de_callD G_fitting_rules hr tk (by decide) rfl (da_cons (de_var 0) (da_cons (de_var 1) (da_cons (de_var 2) da_nil))))) (dss_cons (ds_while fuel hp (dt_cmp (op_neQ hu) o_neQ (DE.x (de_var 4)) (DE.x (DLi.d (dl_lst da_nil))) (nomark _)) (dss_cons (ds_app (i := 3) rfl (by first | exact .inl rfl | exact .inr (.inl rfl)) (de_ix (DE.x (de_var 4)) (DE.x de_int))) (dss_one (ds_set (i := 4) S.nd rfl (by first | exact .inl rfl | exact .inr rfl) (de_callD G_fitting_rules hr tk (by decide) rfl (da_cons (de_var 0) (da_cons (de_var 1) (da_cons (de_ix (DE.x (de_ix (DE.x (de_ix (DE.x (de_var 0)) (DE.x de_int))) (DE.x (de_ix (DE.x (de_var 4)) (DE.x de_int))))) (DE.x de_int)) da_nil)))))))) (dss_freeze 3 (dss_one (ds_ret (de_var 3)))))))
theorem ok_first_way (T : Bl mg) (C : Cn mg) (Z : Er P w K mg base ec) (D : DAt K mg "first_way" s_first_way P_first_way) (G_check_states : DOk P w K mg base ec "check_states" P_check_states 8 2 f_check_states) (G_check_ends : DOk P w K mg base ec "check_ends" P_check_ends 3 1 f_check_ends) (G_way_by_least_numbers : DOk P w K mg base ec "way_by_least_numbers" P_way_by_least_numbers 2 3 f_way_by_least_numbers) : DOk P w K mg base ec "first_way" P_first_way 9 3 f_first_way := by
  refine DAt.ok (n := 3) (p := 3) D sc_first_way rfl rfl fun f cdv A outer s H E hr => ?_
  have S := sc_first_way
  have hp := passes_of (X := cxOf (L2.CX P w) P w K mg base N_first_way "first_way" (defScope s_first_way) f cdv A outer s H E) rfl
  have tk := takes_of (X := cxOf (L2.CX P w) P w K mg base N_first_way "first_way" (defScope s_first_way) f cdv A outer s H E) (E := E) rfl rfl rfl rfl
  have hu := hu65 hr
  exact (dss_cons (ds_expr (de_callD G_check_states hr tk (by decide) rfl (da_cons (de_var 0) (da_cons (de_tup (da_cons (de_var 1) (da_cons (de_var 2) da_nil))) da_nil)))) (dss_cons (ds_expr (de_callD G_check_ends hr tk (by decide) rfl (da_cons (de_var 0) da_nil))) (dss_one (ds_ret (de_callD G_way_by_least_numbers hr tk (by decide) rfl (da_cons (de_var 0) (da_cons (de_var 1) (da_cons (de_var 2) da_nil))))))))
theorem ok_law_cell (T : Bl mg) (C : Cn mg) (Z : Er P w K mg base ec) (D : DAt K mg "_law_cell" s_law_cell P_law_cell) : DOk P w K mg base ec "_law_cell" P_law_cell 1 2 f_law_cell := by
  refine DAt.ok (n := 2) (p := 2) D sc_law_cell rfl rfl fun f cdv A outer s H E hr => ?_
  have S := sc_law_cell
  have hp := passes_of (X := cxOf (L2.CX P w) P w K mg base N_law_cell "_law_cell" (defScope s_law_cell) f cdv A outer s H E) rfl
  have tk := takes_of (X := cxOf (L2.CX P w) P w K mg base N_law_cell "_law_cell" (defScope s_law_cell) f cdv A outer s H E) (E := E) rfl rfl rfl rfl
  have hu := hu65 hr
  exact (dss_cons (ds_if (dt_cmp op_lt o_lt (DE.x (de_var 1)) (DE.x (de_b1 call_len_seq b_len rfl T.len (DE.x (de_var 0)) PySem.boot_len)) (nomark _)) (dss_one (ds_ret (de_ix (DE.x (de_var 0)) (DE.x (de_var 1))))) dss_nil) (dss_one (ds_ret de_int)))
theorem ok_law_draws (T : Bl mg) (C : Cn mg) (Z : Er P w K mg base ec) (D : DAt K mg "_law_draws" s_law_draws P_law_draws) : DOk P w K mg base ec "_law_draws" P_law_draws 1 2 f_law_draws := by
  refine DAt.ok (n := 6) (p := 2) D sc_law_draws rfl rfl fun f cdv A outer s H E hr => ?_
  have S := sc_law_draws
  have hp := passes_of (X := cxOf (L2.CX P w) P w K mg base N_law_draws "_law_draws" (defScope s_law_draws) f cdv A outer s H E) rfl
  have tk := takes_of (X := cxOf (L2.CX P w) P w K mg base N_law_draws "_law_draws" (defScope s_law_draws) f cdv A outer s H E) (E := E) rfl rfl rfl rfl
  have hu := hu65 hr
  exact (dss_cons (ds_own (i := 2) S.nd rfl (by first | exact .inl rfl | exact .inr rfl) (dl_lst da_nil)) (dss_cons (ds_set (i := 3) S.nd rfl (by first | exact .inl rfl | exact .inr rfl) (de_var 0)) (dss_cons (ds_for hp rfl (di_range1 rfl T.range (DE.x (de_var 1))) (pg_name (i := 4) S.nd rfl (by first | exact .inl rfl | exact .inr rfl)) (dss_cons (ds_set (i := 5) S.nd rfl (by first | exact .inl rfl | exact .inr rfl) (de_op op_mod o_mod (DE.x (de_t1 call_int1 b_int rfl T.int (DE.x (de_op op_addA o_add (DE.x (de_op op_addA o_add (DE.x (de_op op_mul o_mul (DE.x (de_op op_mod o_mod (DE.x (de_t1 call_int1 b_int rfl T.int (DE.x (de_var 0)) PyProof.Rows.boot_int)) (DE.x de_int))) (DE.x (de_op op_addA o_add (DE.x (de_var 4)) (DE.x de_int))))) (DE.x (de_op op_mul o_mul (DE.x de_int) (DE.x (de_var 4)))))) (DE.x de_int))) PyProof.Rows.boot_int)) (DE.x de_int))) (dss_cons (ds_set (i := 5) S.nd rfl (by first | exact .inl rfl | exact .inr rfl) (de_op op_mod o_mod (DE.x (de_t1 call_int1 b_int rfl T.int (DE.x (de_op op_mul o_mul (DE.x (de_var 5)) (DE.x (de_var 5)))) PyProof.Rows.boot_int)) (DE.x de_int))) (dss_cons (ds_set (i := 5) S.nd rfl (by first | exact .inl rfl | exact .inr rfl) (de_op op_fdiv o_div (DE.x (de_op op_mod o_mod (DE.x (de_t1 call_int1 b_int rfl T.int (DE.x (de_op op_addA o_add (DE.x (de_op op_mul o_mul (DE.x (de_var 5)) (DE.x de_int))) (DE.x (de_op op_mul o_mul (DE.x de_int) (DE.x (de_op op_addA o_add (DE.x (de_var 4)) (DE.x de_int))))))) PyProof.Rows.boot_int)) (DE.x de_int))) (DE.x de_int))) (dss_cons (ds_if (DW.t (dw_and (dt_cmp op_ge o_ge (DE.x (de_var 0)) (DE.x (de_op op_pow o_pow (DE.x de_int) (DE.x de_int))) (nomark _)) (dw_and1 (dt_cmp op_gt o_gt (DE.x (de_var 3)) (DE.x de_int) (nomark _))))) (dss_cons (ds_set (i := 5) S.nd rfl (by first | exact .inl rfl | exact .inr rfl) (de_var 3)) (dss_one (ds_set (i := 3) S.nd rfl (by first | exact .inl rfl | exact .inr rfl) (de_op op_fdiv o_div (DE.x (de_var 3)) (DE.x de_int))))) dss_nil) (dss_one (ds_app (i := 2) rfl (by first | exact .inl rfl | exact .inr (.inl rfl)) (de_op op_mod o_mod (DE.x (de_t1 call_int1 b_int rfl T.int (DE.x (de_var 5)) PyProof.Rows.boot_int)) (DE.x de_int))))))))) (dss_freeze 2 (dss_one (ds_ret (de_var 2)))))))
theorem ok_law_rule (T : Bl mg) (C : Cn mg) (Z : Er P w K mg base ec) (D : DAt K mg "_law_rule" s_law_rule P_law_rule) : DOk P w K mg base ec "_law_rule" P_law_rule 1 3 f_law_rule := by
  refine DAt.ok (n := 9) (p := 3) D sc_law_rule rfl rfl fun f cdv A outer s H E hr => ?_
  have S := sc_law_rule
  have hp := passes_of (X := cxOf (L2.CX P w) P w K mg base N_law_rule "_law_rule" (defScope s_law_rule) f cdv A outer s H E) rfl
  have tk := takes_of (X := cxOf (L2.CX P w) P w K mg base N_law_rule "_law_rule" (defScope s_law_rule) f cdv A outer s H E) (E := E) rfl rfl rfl rfl
  have hu := hu65 hr
  exact (dss_cons (ds_set (i := 3) S.nd rfl (by first | exact .inl rfl | exact .inr rfl) (de_op op_mod o_mod (DE.x (de_t1 call_int1 b_int rfl T.int (DE.x (de_var 0)) PyProof.Rows.boot_int)) (DE.x (de_var 1)))) (dss_cons (ds_set (i := 4) S.nd rfl (by first | exact .inl rfl | exact .inr rfl) (de_op op_mod o_mod (DE.x (de_t1 call_int1 b_int rfl T.int (DE.x (de_op op_fdiv o_div (DE.x (de_var 0)) (DE.x (de_var 1)))) PyProof.Rows.boot_int)) (DE.x (de_var 1)))) (dss_cons (ds_set (i := 5) S.nd rfl (by first | exact .inl rfl | exact .inr rfl) (de_op op_mod o_mod (DE.x (de_t1 call_int1 b_int rfl T.int (DE.x (de_op op_addA o_add (DE.x (de_op op_addA o_add (DE.x (de_var 4)) (DE.x de_int))) (DE.x (de_op op_mod o_mod (DE.x (de_t1 call_int1 b_int rfl T.int (DE.x (de_op op_fdiv o_div (DE.x (de_var 0)) (DE.x (de_op op_mul o_mul (DE.x (de_var 1)) (DE.x (de_var 1)))))) PyProof.Rows.boot_int)) (DE.x (de_op op_subA o_sub (DE.x (de_var 1)) (DE.x de_int))))))) PyProof.Rows.boot_int)) (DE.x (de_var 1)))) (dss_cons (ds_if (DW.t (dw_or (dt_cmp (op_eqQ hu) o_eqQ (DE.x (de_var 2)) (DE.x de_int) (nomark _)) (dw_or1 (DW.t (dw_and (dt_cmp (op_eqQ hu) o_eqQ (DE.x (de_var 2)) (DE.x de_int) (nomark _)) (dw_and1 (dt_cmp op_gt o_gt (DE.x (de_var 3)) (DE.x de_int) (nomark _)))))))) (dss_one (ds_par (i := 4) (j := 5) rfl S.nd rfl rfl (by decide) (da_cons (de_b2 (call_min2 rfl) b_min rfl T.min (DE.x (de_var 4)) (DE.x (de_var 5)) PyProof.Rows.boot_min) (da_cons (de_b2 (call_max2 rfl) b_max rfl T.max (DE.x (de_var 4)) (DE.x (de_var 5)) PyProof.Rows.boot_max) da_nil)) (fun ha => ps_par rfl S.nd rfl rfl (by decide) rfl rfl ha (by rfl)))) (dss_one (ds_if (dt_cmp (op_eqQ hu) o_eqQ (DE.x (de_var 2)) (DE.x de_int) (nomark _)) (dss_one (ds_par (i := 4) (j := 5) rfl S.nd rfl rfl (by decide) (da_cons (de_b2 (call_max2 rfl) b_max rfl T.max (DE.x (de_var 4)) (DE.x (de_var 5)) PyProof.Rows.boot_max) (da_cons (de_b2 (call_min2 rfl) b_min rfl T.min (DE.x (de_var 4)) (DE.x (de_var 5)) PyProof.Rows.boot_min) da_nil)) (fun ha => ps_par rfl S.nd rfl rfl (by decide) rfl rfl ha (by rfl)))) dss_nil))) (dss_cons (ds_set (i := 6) S.nd rfl (by first | exact .inl rfl | exact .inr rfl) (de_op op_fdiv o_div (DE.x (de_var 0)) (DE.x (de_op op_mul o_mul (DE.x (de_op op_mul o_mul (DE.x (de_var 1)) (DE.x (de_var 1)))) (DE.x (de_op op_subA o_sub (DE.x (de_var 1)) (DE.x de_int))))))) (dss_cons (ds_own (i := 7) S.nd rfl (by first | exact .inl rfl | exact .inr rfl) (dl_lst da_nil)) (dss_cons (ds_for hp rfl (di_range1 rfl T.range (DE.x (de_var 1))) (pg_name (i := 8) S.nd rfl (by first | exact .inl rfl | exact .inr rfl)) (dss_cons (ds_app (i := 7) rfl (by first | exact .inl rfl | exact .inr (.inl rfl)) (de_op op_mod o_mod (DE.x (de_t1 call_int1 b_int rfl T.int (DE.x (de_var 6)) PyProof.Rows.boot_int)) (DE.x (de_var 1)))) (dss_one (ds_set (i := 6) S.nd rfl (by first | exact .inl rfl | exact .inr rfl) (de_op op_fdiv o_div (DE.x (de_var 6)) (DE.x (de_var 1))))))) (dss_cons (ds_if (dt_cmp (op_eqQ hu) o_eqQ (DE.x (de_op op_mod o_mod (DE.x (de_t1 call_int1 b_int rfl T.int (DE.x (de_var 6)) PyProof.Rows.boot_int)) (DE.x de_int))) (DE.x de_int) (nomark _)) (dss_one (ds_own (i := 7) S.nd rfl (by first | exact .inl rfl | exact .inr rfl) (dl_range1 rfl rfl T.list rfl T.range (DE.x (de_var 1))))) dss_nil) (dss_one (ds_ret (de_tup (da_cons (de_var 3) (da_cons (de_var 4) (da_cons (de_var 5) (da_cons (de_t1 call_tuple_of b_tup rfl T.tuple (dx_var 7) PyProof.Rows.boot_tuple) da_nil)))))))))))))))
theorem ok_law_same (T : Bl mg) (C : Cn mg) (Z : Er P w K mg base ec) (D : DAt K mg "_law_same" s_law_same P_law_same) : ∀ k : Nat, DOk P w K mg base ec "_law_same" P_law_same (0 + k) 2 (r_law_same k)
  | 0 => DOk.fuel D rfl
  | k + 1 => by
    have G_law_same := ok_law_same T C Z D k
    refine DAt.ok (k := 0 + k) (n := 4) (p := 2) D sc_law_same rfl rfl fun f cdv A outer s H E hr => ?_
    have S := sc_law_same
    have hp := passes_of (X := cxOf (L2.CX P w) P w K mg base N_law_same "_law_same" (defScope s_law_same) f cdv A outer s H E) rfl
    have tk := takes_of (X := cxOf (L2.CX P w) P w K mg base N_law_same "_law_same" (defScope s_law_same) f cdv A outer s H E) (E := E) rfl rfl rfl rfl
    have hu := hu65 hr
    exact (dss_cons (ds_if (dt_cmp op_isA o_is (DE.x (de_var 1)) (DE.x de_non) (nomark _)) (dss_one (ds_ret (db_cmp op_isA o_is (DE.x (de_var 0)) (DE.x de_non) (nomark _)))) dss_nil) (dss_cons (ds_if (DB.test (db_isi kind_bool rfl T.isinstance rfl T.bool (by decide +kernel) (DE.x (de_var 1)))) (dss_one (ds_ret (db_and (db_isi kind_bool rfl T.isinstance rfl T.bool (by decide +kernel) (DE.x (de_var 0))) (db_one (db_cmp (op_eqQ hu) o_eqQ (DE.x (de_var 0)) (DE.x (de_var 1)) (nomark _)))))) dss_nil) (dss_cons (ds_if (DB.test (db_isi kind_int rfl T.isinstance rfl T.int (by decide +kernel) (DE.x (de_var 1)))) (dss_one (ds_ret (db_and (db_isi kind_int rfl T.isinstance rfl T.int (by decide +kernel) (DE.x (de_var 0))) (db_and (db_not (db_isi kind_bool rfl T.isinstance rfl T.bool (by decide +kernel) (DE.x (de_var 0)))) (db_one (db_cmp (op_eqQ hu) o_eqQ (DE.x (de_var 0)) (DE.x (de_var 1)) (nomark _))))))) dss_nil) (dss_cons (ds_if (DB.test (db_isi kind_str rfl T.isinstance rfl T.str (by decide +kernel) (DE.x (de_var 1)))) (dss_one (ds_ret (db_and (db_isi kind_str rfl T.isinstance rfl T.str (by decide +kernel) (DE.x (de_var 0))) (db_one (db_cmp (op_eqQ hu) o_eqQ (DE.x (de_var 0)) (DE.x (de_var 1)) (nomark _)))))) dss_nil) (dss_cons (ds_set (i := 2) S.nd rfl (by first | exact .inl rfl | exact .inr rfl) (db_or (db_and (db_isi kind_tuple rfl T.isinstance rfl T.tuple (by decide +kernel) (DE.x (de_var 1))) (db_one (db_isi kind_tuple rfl T.isinstance rfl T.tuple (by decide +kernel) (DE.x (de_var 0))))) (db_one (db_and (db_isi kind_list rfl T.isinstance rfl T.list (by decide +kernel) (DE.x (de_var 1))) (db_one (db_isi kind_list rfl T.isinstance rfl T.list (by decide +kernel) (DE.x (de_var 0)))))))) (dss_cons (ds_if (DW.t (dw_or (dt_not (DE.test (de_var 2))) (dw_or1 (dt_cmp (op_neQ hu) o_neQ (DE.x (de_b1 call_len_seq b_len rfl T.len (DE.x (de_var 0)) PySem.boot_len)) (DE.x (de_b1 call_len_seq b_len rfl T.len (DE.x (de_var 1)) PySem.boot_len)) (nomark _))))) (dss_one (ds_ret de_bl)) dss_nil) (dss_one (ds_ret (db_cmp (op_eqQ hu) o_eqQ (DE.x (DLi.d (dl_comp rfl S.nd (DI.x (di_range1 rfl T.range (DE.x (de_b1 call_len_seq b_len rfl T.len (DE.x (de_var 1)) PySem.boot_len)))) (blkOk_by (own := [("k", 3)]) (N := N_law_same) (sc := defScope s_law_same) (by decide +kernel)) rfl (fun _ _ _ _ _ => (pg_name (i := 3) S.nd rfl (by first | exact .inl rfl | exact .inr rfl))) (fun _ _ _ _ _ => (dts_one (dt_not (DE.test (de_callD G_law_same hr takes0 (Nat.le_refl _) rfl (da_cons (de_ix (DE.x (de_var 0)) (DE.x (de_var 3))) (da_cons (de_ix (DE.x (de_var 1)) (DE.x (de_var 3))) da_nil))))))) (fun _ _ _ _ _ => (de_var 3))))) (DE.x (DLi.d (dl_lst da_nil))) (nomark _))))))))))
theorem ok_law_ending_book (T : Bl mg) (C : Cn mg) (Z : Er P w K mg base ec) (D : DAt K mg "_law_ending_book" s_law_ending_book P_law_ending_book) (G_law_rule : DOk P w K mg base ec "_law_rule" P_law_rule 1 3 f_law_rule) : DOk P w K mg base ec "_law_ending_book" P_law_ending_book 2 1 f_law_ending_book := by
  refine DAt.ok (n := 5) (p := 1) D sc_law_ending_book rfl rfl fun f cdv A outer s H E hr => ?_
  have S := sc_law_ending_book
  have hp := passes_of (X := cxOf (L2.CX P w) P w K mg base N_law_ending_book "_law_ending_book" (defScope s_law_ending_book) f cdv A outer s H E) rfl
  have tk := takes_of (X := cxOf (L2.CX P w) P w K mg base N_law_ending_book "_law_ending_book" (defScope s_law_ending_book) f cdv A outer s H E) (E := E) rfl rfl rfl rfl
  have hu := hu65 hr
  exact (dss_cons (ds_set (i := 1) S.nd rfl (by first | exact .inl rfl | exact .inr rfl) (de_ix (DE.x (DLi.d (dl_lst (da_cons de_int (da_cons de_int (da_cons de_int (da_cons de_int da_nil))))))) (DE.x (de_op op_mod o_mod (DE.x (de_t1 call_int1 b_int rfl T.int (DE.x (de_ix (DE.x (de_var 0)) (DE.x de_int))) PyProof.Rows.boot_int)) (DE.x de_int))))) (dss_cons (ds_own (i := 2) S.nd rfl (by first | exact .inl rfl | exact .inr rfl) (dl_lst da_nil)) (dss_cons (ds_for hp rfl (di_seq (de_cut (DE.x (de_var 0)) (DO.som (DE.x de_int)) (DO.som (DE.x (de_op op_addA o_add (DE.x (de_op op_mod o_mod (DE.x (de_t1 call_int1 b_int rfl T.int (DE.x (de_op op_fdiv o_div (DE.x (de_ix (DE.x (de_var 0)) (DE.x de_int))) (DE.x de_int))) PyProof.Rows.boot_int)) (DE.x de_int))) (DE.x de_int)))))) (pg_name (i := 3) S.nd rfl (by first | exact .inl rfl | exact .inr rfl)) (dss_cons (ds_set (i := 4) S.nd rfl (by first | exact .inl rfl | exact .inr rfl) (de_callD G_law_rule hr tk (by decide) rfl (da_cons (de_var 3) (da_cons (de_var 1) (da_cons (de_op op_addA o_add (DE.x de_int) (DE.x (de_op op_mod o_mod (DE.x (de_t1 call_int1 b_int rfl T.int (DE.x (de_op op_fdiv o_div (DE.x (de_ix (DE.x (de_var 0)) (DE.x de_int))) (DE.x de_int))) PyProof.Rows.boot_int)) (DE.x de_int)))) da_nil))))) (dss_one (ds_if (dt_cmp (op_notInS2 hu) o_notIn (DE.x (de_var 4)) (dx_var 2) (by with_unfolding_all rfl)) (dss_one (ds_app (i := 2) rfl (by first | exact .inl rfl | exact .inr (.inl rfl)) (de_var 4))) dss_nil)))) (dss_one (ds_ret (de_tup (da_cons (de_var 1) (da_cons (de_t1 call_tuple_of b_tup rfl T.tuple (dx_var 2) PyProof.Rows.boot_tuple) da_nil))))))))
theorem ok_law_whole_way (T : Bl mg) (C : Cn mg) (Z : Er P w K mg base ec) (D : DAt K mg "_law_whole_way" s_law_whole_way P_law_whole_way) : DOk P w K mg base ec "_law_whole_way" P_law_whole_way 1 4 f_law_whole_way := by
  refine DAt.ok (n := 9) (p := 4) D sc_law_whole_way rfl rfl fun f cdv A outer s H E hr => ?_
  have S := sc_law_whole_way
  have hp := passes_of (X := cxOf (L2.CX P w) P w K mg base N_law_whole_way "_law_whole_way" (defScope s_law_whole_way) f cdv A outer s H E) rfl
  have tk := takes_of (X := cxOf (L2.CX P w) P w K mg base N_law_whole_way "_law_whole_way" (defScope s_law_whole_way) f cdv A outer s H E) (E := E) rfl rfl rfl rfl
  have hu := hu65 hr
  exact (dss_cons (ds_set (i := 4) S.nd rfl (by first | exact .inl rfl | exact .inr rfl) (de_var 2)) (dss_cons (ds_own (i := 5) S.nd rfl (by first | exact .inl rfl | exact .inr rfl) (dl_lst da_nil)) (dss_cons (ds_for hp rfl (di_range1 rfl T.range (DE.x (de_ix (DE.x (de_var 0)) (DE.x de_int)))) (pg_name (i := 6) S.nd rfl (by first | exact .inl rfl | exact .inr rfl)) (dss_cons (ds_setC (i := 7) rfl S.nd rfl rfl (sw_true rfl rfl rfl (by decide +kernel)) (DI.x (di_range1 rfl T.range (DE.x (de_b1 call_len_seq b_len rfl T.len (DE.x (de_ix (DE.x (de_var 0)) (DE.x de_int))) PySem.boot_len)))) (blkOk_by (own := [("k", 8)]) (N := N_law_whole_way) (sc := defScope s_law_whole_way) (by decide +kernel)) rfl (fun _ _ _ _ _ => (pg_name (i := 8) S.nd rfl (by first | exact .inl rfl | exact .inr rfl))) (fun _ _ _ _ _ => (dts_one (dt_cmp (op_eqQ hu) o_eqQ (DE.x (de_cut (DE.x (de_ix (DE.x (de_ix (DE.x (de_var 0)) (DE.x de_int))) (DE.x (de_var 8)))) DO.non (DO.som (DE.x de_int)))) (DE.x (de_tup (da_cons (de_var 1) (da_cons (de_var 4) da_nil)))) (nomark _)))) (fun _ _ _ _ _ => (de_var 8))) (dss_one (ds_if (dt_cmp (op_neQ hu) o_neQ (DE.x (de_var 7)) (DE.x (DLi.d (dl_lst da_nil))) (nomark _)) (dss_cons (ds_app (i := 5) rfl (by first | exact .inl rfl | exact .inr (.inl rfl)) (de_ix (DE.x (de_var 7)) (DE.x (de_op op_mod o_mod (DE.x (de_t1 call_int1 b_int rfl T.int (DE.x (de_var 3)) PyProof.Rows.boot_int)) (DE.x (de_b1 call_len_seq b_len rfl T.len (DE.x (de_var 7)) PySem.boot_len)))))) (dss_cons (ds_set (i := 3) S.nd rfl (by first | exact .inl rfl | exact .inr rfl) (de_op op_fdiv o_div (DE.x (de_var 3)) (DE.x de_int))) (dss_one (ds_set (i := 4) S.nd rfl (by first | exact .inl rfl | exact .inr rfl) (de_ix (DE.x (de_ix (DE.x (de_ix (DE.x (de_var 0)) (DE.x de_int))) (DE.x (de_ix (dx_var 5) (DE.x (de_un un_neg o_neg (DE.x de_int))))))) (DE.x de_int)))))) dss_nil)))) (dss_freeze 5 (dss_one (ds_ret (de_var 5)))))))
theorem ok_law_found_ways (T : Bl mg) (C : Cn mg) (Z : Er P w K mg base ec) (D : DAt K mg "_law_found_ways" s_law_found_ways P_law_found_ways) : DOk P w K mg base ec "_law_found_ways" P_law_found_ways 1 4 f_law_found_ways := by
  refine DAt.ok (n := 10) (p := 4) D sc_law_found_ways rfl rfl fun f cdv A outer s H E hr => ?_
  have S := sc_law_found_ways
  have hp := passes_of (X := cxOf (L2.CX P w) P w K mg base N_law_found_ways "_law_found_ways" (defScope s_law_found_ways) f cdv A outer s H E) rfl
  have tk := takes_of (X := cxOf (L2.CX P w) P w K mg base N_law_found_ways "_law_found_ways" (defScope s_law_found_ways) f cdv A outer s H E) (E := E) rfl rfl rfl rfl
  have hu := hu65 hr
  exact (dss_cons (ds_own (i := 4) S.nd rfl (by first | exact .inl rfl | exact .inr rfl) (dl_lst (da_cons (de_tup (da_cons (de_var 2) (da_cons (de_var 3) da_nil))) da_nil))) (dss_cons (ds_own (i := 5) S.nd rfl (by first | exact .inl rfl | exact .inr rfl) (dl_lst (da_cons (DLi.d (dl_lst da_nil)) da_nil))) (dss_cons (ds_for hp rfl (di_range1 rfl T.range (DE.x (de_op op_mul o_mul (DE.x (de_ix (DE.x (de_var 0)) (DE.x de_int))) (DE.x (de_ix (DE.x (de_var 0)) (DE.x de_int)))))) (pg_name (i := 6) S.nd rfl (by first | exact .inl rfl | exact .inr rfl)) (dss_one (ds_if (dt_cmp op_lt o_lt (DE.x (de_var 6)) (DE.x (de_b1 call_len_seq b_len rfl T.len (dx_var 4) PySem.boot_len)) (nomark _)) (dss_one (ds_for hp rfl (di_range1 rfl T.range (DE.x (de_b1 call_len_seq b_len rfl T.len (DE.x (de_ix (DE.x (de_var 0)) (DE.x de_int))) PySem.boot_len))) (pg_name (i := 7) S.nd rfl (by first | exact .inl rfl | exact .inr rfl)) (dss_cons (ds_set (i := 8) S.nd rfl (by first | exact .inl rfl | exact .inr rfl) (de_ix (DE.x (de_ix (DE.x (de_var 0)) (DE.x de_int))) (DE.x (de_var 7)))) (dss_cons (ds_set (i := 9) S.nd rfl (by first | exact .inl rfl | exact .inr rfl) (de_tup (da_cons (de_ix (DE.x (de_var 8)) (DE.x de_int)) (da_cons (de_ix (DE.x (de_ix (DE.x (de_var 8)) (DE.x de_int))) (DE.x (de_ix (DE.x (de_ix (dx_var 4) (DE.x (de_var 6)))) (DE.x de_int)))) da_nil)))) (dss_one (ds_if (DW.t (dw_and (dt_cmp (op_eqQ hu) o_eqQ (DE.x (de_cut (DE.x (de_var 8)) DO.non (DO.som (DE.x de_int)))) (DE.x (de_tup (da_cons (de_var 1) (da_cons (de_ix (DE.x (de_ix (dx_var 4) (DE.x (de_var 6)))) (DE.x de_int)) da_nil)))) (nomark _)) (dw_and1 (dt_cmp (op_notInS2 hu) o_notIn (DE.x (de_var 9)) (dx_var 4) (by with_unfolding_all rfl))))) (dss_cons (ds_app (i := 4) rfl (by first | exact .inl rfl | exact .inr (.inl rfl)) (de_var 9)) (dss_one (ds_app (i := 5) rfl (by first | exact .inl rfl | exact .inr (.inl rfl)) (de_op op_addA o_add (DE.x (de_ix (dx_var 5) (DE.x (de_var 6)))) (DE.x (DLi.d (dl_lst (da_cons (de_var 7) da_nil)))))))) dss_nil)))))) dss_nil))) (dss_freeze 5 (dss_freeze 4 (dss_one (ds_ret (de_tup (da_cons (de_var 4) (da_cons (de_var 5) da_nil))))))))))
theorem ok_law_right (T : Bl mg) (C : Cn mg) (Z : Er P w K mg base ec) (D : DAt K mg "_law_right" s_law_right P_law_right) (G_node_rests : DOk P w K mg base ec "node_rests" P_node_rests 9 3 f_node_rests) (G_node_results : DOk P w K mg base ec "node_results" P_node_results 9 4 f_node_results) (G_law_found_ways : DOk P w K mg base ec "_law_found_ways" P_law_found_ways 1 4 f_law_found_ways) (G_way_result : DOk P w K mg base ec "way_result" P_way_result 9 4 f_way_result) (G_rules_for : DOk P w K mg base ec "rules_for" P_rules_for 8 3 f_rules_for) (G_law_same : DOk P w K mg base ec "_law_same" P_law_same 12 2 f_law_same) (G_first_way : DOk P w K mg base ec "first_way" P_first_way 9 3 f_first_way) : DOk P w K mg base ec "_law_right" P_law_right 13 4 f_law_right := by
  refine DAt.ok (n := 14) (p := 4) D sc_law_right rfl rfl fun f cdv A outer s H E hr => ?_
  have S := sc_law_right
  have hp := passes_of (X := cxOf (L2.CX P w) P w K mg base N_law_right "_law_right" (defScope s_law_right) f cdv A outer s H E) rfl
  have tk := takes_of (X := cxOf (L2.CX P w) P w K mg base N_law_right "_law_right" (defScope s_law_right) f cdv A outer s H E) (E := E) rfl rfl rfl rfl
  have hu := hu65 hr
  exact (dss_cons (ds_set (i := 4) S.nd rfl (by first | exact .inl rfl | exact .inr rfl) (de_callD G_node_rests hr tk (by decide) rfl (da_cons (de_var 0) (da_cons (de_var 1) (da_cons (de_var 2) da_nil))))) (dss_cons (ds_set (i := 5) S.nd rfl (by first | exact .inl rfl | exact .inr rfl) (DLi.d (dl_lst da_nil))) (dss_cons (ds_for hp rfl (di_range1 rfl T.range (DE.x (de_ix (DE.x (de_var 0)) (DE.x de_int)))) (pg_name (i := 6) S.nd rfl (by first | exact .inl rfl | exact .inr rfl)) (dss_cons (ds_set (i := 7) S.nd rfl (by first | exact .inl rfl | exact .inr rfl) (de_callD G_node_results hr tk (by decide) rfl (da_cons (de_var 0) (da_cons (de_var 1) (da_cons (de_var 2) (da_cons (de_var 6) da_nil)))))) (dss_cons (ds_put (g := (.many [8, 9])) (de_callD G_law_found_ways hr tk (by decide) rfl (da_cons (de_var 0) (da_cons (de_var 1) (da_cons (de_var 2) (da_cons (de_var 6) da_nil))))) (pg_tup rfl (pgs_cons (pg_name (i := 8) S.nd rfl (by first | exact .inl rfl | exact .inr rfl)) (pgs_cons (pg_name (i := 9) S.nd rfl (by first | exact .inl rfl | exact .inr rfl)) pgs_nil)))) (dss_cons (ds_for hp rfl (di_seq (de_var 7)) (pg_name (i := 10) S.nd rfl (by first | exact .inl rfl | exact .inr rfl)) (dss_cons (ds_if (dt_cmp (op_notInS2 hu) o_notIn (DE.x (de_var 10)) (DE.x (de_var 8)) (by with_unfolding_all rfl)) (dss_one (ds_ret de_bl)) dss_nil) (dss_cons (ds_put (g := (.many [11, 12])) (de_callD G_way_result hr tk (by decide) rfl (da_cons (de_var 0) (da_cons (de_var 1) (da_cons (de_var 2) (da_cons (DLi.d (dl_t1 call_list_of b_list rfl T.list (DE.x (de_ix (DE.x (de_var 9)) (DE.x (de_index hu (DE.x (de_var 8)) (DE.x (de_var 10)))))) PyProof.Rows.boot_list)) da_nil))))) (pg_tup rfl (pgs_cons (pg_name (i := 11) S.nd rfl (by first | exact .inl rfl | exact .inr rfl)) (pgs_cons (pg_name (i := 12) S.nd rfl (by first | exact .inl rfl | exact .inr rfl)) pgs_nil)))) (dss_one (ds_if (DW.t (dw_or (dt_not (DE.test (de_callD G_law_same hr tk (by decide) rfl (da_cons (de_var 10) (da_cons (de_tup (da_cons (de_var 11) (da_cons (de_ix (DE.x (de_var 12)) (DE.x (de_var 6))) da_nil))) da_nil))))) (dw_or1 (dt_not (DE.test (de_callD G_law_same hr tk (by decide) rfl (da_cons (de_callD G_rules_for hr tk (by decide) rfl (da_cons (de_var 0) (da_cons (de_var 1) (da_cons (de_var 11) da_nil)))) (da_cons (DLi.d (dl_lst da_nil)) da_nil)))))))) (dss_one (ds_ret de_bl)) dss_nil))))) (dss_cons (ds_set (i := 5) S.nd rfl (by first | exact .inl rfl | exact .inr rfl) (de_op op_addA o_add (DE.x (de_var 5)) (DE.x (DLi.d (dl_comp rfl S.nd (dix_seq (DE.x (de_var 7))) (blkOk_by (own := [("pair", 10)]) (N := N_law_right) (sc := defScope s_law_right) (by decide +kernel)) rfl (fun _ _ _ _ _ => (pg_name (i := 10) S.nd rfl (by first | exact .inl rfl | exact .inr rfl))) (fun _ _ _ _ _ => dts_nil) (fun _ _ _ _ _ => (de_ix (DE.x (de_var 10)) (DE.x de_int)))))))) (dss_one (ds_for hp rfl (di_seq (de_op op_addA o_add (DE.x (de_var 3)) (DE.x (DLi.d (dl_lst (da_cons (de_callD G_first_way hr tk (by decide) rfl (da_cons (de_var 0) (da_cons (de_var 1) (da_cons (de_var 2) da_nil)))) da_nil)))))) (pg_name (i := 13) S.nd rfl (by first | exact .inl rfl | exact .inr rfl)) (dss_cons (ds_put (g := (.many [11, 12])) (de_callD G_way_result hr tk (by decide) rfl (da_cons (de_var 0) (da_cons (de_var 1) (da_cons (de_var 2) (da_cons (DLi.d (dl_t1 call_list_of b_list rfl T.list (DE.x (de_var 13)) PyProof.Rows.boot_list)) da_nil))))) (pg_tup rfl (pgs_cons (pg_name (i := 11) S.nd rfl (by first | exact .inl rfl | exact .inr rfl)) (pgs_cons (pg_name (i := 12) S.nd rfl (by first | exact .inl rfl | exact .inr rfl)) pgs_nil)))) (dss_one (ds_if (DW.t (dw_or (dt_not (DE.test (de_callD G_law_same hr tk (by decide) rfl (da_cons (de_callD G_rules_for hr tk (by decide) rfl (da_cons (de_var 0) (da_cons (de_var 1) (da_cons (de_var 11) da_nil)))) (da_cons (DLi.d (dl_lst da_nil)) da_nil))))) (dw_or1 (dt_cmp (op_notInS2 hu) o_notIn (DE.x (de_tup (da_cons (de_var 11) (da_cons (de_ix (DE.x (de_var 12)) (DE.x (de_var 6))) da_nil)))) (DE.x (de_var 7)) (by with_unfolding_all rfl))))) (dss_one (ds_ret de_bl)) dss_nil)))))))))) (dss_one (ds_ret (de_callD G_law_same hr tk (by decide) rfl (da_cons (de_var 4) (da_cons (DLi.d (dl_sortset rfl T.sorted rfl T.set (DE.x (de_var 5)) PyProof.Rows.boot_sorted (by decide +kernel))) da_nil))))))))
theorem ok_law (T : Bl mg) (C : Cn mg) (Z : Er P w K mg base ec) (D : DAt K mg "law" s_law P_law) (G_law_cell : DOk P w K mg base ec "_law_cell" P_law_cell 1 2 f_law_cell) (G_law_draws : DOk P w K mg base ec "_law_draws" P_law_draws 1 2 f_law_draws) (G_law_ending_book : DOk P w K mg base ec "_law_ending_book" P_law_ending_book 2 1 f_law_ending_book) (G_law_whole_way : DOk P w K mg base ec "_law_whole_way" P_law_whole_way 1 4 f_law_whole_way) (G_law_right : DOk P w K mg base ec "_law_right" P_law_right 13 4 f_law_right) : DOk P w K mg base ec "law" P_law 14 1 f_law := by
  refine DAt.ok (n := 8) (p := 1) D sc_law rfl rfl fun f cdv A outer s H E hr => ?_
  have S := sc_law
  have hp := passes_of (X := cxOf (L2.CX P w) P w K mg base N_law "law" (defScope s_law) f cdv A outer s H E) rfl
  have tk := takes_of (X := cxOf (L2.CX P w) P w K mg base N_law "law" (defScope s_law) f cdv A outer s H E) (E := E) rfl rfl rfl rfl
  have hu := hu65 hr
  exact (dss_cons (ds_set (i := 1) S.nd rfl (by first | exact .inl rfl | exact .inr rfl) (de_callD G_law_ending_book hr tk (by decide) rfl (da_cons (de_callD G_law_draws hr tk (by decide) rfl (da_cons (de_callD G_law_cell hr tk (by decide) rfl (da_cons (de_var 0) (da_cons de_int da_nil))) (da_cons de_int da_nil))) da_nil))) (dss_cons (ds_set (i := 2) S.nd rfl (by first | exact .inl rfl | exact .inr rfl) (de_op op_addA o_add (DE.x (DLi.d (dl_lst (da_cons (de_callD G_law_cell hr tk (by decide) rfl (da_cons (de_var 0) (da_cons de_int da_nil))) da_nil)))) (DE.x (de_cut (DE.x (de_var 0)) (DO.som (DE.x de_int)) (DO.som (DE.x de_int)))))) (dss_cons (ds_for hp rfl (di_range1 rfl T.range (DE.x (de_ix (DE.x (de_var 1)) (DE.x de_int)))) (pg_name (i := 3) S.nd rfl (by first | exact .inl rfl | exact .inr rfl)) (dss_one (ds_for hp rfl (di_range1 rfl T.range (DE.x (de_ix (DE.x (de_var 1)) (DE.x de_int)))) (pg_name (i := 4) S.nd rfl (by first | exact .inl rfl | exact .inr rfl)) (dss_cons (ds_own (i := 5) S.nd rfl (by first | exact .inl rfl | exact .inr rfl) (dl_lst da_nil)) (dss_cons (ds_for hp rfl (di_range1 rfl T.range (DE.x de_int)) (pg_name (i := 6) S.nd rfl (by first | exact .inl rfl | exact .inr rfl)) (dss_cons (ds_set (i := 7) S.nd rfl (by first | exact .inl rfl | exact .inr rfl) (de_ix (DE.x (de_var 2)) (DE.x (de_op op_mod o_mod (DE.x (de_t1 call_int1 b_int rfl T.int (DE.x (de_op op_addA o_add (DE.x (de_op op_mul o_mul (DE.x de_int) (DE.x (de_op op_addA o_add (DE.x (de_op op_mul o_mul (DE.x (de_var 3)) (DE.x (de_ix (DE.x (de_var 1)) (DE.x de_int))))) (DE.x (de_var 4)))))) (DE.x (de_var 6)))) PyProof.Rows.boot_int)) (DE.x (de_b1 call_len_seq b_len rfl T.len (DE.x (de_var 2)) PySem.boot_len)))))) (dss_one (ds_app (i := 5) rfl (by first | exact .inl rfl | exact .inr (.inl rfl)) (de_callD G_law_whole_way hr tk (by decide) rfl (da_cons (de_var 1) (da_cons (de_var 3) (da_cons (de_var 4) (da_cons (de_ix (DE.x (de_callD G_law_draws hr tk (by decide) rfl (da_cons (de_var 7) (da_cons (de_op op_addA o_add (DE.x (de_var 6)) (DE.x de_int)) da_nil)))) (DE.x (de_var 6))) da_nil))))))))) (dss_freeze 5 (dss_one (ds_if (dt_not (DE.test (de_callD G_law_right hr tk (by decide) rfl (da_cons (de_var 1) (da_cons (de_var 3) (da_cons (de_var 4) (da_cons (de_var 5) da_nil))))))) (dss_one (ds_ret de_bl)) dss_nil)))))))) (dss_one (ds_ret de_bl)))))
end
set_option maxHeartbeats 0 in
theorem all_mk {l : PySem.W.OpenLaw} {w : World} {K : PySem.W.Frag} {h : Heap} {mg : Str → Option Value} {fa : Addr} (X : K.In h) (G : h.Ns mainGlobals mg) (hfa : mg "law" = some (.ref fa))
    {od_is_integer an_is_integer : Option Addr} {sl_is_integer : Array (Option Value)} {oc_is_integer kV_is_integer dc_is_integer pm_is_integer cd_is_integer ct_is_integer : Value} {a_is_integer : Addr}
    (na_is_integer : PySem.W.nsIn K mainGlobals "is_integer" = some (some (.ref a_is_integer)))
    (lo_is_integer : K.lookup a_is_integer = some ⟨oc_is_integer, od_is_integer, .func (PySem.W.fnOf "is_integer" "is_integer" (defArgs s_is_integer) (defBody s_is_integer) (defScope s_is_integer) .none kV_is_integer dc_is_integer pm_is_integer an_is_integer cd_is_integer ct_is_integer), sl_is_integer⟩)
    (co_is_integer : PySem.W.codeIn K cd_is_integer "is_integer" = true) (ke_is_integer : PySem.W.keepIn K (.ref a_is_integer) = true)
    {od_is_integer_from an_is_integer_from : Option Addr} {sl_is_integer_from : Array (Option Value)} {oc_is_integer_from kV_is_integer_from dc_is_integer_from pm_is_integer_from cd_is_integer_from ct_is_integer_from : Value} {a_is_integer_from : Addr}
    (na_is_integer_from : PySem.W.nsIn K mainGlobals "is_integer_from" = some (some (.ref a_is_integer_from)))
    (lo_is_integer_from : K.lookup a_is_integer_from = some ⟨oc_is_integer_from, od_is_integer_from, .func (PySem.W.fnOf "is_integer_from" "is_integer_from" (defArgs s_is_integer_from) (defBody s_is_integer_from) (defScope s_is_integer_from) .none kV_is_integer_from dc_is_integer_from pm_is_integer_from an_is_integer_from cd_is_integer_from ct_is_integer_from), sl_is_integer_from⟩)
    (co_is_integer_from : PySem.W.codeIn K cd_is_integer_from "is_integer_from" = true) (ke_is_integer_from : PySem.W.keepIn K (.ref a_is_integer_from) = true)
    {od_is_number_below an_is_number_below : Option Addr} {sl_is_number_below : Array (Option Value)} {oc_is_number_below kV_is_number_below dc_is_number_below pm_is_number_below cd_is_number_below ct_is_number_below : Value} {a_is_number_below : Addr}
    (na_is_number_below : PySem.W.nsIn K mainGlobals "is_number_below" = some (some (.ref a_is_number_below)))
    (lo_is_number_below : K.lookup a_is_number_below = some ⟨oc_is_number_below, od_is_number_below, .func (PySem.W.fnOf "is_number_below" "is_number_below" (defArgs s_is_number_below) (defBody s_is_number_below) (defScope s_is_number_below) .none kV_is_number_below dc_is_number_below pm_is_number_below an_is_number_below cd_is_number_below ct_is_number_below), sl_is_number_below⟩)
    (co_is_number_below : PySem.W.codeIn K cd_is_number_below "is_number_below" = true) (ke_is_number_below : PySem.W.keepIn K (.ref a_is_number_below) = true)
    {od_is_tuple_of an_is_tuple_of : Option Addr} {sl_is_tuple_of : Array (Option Value)} {oc_is_tuple_of kV_is_tuple_of dc_is_tuple_of pm_is_tuple_of cd_is_tuple_of ct_is_tuple_of : Value} {a_is_tuple_of : Addr}
    (na_is_tuple_of : PySem.W.nsIn K mainGlobals "is_tuple_of" = some (some (.ref a_is_tuple_of)))
    (lo_is_tuple_of : K.lookup a_is_tuple_of = some ⟨oc_is_tuple_of, od_is_tuple_of, .func (PySem.W.fnOf "is_tuple_of" "is_tuple_of" (defArgs s_is_tuple_of) (defBody s_is_tuple_of) (defScope s_is_tuple_of) .none kV_is_tuple_of dc_is_tuple_of pm_is_tuple_of an_is_tuple_of cd_is_tuple_of ct_is_tuple_of), sl_is_tuple_of⟩)
    (co_is_tuple_of : PySem.W.codeIn K cd_is_tuple_of "is_tuple_of" = true) (ke_is_tuple_of : PySem.W.keepIn K (.ref a_is_tuple_of) = true)
    {od_are_numbers_below an_are_numbers_below : Option Addr} {sl_are_numbers_below : Array (Option Value)} {oc_are_numbers_below kV_are_numbers_below dc_are_numbers_below pm_are_numbers_below cd_are_numbers_below ct_are_numbers_below : Value} {a_are_numbers_below : Addr}
    (na_are_numbers_below : PySem.W.nsIn K mainGlobals "are_numbers_below" = some (some (.ref a_are_numbers_below)))
    (lo_are_numbers_below : K.lookup a_are_numbers_below = some ⟨oc_are_numbers_below, od_are_numbers_below, .func (PySem.W.fnOf "are_numbers_below" "are_numbers_below" (defArgs s_are_numbers_below) (defBody s_are_numbers_below) (defScope s_are_numbers_below) .none kV_are_numbers_below dc_are_numbers_below pm_are_numbers_below an_are_numbers_below cd_are_numbers_below ct_are_numbers_below), sl_are_numbers_below⟩)
    (co_are_numbers_below : PySem.W.codeIn K cd_are_numbers_below "are_numbers_below" = true) (ke_are_numbers_below : PySem.W.keepIn K (.ref a_are_numbers_below) = true)
    {od_is_rule an_is_rule : Option Addr} {sl_is_rule : Array (Option Value)} {oc_is_rule kV_is_rule dc_is_rule pm_is_rule cd_is_rule ct_is_rule : Value} {a_is_rule : Addr}
    (na_is_rule : PySem.W.nsIn K mainGlobals "is_rule" = some (some (.ref a_is_rule)))
    (lo_is_rule : K.lookup a_is_rule = some ⟨oc_is_rule, od_is_rule, .func (PySem.W.fnOf "is_rule" "is_rule" (defArgs s_is_rule) (defBody s_is_rule) (defScope s_is_rule) .none kV_is_rule dc_is_rule pm_is_rule an_is_rule cd_is_rule ct_is_rule), sl_is_rule⟩)
    (co_is_rule : PySem.W.codeIn K cd_is_rule "is_rule" = true) (ke_is_rule : PySem.W.keepIn K (.ref a_is_rule) = true)
    {od_is_book an_is_book : Option Addr} {sl_is_book : Array (Option Value)} {oc_is_book kV_is_book dc_is_book pm_is_book cd_is_book ct_is_book : Value} {a_is_book : Addr}
    (na_is_book : PySem.W.nsIn K mainGlobals "is_book" = some (some (.ref a_is_book)))
    (lo_is_book : K.lookup a_is_book = some ⟨oc_is_book, od_is_book, .func (PySem.W.fnOf "is_book" "is_book" (defArgs s_is_book) (defBody s_is_book) (defScope s_is_book) .none kV_is_book dc_is_book pm_is_book an_is_book cd_is_book ct_is_book), sl_is_book⟩)
    (co_is_book : PySem.W.codeIn K cd_is_book "is_book" = true) (ke_is_book : PySem.W.keepIn K (.ref a_is_book) = true)
    {od_check_book an_check_book : Option Addr} {sl_check_book : Array (Option Value)} {oc_check_book kV_check_book dc_check_book pm_check_book cd_check_book ct_check_book : Value} {a_check_book : Addr}
    (na_check_book : PySem.W.nsIn K mainGlobals "check_book" = some (some (.ref a_check_book)))
    (lo_check_book : K.lookup a_check_book = some ⟨oc_check_book, od_check_book, .func (PySem.W.fnOf "check_book" "check_book" (defArgs s_check_book) (defBody s_check_book) (defScope s_check_book) .none kV_check_book dc_check_book pm_check_book an_check_book cd_check_book ct_check_book), sl_check_book⟩)
    (co_check_book : PySem.W.codeIn K cd_check_book "check_book" = true) (ke_check_book : PySem.W.keepIn K (.ref a_check_book) = true)
    {od_check_state an_check_state : Option Addr} {sl_check_state : Array (Option Value)} {oc_check_state kV_check_state dc_check_state pm_check_state cd_check_state ct_check_state : Value} {a_check_state : Addr}
    (na_check_state : PySem.W.nsIn K mainGlobals "check_state" = some (some (.ref a_check_state)))
    (lo_check_state : K.lookup a_check_state = some ⟨oc_check_state, od_check_state, .func (PySem.W.fnOf "check_state" "check_state" (defArgs s_check_state) (defBody s_check_state) (defScope s_check_state) .none kV_check_state dc_check_state pm_check_state an_check_state cd_check_state ct_check_state), sl_check_state⟩)
    (co_check_state : PySem.W.codeIn K cd_check_state "check_state" = true) (ke_check_state : PySem.W.keepIn K (.ref a_check_state) = true)
    {od_fitting_rules an_fitting_rules : Option Addr} {sl_fitting_rules : Array (Option Value)} {oc_fitting_rules kV_fitting_rules dc_fitting_rules pm_fitting_rules cd_fitting_rules ct_fitting_rules : Value} {a_fitting_rules : Addr}
    (na_fitting_rules : PySem.W.nsIn K mainGlobals "fitting_rules" = some (some (.ref a_fitting_rules)))
    (lo_fitting_rules : K.lookup a_fitting_rules = some ⟨oc_fitting_rules, od_fitting_rules, .func (PySem.W.fnOf "fitting_rules" "fitting_rules" (defArgs s_fitting_rules) (defBody s_fitting_rules) (defScope s_fitting_rules) .none kV_fitting_rules dc_fitting_rules pm_fitting_rules an_fitting_rules cd_fitting_rules ct_fitting_rules), sl_fitting_rules⟩)
    (co_fitting_rules : PySem.W.codeIn K cd_fitting_rules "fitting_rules" = true) (ke_fitting_rules : PySem.W.keepIn K (.ref a_fitting_rules) = true)
    {od_rules_for an_rules_for : Option Addr} {sl_rules_for : Array (Option Value)} {oc_rules_for kV_rules_for dc_rules_for pm_rules_for cd_rules_for ct_rules_for : Value} {a_rules_for : Addr}
    (na_rules_for : PySem.W.nsIn K mainGlobals "rules_for" = some (some (.ref a_rules_for)))
    (lo_rules_for : K.lookup a_rules_for = some ⟨oc_rules_for, od_rules_for, .func (PySem.W.fnOf "rules_for" "rules_for" (defArgs s_rules_for) (defBody s_rules_for) (defScope s_rules_for) .none kV_rules_for dc_rules_for pm_rules_for an_rules_for cd_rules_for ct_rules_for), sl_rules_for⟩)
    (co_rules_for : PySem.W.codeIn K cd_rules_for "rules_for" = true) (ke_rules_for : PySem.W.keepIn K (.ref a_rules_for) = true)
    {od_ranks_under an_ranks_under : Option Addr} {sl_ranks_under : Array (Option Value)} {oc_ranks_under kV_ranks_under dc_ranks_under pm_ranks_under cd_ranks_under ct_ranks_under : Value} {a_ranks_under : Addr}
    (na_ranks_under : PySem.W.nsIn K mainGlobals "ranks_under" = some (some (.ref a_ranks_under)))
    (lo_ranks_under : K.lookup a_ranks_under = some ⟨oc_ranks_under, od_ranks_under, .func (PySem.W.fnOf "ranks_under" "ranks_under" (defArgs s_ranks_under) (defBody s_ranks_under) (defScope s_ranks_under) .none kV_ranks_under dc_ranks_under pm_ranks_under an_ranks_under cd_ranks_under ct_ranks_under), sl_ranks_under⟩)
    (co_ranks_under : PySem.W.codeIn K cd_ranks_under "ranks_under" = true) (ke_ranks_under : PySem.W.keepIn K (.ref a_ranks_under) = true)
    {od_has_ring_in an_has_ring_in : Option Addr} {sl_has_ring_in : Array (Option Value)} {oc_has_ring_in kV_has_ring_in dc_has_ring_in pm_has_ring_in cd_has_ring_in ct_has_ring_in : Value} {a_has_ring_in : Addr}
    (na_has_ring_in : PySem.W.nsIn K mainGlobals "has_ring_in" = some (some (.ref a_has_ring_in)))
    (lo_has_ring_in : K.lookup a_has_ring_in = some ⟨oc_has_ring_in, od_has_ring_in, .func (PySem.W.fnOf "has_ring_in" "has_ring_in" (defArgs s_has_ring_in) (defBody s_has_ring_in) (defScope s_has_ring_in) .none kV_has_ring_in dc_has_ring_in pm_has_ring_in an_has_ring_in cd_has_ring_in ct_has_ring_in), sl_has_ring_in⟩)
    (co_has_ring_in : PySem.W.codeIn K cd_has_ring_in "has_ring_in" = true) (ke_has_ring_in : PySem.W.keepIn K (.ref a_has_ring_in) = true)
    {od_has_ring an_has_ring : Option Addr} {sl_has_ring : Array (Option Value)} {oc_has_ring kV_has_ring dc_has_ring pm_has_ring cd_has_ring ct_has_ring : Value} {a_has_ring : Addr}
    (na_has_ring : PySem.W.nsIn K mainGlobals "has_ring" = some (some (.ref a_has_ring)))
    (lo_has_ring : K.lookup a_has_ring = some ⟨oc_has_ring, od_has_ring, .func (PySem.W.fnOf "has_ring" "has_ring" (defArgs s_has_ring) (defBody s_has_ring) (defScope s_has_ring) .none kV_has_ring dc_has_ring pm_has_ring an_has_ring cd_has_ring ct_has_ring), sl_has_ring⟩)
    (co_has_ring : PySem.W.codeIn K cd_has_ring "has_ring" = true) (ke_has_ring : PySem.W.keepIn K (.ref a_has_ring) = true)
    {od_check_ends an_check_ends : Option Addr} {sl_check_ends : Array (Option Value)} {oc_check_ends kV_check_ends dc_check_ends pm_check_ends cd_check_ends ct_check_ends : Value} {a_check_ends : Addr}
    (na_check_ends : PySem.W.nsIn K mainGlobals "check_ends" = some (some (.ref a_check_ends)))
    (lo_check_ends : K.lookup a_check_ends = some ⟨oc_check_ends, od_check_ends, .func (PySem.W.fnOf "check_ends" "check_ends" (defArgs s_check_ends) (defBody s_check_ends) (defScope s_check_ends) .none kV_check_ends dc_check_ends pm_check_ends an_check_ends cd_check_ends ct_check_ends), sl_check_ends⟩)
    (co_check_ends : PySem.W.codeIn K cd_check_ends "check_ends" = true) (ke_check_ends : PySem.W.keepIn K (.ref a_check_ends) = true)
    {od_check_states an_check_states : Option Addr} {sl_check_states : Array (Option Value)} {oc_check_states kV_check_states dc_check_states pm_check_states cd_check_states ct_check_states : Value} {a_check_states : Addr}
    (na_check_states : PySem.W.nsIn K mainGlobals "check_states" = some (some (.ref a_check_states)))
    (lo_check_states : K.lookup a_check_states = some ⟨oc_check_states, od_check_states, .func (PySem.W.fnOf "check_states" "check_states" (defArgs s_check_states) (defBody s_check_states) (defScope s_check_states) .none kV_check_states dc_check_states pm_check_states an_check_states cd_check_states ct_check_states), sl_check_states⟩)
    (co_check_states : PySem.W.codeIn K cd_check_states "check_states" = true) (ke_check_states : PySem.W.keepIn K (.ref a_check_states) = true)
    {od_signal_of an_signal_of : Option Addr} {sl_signal_of : Array (Option Value)} {oc_signal_of kV_signal_of dc_signal_of pm_signal_of cd_signal_of ct_signal_of : Value} {a_signal_of : Addr}
    (na_signal_of : PySem.W.nsIn K mainGlobals "signal_of" = some (some (.ref a_signal_of)))
    (lo_signal_of : K.lookup a_signal_of = some ⟨oc_signal_of, od_signal_of, .func (PySem.W.fnOf "signal_of" "signal_of" (defArgs s_signal_of) (defBody s_signal_of) (defScope s_signal_of) .none kV_signal_of dc_signal_of pm_signal_of an_signal_of cd_signal_of ct_signal_of), sl_signal_of⟩)
    (co_signal_of : PySem.W.codeIn K cd_signal_of "signal_of" = true) (ke_signal_of : PySem.W.keepIn K (.ref a_signal_of) = true)
    {od_way_result an_way_result : Option Addr} {sl_way_result : Array (Option Value)} {oc_way_result kV_way_result dc_way_result pm_way_result cd_way_result ct_way_result : Value} {a_way_result : Addr}
    (na_way_result : PySem.W.nsIn K mainGlobals "way_result" = some (some (.ref a_way_result)))
    (lo_way_result : K.lookup a_way_result = some ⟨oc_way_result, od_way_result, .func (PySem.W.fnOf "way_result" "way_result" (defArgs s_way_result) (defBody s_way_result) (defScope s_way_result) .none kV_way_result dc_way_result pm_way_result an_way_result cd_way_result ct_way_result), sl_way_result⟩)
    (co_way_result : PySem.W.codeIn K cd_way_result "way_result" = true) (ke_way_result : PySem.W.keepIn K (.ref a_way_result) = true)
    {od_rest_ways an_rest_ways : Option Addr} {sl_rest_ways : Array (Option Value)} {oc_rest_ways kV_rest_ways dc_rest_ways pm_rest_ways cd_rest_ways ct_rest_ways : Value} {a_rest_ways : Addr}
    (na_rest_ways : PySem.W.nsIn K mainGlobals "rest_ways" = some (some (.ref a_rest_ways)))
    (lo_rest_ways : K.lookup a_rest_ways = some ⟨oc_rest_ways, od_rest_ways, .func (PySem.W.fnOf "rest_ways" "rest_ways" (defArgs s_rest_ways) (defBody s_rest_ways) (defScope s_rest_ways) .none kV_rest_ways dc_rest_ways pm_rest_ways an_rest_ways cd_rest_ways ct_rest_ways), sl_rest_ways⟩)
    (co_rest_ways : PySem.W.codeIn K cd_rest_ways "rest_ways" = true) (ke_rest_ways : PySem.W.keepIn K (.ref a_rest_ways) = true)
    {od_results_of an_results_of : Option Addr} {sl_results_of : Array (Option Value)} {oc_results_of kV_results_of dc_results_of pm_results_of cd_results_of ct_results_of : Value} {a_results_of : Addr}
    (na_results_of : PySem.W.nsIn K mainGlobals "results_of" = some (some (.ref a_results_of)))
    (lo_results_of : K.lookup a_results_of = some ⟨oc_results_of, od_results_of, .func (PySem.W.fnOf "results_of" "results_of" (defArgs s_results_of) (defBody s_results_of) (defScope s_results_of) .none kV_results_of dc_results_of pm_results_of an_results_of cd_results_of ct_results_of), sl_results_of⟩)
    (co_results_of : PySem.W.codeIn K cd_results_of "results_of" = true) (ke_results_of : PySem.W.keepIn K (.ref a_results_of) = true)
    {od_node_rests an_node_rests : Option Addr} {sl_node_rests : Array (Option Value)} {oc_node_rests kV_node_rests dc_node_rests pm_node_rests cd_node_rests ct_node_rests : Value} {a_node_rests : Addr}
    (na_node_rests : PySem.W.nsIn K mainGlobals "node_rests" = some (some (.ref a_node_rests)))
    (lo_node_rests : K.lookup a_node_rests = some ⟨oc_node_rests, od_node_rests, .func (PySem.W.fnOf "node_rests" "node_rests" (defArgs s_node_rests) (defBody s_node_rests) (defScope s_node_rests) .none kV_node_rests dc_node_rests pm_node_rests an_node_rests cd_node_rests ct_node_rests), sl_node_rests⟩)
    (co_node_rests : PySem.W.codeIn K cd_node_rests "node_rests" = true) (ke_node_rests : PySem.W.keepIn K (.ref a_node_rests) = true)
    {od_node_results an_node_results : Option Addr} {sl_node_results : Array (Option Value)} {oc_node_results kV_node_results dc_node_results pm_node_results cd_node_results ct_node_results : Value} {a_node_results : Addr}
    (na_node_results : PySem.W.nsIn K mainGlobals "node_results" = some (some (.ref a_node_results)))
    (lo_node_results : K.lookup a_node_results = some ⟨oc_node_results, od_node_results, .func (PySem.W.fnOf "node_results" "node_results" (defArgs s_node_results) (defBody s_node_results) (defScope s_node_results) .none kV_node_results dc_node_results pm_node_results an_node_results cd_node_results ct_node_results), sl_node_results⟩)
    (co_node_results : PySem.W.codeIn K cd_node_results "node_results" = true) (ke_node_results : PySem.W.keepIn K (.ref a_node_results) = true)
    {od_way_by_least_numbers an_way_by_least_numbers : Option Addr} {sl_way_by_least_numbers : Array (Option Value)} {oc_way_by_least_numbers kV_way_by_least_numbers dc_way_by_least_numbers pm_way_by_least_numbers cd_way_by_least_numbers ct_way_by_least_numbers : Value} {a_way_by_least_numbers : Addr}
    (na_way_by_least_numbers : PySem.W.nsIn K mainGlobals "way_by_least_numbers" = some (some (.ref a_way_by_least_numbers)))
    (lo_way_by_least_numbers : K.lookup a_way_by_least_numbers = some ⟨oc_way_by_least_numbers, od_way_by_least_numbers, .func (PySem.W.fnOf "way_by_least_numbers" "way_by_least_numbers" (defArgs s_way_by_least_numbers) (defBody s_way_by_least_numbers) (defScope s_way_by_least_numbers) .none kV_way_by_least_numbers dc_way_by_least_numbers pm_way_by_least_numbers an_way_by_least_numbers cd_way_by_least_numbers ct_way_by_least_numbers), sl_way_by_least_numbers⟩)
    (co_way_by_least_numbers : PySem.W.codeIn K cd_way_by_least_numbers "way_by_least_numbers" = true) (ke_way_by_least_numbers : PySem.W.keepIn K (.ref a_way_by_least_numbers) = true)
    {od_first_way an_first_way : Option Addr} {sl_first_way : Array (Option Value)} {oc_first_way kV_first_way dc_first_way pm_first_way cd_first_way ct_first_way : Value} {a_first_way : Addr}
    (na_first_way : PySem.W.nsIn K mainGlobals "first_way" = some (some (.ref a_first_way)))
    (lo_first_way : K.lookup a_first_way = some ⟨oc_first_way, od_first_way, .func (PySem.W.fnOf "first_way" "first_way" (defArgs s_first_way) (defBody s_first_way) (defScope s_first_way) .none kV_first_way dc_first_way pm_first_way an_first_way cd_first_way ct_first_way), sl_first_way⟩)
    (co_first_way : PySem.W.codeIn K cd_first_way "first_way" = true) (ke_first_way : PySem.W.keepIn K (.ref a_first_way) = true)
    {od_law_cell an_law_cell : Option Addr} {sl_law_cell : Array (Option Value)} {oc_law_cell kV_law_cell dc_law_cell pm_law_cell cd_law_cell ct_law_cell : Value} {a_law_cell : Addr}
    (na_law_cell : PySem.W.nsIn K mainGlobals "_law_cell" = some (some (.ref a_law_cell)))
    (lo_law_cell : K.lookup a_law_cell = some ⟨oc_law_cell, od_law_cell, .func (PySem.W.fnOf "_law_cell" "_law_cell" (defArgs s_law_cell) (defBody s_law_cell) (defScope s_law_cell) .none kV_law_cell dc_law_cell pm_law_cell an_law_cell cd_law_cell ct_law_cell), sl_law_cell⟩)
    (co_law_cell : PySem.W.codeIn K cd_law_cell "_law_cell" = true) (ke_law_cell : PySem.W.keepIn K (.ref a_law_cell) = true)
    {od_law_draws an_law_draws : Option Addr} {sl_law_draws : Array (Option Value)} {oc_law_draws kV_law_draws dc_law_draws pm_law_draws cd_law_draws ct_law_draws : Value} {a_law_draws : Addr}
    (na_law_draws : PySem.W.nsIn K mainGlobals "_law_draws" = some (some (.ref a_law_draws)))
    (lo_law_draws : K.lookup a_law_draws = some ⟨oc_law_draws, od_law_draws, .func (PySem.W.fnOf "_law_draws" "_law_draws" (defArgs s_law_draws) (defBody s_law_draws) (defScope s_law_draws) .none kV_law_draws dc_law_draws pm_law_draws an_law_draws cd_law_draws ct_law_draws), sl_law_draws⟩)
    (co_law_draws : PySem.W.codeIn K cd_law_draws "_law_draws" = true) (ke_law_draws : PySem.W.keepIn K (.ref a_law_draws) = true)
    {od_law_rule an_law_rule : Option Addr} {sl_law_rule : Array (Option Value)} {oc_law_rule kV_law_rule dc_law_rule pm_law_rule cd_law_rule ct_law_rule : Value} {a_law_rule : Addr}
    (na_law_rule : PySem.W.nsIn K mainGlobals "_law_rule" = some (some (.ref a_law_rule)))
    (lo_law_rule : K.lookup a_law_rule = some ⟨oc_law_rule, od_law_rule, .func (PySem.W.fnOf "_law_rule" "_law_rule" (defArgs s_law_rule) (defBody s_law_rule) (defScope s_law_rule) .none kV_law_rule dc_law_rule pm_law_rule an_law_rule cd_law_rule ct_law_rule), sl_law_rule⟩)
    (co_law_rule : PySem.W.codeIn K cd_law_rule "_law_rule" = true) (ke_law_rule : PySem.W.keepIn K (.ref a_law_rule) = true)
    {od_law_same an_law_same : Option Addr} {sl_law_same : Array (Option Value)} {oc_law_same kV_law_same dc_law_same pm_law_same cd_law_same ct_law_same : Value} {a_law_same : Addr}
    (na_law_same : PySem.W.nsIn K mainGlobals "_law_same" = some (some (.ref a_law_same)))
    (lo_law_same : K.lookup a_law_same = some ⟨oc_law_same, od_law_same, .func (PySem.W.fnOf "_law_same" "_law_same" (defArgs s_law_same) (defBody s_law_same) (defScope s_law_same) .none kV_law_same dc_law_same pm_law_same an_law_same cd_law_same ct_law_same), sl_law_same⟩)
    (co_law_same : PySem.W.codeIn K cd_law_same "_law_same" = true) (ke_law_same : PySem.W.keepIn K (.ref a_law_same) = true)
    {od_law_ending_book an_law_ending_book : Option Addr} {sl_law_ending_book : Array (Option Value)} {oc_law_ending_book kV_law_ending_book dc_law_ending_book pm_law_ending_book cd_law_ending_book ct_law_ending_book : Value} {a_law_ending_book : Addr}
    (na_law_ending_book : PySem.W.nsIn K mainGlobals "_law_ending_book" = some (some (.ref a_law_ending_book)))
    (lo_law_ending_book : K.lookup a_law_ending_book = some ⟨oc_law_ending_book, od_law_ending_book, .func (PySem.W.fnOf "_law_ending_book" "_law_ending_book" (defArgs s_law_ending_book) (defBody s_law_ending_book) (defScope s_law_ending_book) .none kV_law_ending_book dc_law_ending_book pm_law_ending_book an_law_ending_book cd_law_ending_book ct_law_ending_book), sl_law_ending_book⟩)
    (co_law_ending_book : PySem.W.codeIn K cd_law_ending_book "_law_ending_book" = true) (ke_law_ending_book : PySem.W.keepIn K (.ref a_law_ending_book) = true)
    {od_law_whole_way an_law_whole_way : Option Addr} {sl_law_whole_way : Array (Option Value)} {oc_law_whole_way kV_law_whole_way dc_law_whole_way pm_law_whole_way cd_law_whole_way ct_law_whole_way : Value} {a_law_whole_way : Addr}
    (na_law_whole_way : PySem.W.nsIn K mainGlobals "_law_whole_way" = some (some (.ref a_law_whole_way)))
    (lo_law_whole_way : K.lookup a_law_whole_way = some ⟨oc_law_whole_way, od_law_whole_way, .func (PySem.W.fnOf "_law_whole_way" "_law_whole_way" (defArgs s_law_whole_way) (defBody s_law_whole_way) (defScope s_law_whole_way) .none kV_law_whole_way dc_law_whole_way pm_law_whole_way an_law_whole_way cd_law_whole_way ct_law_whole_way), sl_law_whole_way⟩)
    (co_law_whole_way : PySem.W.codeIn K cd_law_whole_way "_law_whole_way" = true) (ke_law_whole_way : PySem.W.keepIn K (.ref a_law_whole_way) = true)
    {od_law_found_ways an_law_found_ways : Option Addr} {sl_law_found_ways : Array (Option Value)} {oc_law_found_ways kV_law_found_ways dc_law_found_ways pm_law_found_ways cd_law_found_ways ct_law_found_ways : Value} {a_law_found_ways : Addr}
    (na_law_found_ways : PySem.W.nsIn K mainGlobals "_law_found_ways" = some (some (.ref a_law_found_ways)))
    (lo_law_found_ways : K.lookup a_law_found_ways = some ⟨oc_law_found_ways, od_law_found_ways, .func (PySem.W.fnOf "_law_found_ways" "_law_found_ways" (defArgs s_law_found_ways) (defBody s_law_found_ways) (defScope s_law_found_ways) .none kV_law_found_ways dc_law_found_ways pm_law_found_ways an_law_found_ways cd_law_found_ways ct_law_found_ways), sl_law_found_ways⟩)
    (co_law_found_ways : PySem.W.codeIn K cd_law_found_ways "_law_found_ways" = true) (ke_law_found_ways : PySem.W.keepIn K (.ref a_law_found_ways) = true)
    {od_law_right an_law_right : Option Addr} {sl_law_right : Array (Option Value)} {oc_law_right kV_law_right dc_law_right pm_law_right cd_law_right ct_law_right : Value} {a_law_right : Addr}
    (na_law_right : PySem.W.nsIn K mainGlobals "_law_right" = some (some (.ref a_law_right)))
    (lo_law_right : K.lookup a_law_right = some ⟨oc_law_right, od_law_right, .func (PySem.W.fnOf "_law_right" "_law_right" (defArgs s_law_right) (defBody s_law_right) (defScope s_law_right) .none kV_law_right dc_law_right pm_law_right an_law_right cd_law_right ct_law_right), sl_law_right⟩)
    (co_law_right : PySem.W.codeIn K cd_law_right "_law_right" = true) (ke_law_right : PySem.W.keepIn K (.ref a_law_right) = true)
    {od_law an_law : Option Addr} {sl_law : Array (Option Value)} {oc_law kV_law dc_law pm_law cd_law ct_law : Value} {a_law : Addr}
    (na_law : PySem.W.nsIn K mainGlobals "law" = some (some (.ref a_law)))
    (lo_law : K.lookup a_law = some ⟨oc_law, od_law, .func (PySem.W.fnOf "law" "law" (defArgs s_law) (defBody s_law) (defScope s_law) .none kV_law dc_law pm_law an_law cd_law ct_law), sl_law⟩)
    (co_law : PySem.W.codeIn K cd_law "law" = true) (ke_law : PySem.W.keepIn K (.ref a_law) = true)
    {t_MOST_STATES : Tok} (gc_MOST_STATES : PySem.W.nsIn K mainGlobals "MOST_STATES" = some (some (.int (4) t_MOST_STATES)))
    {t_MOST_RULES : Tok} (gc_MOST_RULES : PySem.W.nsIn K mainGlobals "MOST_RULES" = some (some (.int (12) t_MOST_RULES)))
    {ca_BadBook : Addr} (ga_BadBook : PySem.W.nsIn K mainGlobals "BadBook" = some (some (.ref ca_BadBook)))
    {ca_BadState : Addr} (ga_BadState : PySem.W.nsIn K mainGlobals "BadState" = some (some (.ref ca_BadState)))
    {ca_NoEnd : Addr} (ga_NoEnd : PySem.W.nsIn K mainGlobals "NoEnd" = some (some (.ref ca_NoEnd)))
    {ca_BadWay : Addr} (ga_BadWay : PySem.W.nsIn K mainGlobals "BadWay" = some (some (.ref ca_BadWay)))
    (er_BadBook : errF K ca_BadBook = true)
    (er_BadState : errF K ca_BadState = true)
    (er_NoEnd : errF K ca_NoEnd = true)
    {ca_RestError : Addr} (ga_RestError : PySem.W.nsIn K mainGlobals "RestError" = some (some (.ref ca_RestError)))
    (sg_RestError : PySem.W.specialIn K (.ref ca_RestError) "__getattribute__" = some (some (.builtin "type.__getattribute__"))) (rd_RestError : PySem.W.readsIn K ca_RestError (.type "type") = true) (fc_RestError : PySem.W.findCls K (.ref ca_RestError) (.type "type") "__init__" = some (.val (.builtin "ValueError.__init__")))
    {oi_BadWay : Value} {odi_BadWay ani_BadWay : Option Addr} {sli_BadWay : Array (Option Value)} {kVi_BadWay dci_BadWay pmi_BadWay cdi_BadWay cti_BadWay : Value} {fi_BadWay : Addr}
    (oe_BadWay : oexF K ca_BadWay = true) (ii_BadWay : PySem.W.findIn K (.ref ca_BadWay) "__init__" = some (some (.ref fi_BadWay))) (ti_BadWay : PySem.W.typeIn K (.ref fi_BadWay) = some (.type "function"))
    (li_BadWay : K.lookup fi_BadWay = some ⟨oi_BadWay, odi_BadWay, .func (PySem.W.fnOf "__init__" "BadWay.__init__" (defArgs s_BadWay) (defBody s_BadWay) (defScope s_BadWay) .none kVi_BadWay dci_BadWay pmi_BadWay ani_BadWay cdi_BadWay cti_BadWay), sli_BadWay⟩)
    (di_BadWay : PySem.W.codeIn K cdi_BadWay "BadWay.__init__" = true) (ki_BadWay : PySem.W.keepIn K (.ref fi_BadWay) = true)
    (no_BadWay : PySem.W.findIn K (.ref ca_BadWay) "place" = some none)
    (z_len : PySem.W.nsIn K mainGlobals "len" = some none)
    (z_range : PySem.W.nsIn K mainGlobals "range" = some none)
    (z_isinstance : PySem.W.nsIn K mainGlobals "isinstance" = some none)
    (z_int : PySem.W.nsIn K mainGlobals "int" = some none)
    (z_bool : PySem.W.nsIn K mainGlobals "bool" = some none)
    (z_str : PySem.W.nsIn K mainGlobals "str" = some none)
    (z_list : PySem.W.nsIn K mainGlobals "list" = some none)
    (z_tuple : PySem.W.nsIn K mainGlobals "tuple" = some none)
    (z_dict : PySem.W.nsIn K mainGlobals "dict" = some none)
    (z_set : PySem.W.nsIn K mainGlobals "set" = some none)
    (z_min : PySem.W.nsIn K mainGlobals "min" = some none)
    (z_max : PySem.W.nsIn K mainGlobals "max" = some none)
    (z_sum : PySem.W.nsIn K mainGlobals "sum" = some none)
    (z_all : PySem.W.nsIn K mainGlobals "all" = some none)
    (z_any : PySem.W.nsIn K mainGlobals "any" = some none)
    (z_sorted : PySem.W.nsIn K mainGlobals "sorted" = some none)
    (z_enumerate : PySem.W.nsIn K mainGlobals "enumerate" = some none)
    (z_zip : PySem.W.nsIn K mainGlobals "zip" = some none) :
    ∃ fd : FuncData, (∀ (s : Shared) (v : Value), BindsTo s fd ⟨[v], []⟩ [("script", v)]) ∧ ∀ base : Heap, K.In base → base.Ns mainGlobals mg → ∃ ec : EC, FnOk l.prog w K mg base (L2.CX l.prog w) 14 fa fd ["script"] (spD K ec 1 f_law) := by
  have e := hfa.symm.trans (PySem.W.mg_of X G na_law)
  cases e
  have T : Bl mg := ⟨PySem.W.mg_none_of X G z_len, PySem.W.mg_none_of X G z_range, PySem.W.mg_none_of X G z_isinstance, PySem.W.mg_none_of X G z_int, PySem.W.mg_none_of X G z_bool, PySem.W.mg_none_of X G z_str, PySem.W.mg_none_of X G z_list, PySem.W.mg_none_of X G z_tuple, PySem.W.mg_none_of X G z_dict, PySem.W.mg_none_of X G z_set, PySem.W.mg_none_of X G z_min, PySem.W.mg_none_of X G z_max, PySem.W.mg_none_of X G z_sum, PySem.W.mg_none_of X G z_all, PySem.W.mg_none_of X G z_any, PySem.W.mg_none_of X G z_sorted, PySem.W.mg_none_of X G z_enumerate, PySem.W.mg_none_of X G z_zip⟩
  have C : Cn mg := ⟨⟨_, PySem.W.mg_of X G gc_MOST_STATES⟩, ⟨_, PySem.W.mg_of X G gc_MOST_RULES⟩⟩
  have F_is_integer := fun_mk (st := s_is_integer) lo_is_integer co_is_integer ke_is_integer
  have D_is_integer : DAt K mg "is_integer" s_is_integer P_is_integer := ⟨_, _, PySem.W.mg_of X G na_is_integer, F_is_integer, F_is_integer.binds (ps := P_is_integer) fun _ _ _ _ _ _ us hl => match us, hl with | [_], _ => rfl⟩
  have F_is_integer_from := fun_mk (st := s_is_integer_from) lo_is_integer_from co_is_integer_from ke_is_integer_from
  have D_is_integer_from : DAt K mg "is_integer_from" s_is_integer_from P_is_integer_from := ⟨_, _, PySem.W.mg_of X G na_is_integer_from, F_is_integer_from, F_is_integer_from.binds (ps := P_is_integer_from) fun _ _ _ _ _ _ us hl => match us, hl with | [_, _, _], _ => rfl⟩
  have F_is_number_below := fun_mk (st := s_is_number_below) lo_is_number_below co_is_number_below ke_is_number_below
  have D_is_number_below : DAt K mg "is_number_below" s_is_number_below P_is_number_below := ⟨_, _, PySem.W.mg_of X G na_is_number_below, F_is_number_below, F_is_number_below.binds (ps := P_is_number_below) fun _ _ _ _ _ _ us hl => match us, hl with | [_, _], _ => rfl⟩
  have F_is_tuple_of := fun_mk (st := s_is_tuple_of) lo_is_tuple_of co_is_tuple_of ke_is_tuple_of
  have D_is_tuple_of : DAt K mg "is_tuple_of" s_is_tuple_of P_is_tuple_of := ⟨_, _, PySem.W.mg_of X G na_is_tuple_of, F_is_tuple_of, F_is_tuple_of.binds (ps := P_is_tuple_of) fun _ _ _ _ _ _ us hl => match us, hl with | [_, _], _ => rfl⟩
  have F_are_numbers_below := fun_mk (st := s_are_numbers_below) lo_are_numbers_below co_are_numbers_below ke_are_numbers_below
  have D_are_numbers_below : DAt K mg "are_numbers_below" s_are_numbers_below P_are_numbers_below := ⟨_, _, PySem.W.mg_of X G na_are_numbers_below, F_are_numbers_below, F_are_numbers_below.binds (ps := P_are_numbers_below) fun _ _ _ _ _ _ us hl => match us, hl with | [_, _], _ => rfl⟩
  have F_is_rule := fun_mk (st := s_is_rule) lo_is_rule co_is_rule ke_is_rule
  have D_is_rule : DAt K mg "is_rule" s_is_rule P_is_rule := ⟨_, _, PySem.W.mg_of X G na_is_rule, F_is_rule, F_is_rule.binds (ps := P_is_rule) fun _ _ _ _ _ _ us hl => match us, hl with | [_, _], _ => rfl⟩
  have F_is_book := fun_mk (st := s_is_book) lo_is_book co_is_book ke_is_book
  have D_is_book : DAt K mg "is_book" s_is_book P_is_book := ⟨_, _, PySem.W.mg_of X G na_is_book, F_is_book, F_is_book.binds (ps := P_is_book) fun _ _ _ _ _ _ us hl => match us, hl with | [_], _ => rfl⟩
  have F_check_book := fun_mk (st := s_check_book) lo_check_book co_check_book ke_check_book
  have D_check_book : DAt K mg "check_book" s_check_book P_check_book := ⟨_, _, PySem.W.mg_of X G na_check_book, F_check_book, F_check_book.binds (ps := P_check_book) fun _ _ _ _ _ _ us hl => match us, hl with | [_], _ => rfl⟩
  have F_check_state := fun_mk (st := s_check_state) lo_check_state co_check_state ke_check_state
  have D_check_state : DAt K mg "check_state" s_check_state P_check_state := ⟨_, _, PySem.W.mg_of X G na_check_state, F_check_state, F_check_state.binds (ps := P_check_state) fun _ _ _ _ _ _ us hl => match us, hl with | [_, _], _ => rfl⟩
  have F_fitting_rules := fun_mk (st := s_fitting_rules) lo_fitting_rules co_fitting_rules ke_fitting_rules
  have D_fitting_rules : DAt K mg "fitting_rules" s_fitting_rules P_fitting_rules := ⟨_, _, PySem.W.mg_of X G na_fitting_rules, F_fitting_rules, F_fitting_rules.binds (ps := P_fitting_rules) fun _ _ _ _ _ _ us hl => match us, hl with | [_, _, _], _ => rfl⟩
  have F_rules_for := fun_mk (st := s_rules_for) lo_rules_for co_rules_for ke_rules_for
  have D_rules_for : DAt K mg "rules_for" s_rules_for P_rules_for := ⟨_, _, PySem.W.mg_of X G na_rules_for, F_rules_for, F_rules_for.binds (ps := P_rules_for) fun _ _ _ _ _ _ us hl => match us, hl with | [_, _, _], _ => rfl⟩
  have F_ranks_under := fun_mk (st := s_ranks_under) lo_ranks_under co_ranks_under ke_ranks_under
  have D_ranks_under : DAt K mg "ranks_under" s_ranks_under P_ranks_under := ⟨_, _, PySem.W.mg_of X G na_ranks_under, F_ranks_under, F_ranks_under.binds (ps := P_ranks_under) fun _ _ _ _ _ _ us hl => match us, hl with | [_, _], _ => rfl⟩
  have F_has_ring_in := fun_mk (st := s_has_ring_in) lo_has_ring_in co_has_ring_in ke_has_ring_in
  have D_has_ring_in : DAt K mg "has_ring_in" s_has_ring_in P_has_ring_in := ⟨_, _, PySem.W.mg_of X G na_has_ring_in, F_has_ring_in, F_has_ring_in.binds (ps := P_has_ring_in) fun _ _ _ _ _ _ us hl => match us, hl with | [_], _ => rfl⟩
  have F_has_ring := fun_mk (st := s_has_ring) lo_has_ring co_has_ring ke_has_ring
  have D_has_ring : DAt K mg "has_ring" s_has_ring P_has_ring := ⟨_, _, PySem.W.mg_of X G na_has_ring, F_has_ring, F_has_ring.binds (ps := P_has_ring) fun _ _ _ _ _ _ us hl => match us, hl with | [_], _ => rfl⟩
  have F_check_ends := fun_mk (st := s_check_ends) lo_check_ends co_check_ends ke_check_ends
  have D_check_ends : DAt K mg "check_ends" s_check_ends P_check_ends := ⟨_, _, PySem.W.mg_of X G na_check_ends, F_check_ends, F_check_ends.binds (ps := P_check_ends) fun _ _ _ _ _ _ us hl => match us, hl with | [_], _ => rfl⟩
  have F_check_states := fun_mk (st := s_check_states) lo_check_states co_check_states ke_check_states
  have D_check_states : DAt K mg "check_states" s_check_states P_check_states := ⟨_, _, PySem.W.mg_of X G na_check_states, F_check_states, F_check_states.binds (ps := P_check_states) fun _ _ _ _ _ _ us hl => match us, hl with | [_, _], _ => rfl⟩
  have F_signal_of := fun_mk (st := s_signal_of) lo_signal_of co_signal_of ke_signal_of
  have D_signal_of : DAt K mg "signal_of" s_signal_of P_signal_of := ⟨_, _, PySem.W.mg_of X G na_signal_of, F_signal_of, F_signal_of.binds (ps := P_signal_of) fun _ _ _ _ _ _ us hl => match us, hl with | [_, _], _ => rfl⟩
  have F_way_result := fun_mk (st := s_way_result) lo_way_result co_way_result ke_way_result
  have D_way_result : DAt K mg "way_result" s_way_result P_way_result := ⟨_, _, PySem.W.mg_of X G na_way_result, F_way_result, F_way_result.binds (ps := P_way_result) fun _ _ _ _ _ _ us hl => match us, hl with | [_, _, _, _], _ => rfl⟩
  have F_rest_ways := fun_mk (st := s_rest_ways) lo_rest_ways co_rest_ways ke_rest_ways
  have D_rest_ways : DAt K mg "rest_ways" s_rest_ways P_rest_ways := ⟨_, _, PySem.W.mg_of X G na_rest_ways, F_rest_ways, F_rest_ways.binds (ps := P_rest_ways) fun _ _ _ _ _ _ us hl => match us, hl with | [_, _, _, _], _ => rfl⟩
  have F_results_of := fun_mk (st := s_results_of) lo_results_of co_results_of ke_results_of
  have D_results_of : DAt K mg "results_of" s_results_of P_results_of := ⟨_, _, PySem.W.mg_of X G na_results_of, F_results_of, F_results_of.binds (ps := P_results_of) fun _ _ _ _ _ _ us hl => match us, hl with | [_, _, _, _], _ => rfl⟩
  have F_node_rests := fun_mk (st := s_node_rests) lo_node_rests co_node_rests ke_node_rests
  have D_node_rests : DAt K mg "node_rests" s_node_rests P_node_rests := ⟨_, _, PySem.W.mg_of X G na_node_rests, F_node_rests, F_node_rests.binds (ps := P_node_rests) fun _ _ _ _ _ _ us hl => match us, hl with | [_, _, _], _ => rfl⟩
  have F_node_results := fun_mk (st := s_node_results) lo_node_results co_node_results ke_node_results
  have D_node_results : DAt K mg "node_results" s_node_results P_node_results := ⟨_, _, PySem.W.mg_of X G na_node_results, F_node_results, F_node_results.binds (ps := P_node_results) fun _ _ _ _ _ _ us hl => match us, hl with | [_, _, _, _], _ => rfl⟩
  have F_way_by_least_numbers := fun_mk (st := s_way_by_least_numbers) lo_way_by_least_numbers co_way_by_least_numbers ke_way_by_least_numbers
  have D_way_by_least_numbers : DAt K mg "way_by_least_numbers" s_way_by_least_numbers P_way_by_least_numbers := ⟨_, _, PySem.W.mg_of X G na_way_by_least_numbers, F_way_by_least_numbers, F_way_by_least_numbers.binds (ps := P_way_by_least_numbers) fun _ _ _ _ _ _ us hl => match us, hl with | [_, _, _], _ => rfl⟩
  have F_first_way := fun_mk (st := s_first_way) lo_first_way co_first_way ke_first_way
  have D_first_way : DAt K mg "first_way" s_first_way P_first_way := ⟨_, _, PySem.W.mg_of X G na_first_way, F_first_way, F_first_way.binds (ps := P_first_way) fun _ _ _ _ _ _ us hl => match us, hl with | [_, _, _], _ => rfl⟩
  have F_law_cell := fun_mk (st := s_law_cell) lo_law_cell co_law_cell ke_law_cell
  have D_law_cell : DAt K mg "_law_cell" s_law_cell P_law_cell := ⟨_, _, PySem.W.mg_of X G na_law_cell, F_law_cell, F_law_cell.binds (ps := P_law_cell) fun _ _ _ _ _ _ us hl => match us, hl with | [_, _], _ => rfl⟩
  have F_law_draws := fun_mk (st := s_law_draws) lo_law_draws co_law_draws ke_law_draws
  have D_law_draws : DAt K mg "_law_draws" s_law_draws P_law_draws := ⟨_, _, PySem.W.mg_of X G na_law_draws, F_law_draws, F_law_draws.binds (ps := P_law_draws) fun _ _ _ _ _ _ us hl => match us, hl with | [_, _], _ => rfl⟩
  have F_law_rule := fun_mk (st := s_law_rule) lo_law_rule co_law_rule ke_law_rule
  have D_law_rule : DAt K mg "_law_rule" s_law_rule P_law_rule := ⟨_, _, PySem.W.mg_of X G na_law_rule, F_law_rule, F_law_rule.binds (ps := P_law_rule) fun _ _ _ _ _ _ us hl => match us, hl with | [_, _, _], _ => rfl⟩
  have F_law_same := fun_mk (st := s_law_same) lo_law_same co_law_same ke_law_same
  have D_law_same : DAt K mg "_law_same" s_law_same P_law_same := ⟨_, _, PySem.W.mg_of X G na_law_same, F_law_same, F_law_same.binds (ps := P_law_same) fun _ _ _ _ _ _ us hl => match us, hl with | [_, _], _ => rfl⟩
  have F_law_ending_book := fun_mk (st := s_law_ending_book) lo_law_ending_book co_law_ending_book ke_law_ending_book
  have D_law_ending_book : DAt K mg "_law_ending_book" s_law_ending_book P_law_ending_book := ⟨_, _, PySem.W.mg_of X G na_law_ending_book, F_law_ending_book, F_law_ending_book.binds (ps := P_law_ending_book) fun _ _ _ _ _ _ us hl => match us, hl with | [_], _ => rfl⟩
  have F_law_whole_way := fun_mk (st := s_law_whole_way) lo_law_whole_way co_law_whole_way ke_law_whole_way
  have D_law_whole_way : DAt K mg "_law_whole_way" s_law_whole_way P_law_whole_way := ⟨_, _, PySem.W.mg_of X G na_law_whole_way, F_law_whole_way, F_law_whole_way.binds (ps := P_law_whole_way) fun _ _ _ _ _ _ us hl => match us, hl with | [_, _, _, _], _ => rfl⟩
  have F_law_found_ways := fun_mk (st := s_law_found_ways) lo_law_found_ways co_law_found_ways ke_law_found_ways
  have D_law_found_ways : DAt K mg "_law_found_ways" s_law_found_ways P_law_found_ways := ⟨_, _, PySem.W.mg_of X G na_law_found_ways, F_law_found_ways, F_law_found_ways.binds (ps := P_law_found_ways) fun _ _ _ _ _ _ us hl => match us, hl with | [_, _, _, _], _ => rfl⟩
  have F_law_right := fun_mk (st := s_law_right) lo_law_right co_law_right ke_law_right
  have D_law_right : DAt K mg "_law_right" s_law_right P_law_right := ⟨_, _, PySem.W.mg_of X G na_law_right, F_law_right, F_law_right.binds (ps := P_law_right) fun _ _ _ _ _ _ us hl => match us, hl with | [_, _, _, _], _ => rfl⟩
  have F_law := fun_mk (st := s_law) lo_law co_law ke_law
  have D_law : DAt K mg "law" s_law P_law := ⟨_, _, PySem.W.mg_of X G na_law, F_law, F_law.binds (ps := P_law) fun _ _ _ _ _ _ us hl => match us, hl with | [_], _ => rfl⟩
  refine ⟨PySem.W.fnOf "law" "law" (defArgs s_law) (defBody s_law) (defScope s_law) .none kV_law dc_law pm_law an_law cd_law ct_law, fun s v => .of_eq rfl, fun base _ _ => ⟨ecL [("BadBook", ca_BadBook), ("BadState", ca_BadState), ("NoEnd", ca_NoEnd), ("BadWay", ca_BadWay)], ?_⟩⟩
  have Z : Er l.prog w K mg base (ecL [("BadBook", ca_BadBook), ("BadState", ca_BadState), ("NoEnd", ca_NoEnd), ("BadWay", ca_BadWay)]) := ⟨PySem.W.mg_of X G ga_BadBook, PySem.W.mg_of X G ga_BadState, PySem.W.mg_of X G ga_NoEnd, PySem.W.mg_of X G ga_BadWay, er_BadBook, er_BadState, er_NoEnd, ⟨PySem.W.mg_of X G ga_BadWay, oexF_ok oe_BadWay, no_BadWay, _, _, ii_BadWay, ti_BadWay, in_BadWay (fun_mk (st := s_BadWay) li_BadWay di_BadWay ki_BadWay) (PySem.W.mg_of X G ga_RestError) sg_RestError rd_RestError fc_RestError, (fun_mk (st := s_BadWay) li_BadWay di_BadWay ki_BadWay).binds (ps := N_BadWay) fun _ _ _ _ _ _ us hl => match us, hl with | [_, _], _ => rfl⟩, tabT_nil⟩
  have G_is_integer : DOk l.prog w K mg base (ecL [("BadBook", ca_BadBook), ("BadState", ca_BadState), ("NoEnd", ca_NoEnd), ("BadWay", ca_BadWay)]) "is_integer" P_is_integer 1 1 f_is_integer := ok_is_integer T C Z D_is_integer
  have G_is_integer_from : DOk l.prog w K mg base (ecL [("BadBook", ca_BadBook), ("BadState", ca_BadState), ("NoEnd", ca_NoEnd), ("BadWay", ca_BadWay)]) "is_integer_from" P_is_integer_from 2 3 f_is_integer_from := ok_is_integer_from T C Z D_is_integer_from G_is_integer
  have G_is_number_below : DOk l.prog w K mg base (ecL [("BadBook", ca_BadBook), ("BadState", ca_BadState), ("NoEnd", ca_NoEnd), ("BadWay", ca_BadWay)]) "is_number_below" P_is_number_below 3 2 f_is_number_below := ok_is_number_below T C Z D_is_number_below G_is_integer_from
  have G_is_tuple_of : DOk l.prog w K mg base (ecL [("BadBook", ca_BadBook), ("BadState", ca_BadState), ("NoEnd", ca_NoEnd), ("BadWay", ca_BadWay)]) "is_tuple_of" P_is_tuple_of 1 2 f_is_tuple_of := ok_is_tuple_of T C Z D_is_tuple_of
  have G_are_numbers_below : DOk l.prog w K mg base (ecL [("BadBook", ca_BadBook), ("BadState", ca_BadState), ("NoEnd", ca_NoEnd), ("BadWay", ca_BadWay)]) "are_numbers_below" P_are_numbers_below 4 2 f_are_numbers_below := ok_are_numbers_below T C Z D_are_numbers_below G_is_number_below
  have G_is_rule : DOk l.prog w K mg base (ecL [("BadBook", ca_BadBook), ("BadState", ca_BadState), ("NoEnd", ca_NoEnd), ("BadWay", ca_BadWay)]) "is_rule" P_is_rule 5 2 f_is_rule := ok_is_rule T C Z D_is_rule G_is_tuple_of G_are_numbers_below
  have G_is_book : DOk l.prog w K mg base (ecL [("BadBook", ca_BadBook), ("BadState", ca_BadState), ("NoEnd", ca_NoEnd), ("BadWay", ca_BadWay)]) "is_book" P_is_book 6 1 f_is_book := ok_is_book T C Z D_is_book G_is_tuple_of G_is_integer_from G_is_rule
  have G_check_book : DOk l.prog w K mg base (ecL [("BadBook", ca_BadBook), ("BadState", ca_BadState), ("NoEnd", ca_NoEnd), ("BadWay", ca_BadWay)]) "check_book" P_check_book 7 1 f_check_book := ok_check_book T C Z D_check_book G_is_book
  have G_check_state : DOk l.prog w K mg base (ecL [("BadBook", ca_BadBook), ("BadState", ca_BadState), ("NoEnd", ca_NoEnd), ("BadWay", ca_BadWay)]) "check_state" P_check_state 4 2 f_check_state := ok_check_state T C Z D_check_state G_is_number_below
  have G_fitting_rules : DOk l.prog w K mg base (ecL [("BadBook", ca_BadBook), ("BadState", ca_BadState), ("NoEnd", ca_NoEnd), ("BadWay", ca_BadWay)]) "fitting_rules" P_fitting_rules 1 3 f_fitting_rules := ok_fitting_rules T C Z D_fitting_rules
  have G_rules_for : DOk l.prog w K mg base (ecL [("BadBook", ca_BadBook), ("BadState", ca_BadState), ("NoEnd", ca_NoEnd), ("BadWay", ca_BadWay)]) "rules_for" P_rules_for 8 3 f_rules_for := ok_rules_for T C Z D_rules_for G_check_book G_check_state G_fitting_rules
  have G_ranks_under : DOk l.prog w K mg base (ecL [("BadBook", ca_BadBook), ("BadState", ca_BadState), ("NoEnd", ca_NoEnd), ("BadWay", ca_BadWay)]) "ranks_under" P_ranks_under 1 2 f_ranks_under := ok_ranks_under T C Z D_ranks_under
  have G_has_ring_in : DOk l.prog w K mg base (ecL [("BadBook", ca_BadBook), ("BadState", ca_BadState), ("NoEnd", ca_NoEnd), ("BadWay", ca_BadWay)]) "has_ring_in" P_has_ring_in 1 1 f_has_ring_in := ok_has_ring_in T C Z D_has_ring_in
  have G_has_ring : DOk l.prog w K mg base (ecL [("BadBook", ca_BadBook), ("BadState", ca_BadState), ("NoEnd", ca_NoEnd), ("BadWay", ca_BadWay)]) "has_ring" P_has_ring 2 1 f_has_ring := ok_has_ring T C Z D_has_ring G_ranks_under G_has_ring_in
  have G_check_ends : DOk l.prog w K mg base (ecL [("BadBook", ca_BadBook), ("BadState", ca_BadState), ("NoEnd", ca_NoEnd), ("BadWay", ca_BadWay)]) "check_ends" P_check_ends 3 1 f_check_ends := ok_check_ends T C Z D_check_ends G_has_ring
  have G_check_states : DOk l.prog w K mg base (ecL [("BadBook", ca_BadBook), ("BadState", ca_BadState), ("NoEnd", ca_NoEnd), ("BadWay", ca_BadWay)]) "check_states" P_check_states 8 2 f_check_states := ok_check_states T C Z D_check_states G_check_book G_check_state
  have G_signal_of : DOk l.prog w K mg base (ecL [("BadBook", ca_BadBook), ("BadState", ca_BadState), ("NoEnd", ca_NoEnd), ("BadWay", ca_BadWay)]) "signal_of" P_signal_of 1 2 f_signal_of := ok_signal_of T C Z D_signal_of
  have G_way_result : DOk l.prog w K mg base (ecL [("BadBook", ca_BadBook), ("BadState", ca_BadState), ("NoEnd", ca_NoEnd), ("BadWay", ca_BadWay)]) "way_result" P_way_result 9 4 f_way_result := ok_way_result T C Z D_way_result G_check_states G_fitting_rules G_is_number_below G_signal_of
  have G_rest_ways : DOk l.prog w K mg base (ecL [("BadBook", ca_BadBook), ("BadState", ca_BadState), ("NoEnd", ca_NoEnd), ("BadWay", ca_BadWay)]) "rest_ways" P_rest_ways 2 4 f_rest_ways := ok_rest_ways T C Z D_rest_ways G_fitting_rules
  have G_results_of : DOk l.prog w K mg base (ecL [("BadBook", ca_BadBook), ("BadState", ca_BadState), ("NoEnd", ca_NoEnd), ("BadWay", ca_BadWay)]) "results_of" P_results_of 3 4 f_results_of := ok_results_of T C Z D_results_of G_rest_ways
  have G_node_rests : DOk l.prog w K mg base (ecL [("BadBook", ca_BadBook), ("BadState", ca_BadState), ("NoEnd", ca_NoEnd), ("BadWay", ca_BadWay)]) "node_rests" P_node_rests 9 3 f_node_rests := ok_node_rests T C Z D_node_rests G_check_states G_check_ends G_results_of
  have G_node_results : DOk l.prog w K mg base (ecL [("BadBook", ca_BadBook), ("BadState", ca_BadState), ("NoEnd", ca_NoEnd), ("BadWay", ca_BadWay)]) "node_results" P_node_results 9 4 f_node_results := ok_node_results T C Z D_node_results G_check_states G_check_ends G_results_of
  have G_way_by_least_numbers : DOk l.prog w K mg base (ecL [("BadBook", ca_BadBook), ("BadState", ca_BadState), ("NoEnd", ca_NoEnd), ("BadWay", ca_BadWay)]) "way_by_least_numbers" P_way_by_least_numbers 2 3 f_way_by_least_numbers := ok_way_by_least_numbers T C Z D_way_by_least_numbers G_fitting_rules
  have G_first_way : DOk l.prog w K mg base (ecL [("BadBook", ca_BadBook), ("BadState", ca_BadState), ("NoEnd", ca_NoEnd), ("BadWay", ca_BadWay)]) "first_way" P_first_way 9 3 f_first_way := ok_first_way T C Z D_first_way G_check_states G_check_ends G_way_by_least_numbers
  have G_law_cell : DOk l.prog w K mg base (ecL [("BadBook", ca_BadBook), ("BadState", ca_BadState), ("NoEnd", ca_NoEnd), ("BadWay", ca_BadWay)]) "_law_cell" P_law_cell 1 2 f_law_cell := ok_law_cell T C Z D_law_cell
  have G_law_draws : DOk l.prog w K mg base (ecL [("BadBook", ca_BadBook), ("BadState", ca_BadState), ("NoEnd", ca_NoEnd), ("BadWay", ca_BadWay)]) "_law_draws" P_law_draws 1 2 f_law_draws := ok_law_draws T C Z D_law_draws
  have G_law_rule : DOk l.prog w K mg base (ecL [("BadBook", ca_BadBook), ("BadState", ca_BadState), ("NoEnd", ca_NoEnd), ("BadWay", ca_BadWay)]) "_law_rule" P_law_rule 1 3 f_law_rule := ok_law_rule T C Z D_law_rule
  have G_law_same : DOk l.prog w K mg base (ecL [("BadBook", ca_BadBook), ("BadState", ca_BadState), ("NoEnd", ca_NoEnd), ("BadWay", ca_BadWay)]) "_law_same" P_law_same 12 2 f_law_same := ok_law_same T C Z D_law_same 12
  have G_law_ending_book : DOk l.prog w K mg base (ecL [("BadBook", ca_BadBook), ("BadState", ca_BadState), ("NoEnd", ca_NoEnd), ("BadWay", ca_BadWay)]) "_law_ending_book" P_law_ending_book 2 1 f_law_ending_book := ok_law_ending_book T C Z D_law_ending_book G_law_rule
  have G_law_whole_way : DOk l.prog w K mg base (ecL [("BadBook", ca_BadBook), ("BadState", ca_BadState), ("NoEnd", ca_NoEnd), ("BadWay", ca_BadWay)]) "_law_whole_way" P_law_whole_way 1 4 f_law_whole_way := ok_law_whole_way T C Z D_law_whole_way
  have G_law_found_ways : DOk l.prog w K mg base (ecL [("BadBook", ca_BadBook), ("BadState", ca_BadState), ("NoEnd", ca_NoEnd), ("BadWay", ca_BadWay)]) "_law_found_ways" P_law_found_ways 1 4 f_law_found_ways := ok_law_found_ways T C Z D_law_found_ways
  have G_law_right : DOk l.prog w K mg base (ecL [("BadBook", ca_BadBook), ("BadState", ca_BadState), ("NoEnd", ca_NoEnd), ("BadWay", ca_BadWay)]) "_law_right" P_law_right 13 4 f_law_right := ok_law_right T C Z D_law_right G_node_rests G_node_results G_law_found_ways G_way_result G_rules_for G_law_same G_first_way
  have G_law : DOk l.prog w K mg base (ecL [("BadBook", ca_BadBook), ("BadState", ca_BadState), ("NoEnd", ca_NoEnd), ("BadWay", ca_BadWay)]) "law" P_law 14 1 f_law := ok_law T C Z D_law G_law_cell G_law_draws G_law_ending_book G_law_whole_way G_law_right
  exact law_same G_law lo_law (PySem.W.mg_of X G na_law)
end K24
open PySem PySem.W PyProof.Rows
set_option maxHeartbeats 0 in
theorem PySem.Challenge.cw_onerest_k24_whole_results_by_every_way_holds : PySem.Challenge.rw_onerest_k24_whole_results_by_every_way.Holds := by
  w_on; o_law; k_head; (case hw => w_witness2)
  k_fill
  refine DL.law_walk (l := PySem.Challenge.rw_onerest_k24_whole_results_by_every_way) (n := 63) (k := 14) (x := "script") (g := K24.f_law) rfl (by decide) rfl ⟨rfl, by decide, by decide⟩ K24.law_true (fun w h Y => PySem.W.kIn_of Y) ?F
  case F =>
    intro w mg fa h KX G hmg
    refine' K24.all_mk KX G hmg ?na_is_integer ?lo_is_integer ?co_is_integer ?ke_is_integer ?na_is_integer_from ?lo_is_integer_from ?co_is_integer_from ?ke_is_integer_from ?na_is_number_below ?lo_is_number_below ?co_is_number_below ?ke_is_number_below ?na_is_tuple_of ?lo_is_tuple_of ?co_is_tuple_of ?ke_is_tuple_of ?na_are_numbers_below ?lo_are_numbers_below ?co_are_numbers_below ?ke_are_numbers_below ?na_is_rule ?lo_is_rule ?co_is_rule ?ke_is_rule ?na_is_book ?lo_is_book ?co_is_book ?ke_is_book ?na_check_book ?lo_check_book ?co_check_book ?ke_check_book ?na_check_state ?lo_check_state ?co_check_state ?ke_check_state ?na_fitting_rules ?lo_fitting_rules ?co_fitting_rules ?ke_fitting_rules ?na_rules_for ?lo_rules_for ?co_rules_for ?ke_rules_for ?na_ranks_under ?lo_ranks_under ?co_ranks_under ?ke_ranks_under ?na_has_ring_in ?lo_has_ring_in ?co_has_ring_in ?ke_has_ring_in ?na_has_ring ?lo_has_ring ?co_has_ring ?ke_has_ring ?na_check_ends ?lo_check_ends ?co_check_ends ?ke_check_ends ?na_check_states ?lo_check_states ?co_check_states ?ke_check_states ?na_signal_of ?lo_signal_of ?co_signal_of ?ke_signal_of ?na_way_result ?lo_way_result ?co_way_result ?ke_way_result ?na_rest_ways ?lo_rest_ways ?co_rest_ways ?ke_rest_ways ?na_results_of ?lo_results_of ?co_results_of ?ke_results_of ?na_node_rests ?lo_node_rests ?co_node_rests ?ke_node_rests ?na_node_results ?lo_node_results ?co_node_results ?ke_node_results ?na_way_by_least_numbers ?lo_way_by_least_numbers ?co_way_by_least_numbers ?ke_way_by_least_numbers ?na_first_way ?lo_first_way ?co_first_way ?ke_first_way ?na_law_cell ?lo_law_cell ?co_law_cell ?ke_law_cell ?na_law_draws ?lo_law_draws ?co_law_draws ?ke_law_draws ?na_law_rule ?lo_law_rule ?co_law_rule ?ke_law_rule ?na_law_same ?lo_law_same ?co_law_same ?ke_law_same ?na_law_ending_book ?lo_law_ending_book ?co_law_ending_book ?ke_law_ending_book ?na_law_whole_way ?lo_law_whole_way ?co_law_whole_way ?ke_law_whole_way ?na_law_found_ways ?lo_law_found_ways ?co_law_found_ways ?ke_law_found_ways ?na_law_right ?lo_law_right ?co_law_right ?ke_law_right ?na_law ?lo_law ?co_law ?ke_law ?gc_MOST_STATES ?gc_MOST_RULES ?ga_BadBook ?ga_BadState ?ga_NoEnd ?ga_BadWay ?er_BadBook ?er_BadState ?er_NoEnd ?ga_RestError ?sg_RestError ?rd_RestError ?fc_RestError ?oe_BadWay ?ii_BadWay ?ti_BadWay ?li_BadWay ?di_BadWay ?ki_BadWay ?no_BadWay ?z_len ?z_range ?z_isinstance ?z_int ?z_bool ?z_str ?z_list ?z_tuple ?z_dict ?z_set ?z_min ?z_max ?z_sum ?z_all ?z_any ?z_sorted ?z_enumerate ?z_zip
    (case na_is_integer => k_is)
    (case lo_is_integer => k_is)
    (case co_is_integer => k_is)
    (case ke_is_integer => k_is)
    (case na_is_integer_from => k_is)
    (case lo_is_integer_from => k_is)
    (case co_is_integer_from => k_is)
    (case ke_is_integer_from => k_is)
    (case na_is_number_below => k_is)
    (case lo_is_number_below => k_is)
    (case co_is_number_below => k_is)
    (case ke_is_number_below => k_is)
    (case na_is_tuple_of => k_is)
    (case lo_is_tuple_of => k_is)
    (case co_is_tuple_of => k_is)
    (case ke_is_tuple_of => k_is)
    (case na_are_numbers_below => k_is)
    (case lo_are_numbers_below => k_is)
    (case co_are_numbers_below => k_is)
    (case ke_are_numbers_below => k_is)
    (case na_is_rule => k_is)
    (case lo_is_rule => k_is)
    (case co_is_rule => k_is)
    (case ke_is_rule => k_is)
    (case na_is_book => k_is)
    (case lo_is_book => k_is)
    (case co_is_book => k_is)
    (case ke_is_book => k_is)
    (case na_check_book => k_is)
    (case lo_check_book => k_is)
    (case co_check_book => k_is)
    (case ke_check_book => k_is)
    (case na_check_state => k_is)
    (case lo_check_state => k_is)
    (case co_check_state => k_is)
    (case ke_check_state => k_is)
    (case na_fitting_rules => k_is)
    (case lo_fitting_rules => k_is)
    (case co_fitting_rules => k_is)
    (case ke_fitting_rules => k_is)
    (case na_rules_for => k_is)
    (case lo_rules_for => k_is)
    (case co_rules_for => k_is)
    (case ke_rules_for => k_is)
    (case na_ranks_under => k_is)
    (case lo_ranks_under => k_is)
    (case co_ranks_under => k_is)
    (case ke_ranks_under => k_is)
    (case na_has_ring_in => k_is)
    (case lo_has_ring_in => k_is)
    (case co_has_ring_in => k_is)
    (case ke_has_ring_in => k_is)
    (case na_has_ring => k_is)
    (case lo_has_ring => k_is)
    (case co_has_ring => k_is)
    (case ke_has_ring => k_is)
    (case na_check_ends => k_is)
    (case lo_check_ends => k_is)
    (case co_check_ends => k_is)
    (case ke_check_ends => k_is)
    (case na_check_states => k_is)
    (case lo_check_states => k_is)
    (case co_check_states => k_is)
    (case ke_check_states => k_is)
    (case na_signal_of => k_is)
    (case lo_signal_of => k_is)
    (case co_signal_of => k_is)
    (case ke_signal_of => k_is)
    (case na_way_result => k_is)
    (case lo_way_result => k_is)
    (case co_way_result => k_is)
    (case ke_way_result => k_is)
    (case na_rest_ways => k_is)
    (case lo_rest_ways => k_is)
    (case co_rest_ways => k_is)
    (case ke_rest_ways => k_is)
    (case na_results_of => k_is)
    (case lo_results_of => k_is)
    (case co_results_of => k_is)
    (case ke_results_of => k_is)
    (case na_node_rests => k_is)
    (case lo_node_rests => k_is)
    (case co_node_rests => k_is)
    (case ke_node_rests => k_is)
    (case na_node_results => k_is)
    (case lo_node_results => k_is)
    (case co_node_results => k_is)
    (case ke_node_results => k_is)
    (case na_way_by_least_numbers => k_is)
    (case lo_way_by_least_numbers => k_is)
    (case co_way_by_least_numbers => k_is)
    (case ke_way_by_least_numbers => k_is)
    (case na_first_way => k_is)
    (case lo_first_way => k_is)
    (case co_first_way => k_is)
    (case ke_first_way => k_is)
    (case na_law_cell => k_is)
    (case lo_law_cell => k_is)
    (case co_law_cell => k_is)
    (case ke_law_cell => k_is)
    (case na_law_draws => k_is)
    (case lo_law_draws => k_is)
    (case co_law_draws => k_is)
    (case ke_law_draws => k_is)
    (case na_law_rule => k_is)
    (case lo_law_rule => k_is)
    (case co_law_rule => k_is)
    (case ke_law_rule => k_is)
    (case na_law_same => k_is)
    (case lo_law_same => k_is)
    (case co_law_same => k_is)
    (case ke_law_same => k_is)
    (case na_law_ending_book => k_is)
    (case lo_law_ending_book => k_is)
    (case co_law_ending_book => k_is)
    (case ke_law_ending_book => k_is)
    (case na_law_whole_way => k_is)
    (case lo_law_whole_way => k_is)
    (case co_law_whole_way => k_is)
    (case ke_law_whole_way => k_is)
    (case na_law_found_ways => k_is)
    (case lo_law_found_ways => k_is)
    (case co_law_found_ways => k_is)
    (case ke_law_found_ways => k_is)
    (case na_law_right => k_is)
    (case lo_law_right => k_is)
    (case co_law_right => k_is)
    (case ke_law_right => k_is)
    (case na_law => k_is)
    (case lo_law => k_is)
    (case co_law => k_is)
    (case ke_law => k_is)
    (case gc_MOST_STATES => k_is)
    (case gc_MOST_RULES => k_is)
    (case ga_BadBook => k_is)
    (case ga_BadState => k_is)
    (case ga_NoEnd => k_is)
    (case ga_BadWay => k_is)
    (case er_BadBook => kernel_rfl)
    (case er_BadState => kernel_rfl)
    (case er_NoEnd => kernel_rfl)
    (case ga_RestError => k_is)
    (case sg_RestError => k_is)
    (case rd_RestError => k_is)
    (case fc_RestError => k_is)
    (case oe_BadWay => kernel_rfl)
    (case ii_BadWay => k_is)
    (case ti_BadWay => k_is)
    (case li_BadWay => k_is)
    (case di_BadWay => k_is)
    (case ki_BadWay => k_is)
    (case no_BadWay => k_is)
    (case z_len => k_is)
    (case z_range => k_is)
    (case z_isinstance => k_is)
    (case z_int => k_is)
    (case z_bool => k_is)
    (case z_str => k_is)
    (case z_list => k_is)
    (case z_tuple => k_is)
    (case z_dict => k_is)
    (case z_set => k_is)
    (case z_min => k_is)
    (case z_max => k_is)
    (case z_sum => k_is)
    (case z_all => k_is)
    (case z_any => k_is)
    (case z_sorted => k_is)
    (case z_enumerate => k_is)
    (case z_zip => k_is)
