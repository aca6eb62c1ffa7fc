import PyProof.Rows.All
import PyProof.EqLayable
import Wide.All
import OpenK.AllK
import Wide.FinOn
import HandS.ForMost
import HandS.ForExc
import HandS.Walk
import HandS.IsInst
import HandS.Deep
import HandS.TupAny
import HandS.Style
import HandS.Zip
import HandS.TryMany
import HandS.CallSlots
import HandS.Wide
import HandS.Small
import HandS.TupSets
import HandS.Conv
import HandS.TupMul
import HandS.ExcOwn
import KE.GoesMore
import KE.DataMinMax
import HandS.SortKw
import HandS.SortInts
import HandS.ExcInit
import HandS.FStr
import HandS.ExcField
import HandS.ExcIs
import HandS.ExcValue
import HandS.DictComp
import PyProof.Rows.TupDisplay
import HandS.SetFor
import HandS.Strs
import HandS.Star
import PyProof.Rows.SetFrom
import PySem.Challenge.RW_onerest_k38_objects_that_are_no_books
set_option Elab.async false
set_option linter.all false
set_option maxRecDepth 100000
/-! Data over Python's values, without a heap: what an expression gives, what a block does. -/
namespace DL
open PySem

abbrev D := PyData
structure Err where
  cls : String
  fld : Option (Str × D)
abbrev R (α : Type) := Option (Except Err α)
def ok {α : Type} (a : α) : R α := some (.ok a)
def er {α : Type} (e : Err) : R α := some (.error e)
def rb {α β : Type} (x : R α) (f : α → R β) : R β := match x with
  | none => none
  | some (.error e) => some (.error e)
  | some (.ok a) => f a
theorem rb_ok {α β : Type} (a : α) (f : α → R β) : rb (ok a) f = f a := (rfl)
theorem rb_none {α β : Type} (f : α → R β) : rb none f = none := (rfl)
theorem rb_er {α β : Type} (e : Err) (f : α → R β) : rb (er e) f = er e := (rfl)
theorem rb_eq_ok {α β : Type} {x : R α} {f : α → R β} {b : β} (h : rb x f = ok b) : ∃ a, x = ok a ∧ f a = ok b := by
  unfold rb at h
  split at h
  · cases h
  · cases h
  · exact ⟨_, rfl, h⟩

inductive Slot where
  | un | d (x : D) | own (xs : List D) | tg (xs : List D) | nest (xss : List (List D)) | dct (kvs : List (List Int × D)) | io (a : Addr) (xs : List D) | ex (c : String) (f : Option (Str × D)) | rg (n : Nat)
abbrev Env := List Slot
abbrev EX := Env → R D
abbrev EL := Env → R (List D)
abbrev EB := Env → R Bool
inductive Out where
  | nx (r : Env) | rt (x : D) | bk (r : Env) | ct (r : Env) | er (e : Err) (r : Env) | ro (i : Nat) (r : Env) | ri (x : D) (r : Env) | rl (xs : List D)
abbrev SX := Env → Option Out

/-! ### expressions -/
def vVar (i : Nat) : EX := fun r => match r[i]? with
  | some (.d x) => ok x
  | some (.tg xs) => ok (.list xs)
  | _ => none
/-- a name that is only read: an own list too -/
def vRd (i : Nat) : EX := fun r => match r[i]? with
  | some (.d x) => ok x
  | some (.own xs) => ok (.list xs)
  | some (.tg xs) => ok (.list xs)
  | some (.io _ xs) => ok (.list xs)
  | _ => none
def vC (x : D) : EX := fun _ => ok x
def po {α : Type} : Option α → R α
  | none => none
  | some a => ok a
def v1 (f : D → Option D) (a : EX) : EX := fun r => rb (a r) fun x => po (f x)
def v2 (f : D → D → Option D) (a b : EX) : EX := fun r => rb (a r) fun x => rb (b r) fun y => po (f x y)
def c1 (f : D → Option Bool) (a : EX) : EB := fun r => rb (a r) fun x => po (f x)
def c2 (f : D → D → Option Bool) (a b : EX) : EB := fun r => rb (a r) fun x => rb (b r) fun y => po (f x y)
def l1 (f : D → Option (List D)) (a : EX) : EL := fun r => rb (a r) fun x => po (f x)
def l2 (f : D → D → Option (List D)) (a b : EX) : EL := fun r => rb (a r) fun x => rb (b r) fun y => po (f x y)
/-- a new list that is kept as it is -/
def vL (a : EL) : EX := fun r => rb (a r) fun xs => ok (.list xs)
def vB (a : EB) : EX := fun r => rb (a r) fun b => ok (.bool b)
def vArgs : List EX → Env → R (List D)
  | [], _ => ok []
  | a :: as, r => rb (a r) fun x => rb (vArgs as r) fun xs => ok (x :: xs)
def vTup (as : List EX) : EX := fun r => rb (vArgs as r) fun xs => ok (.tuple xs)
def vCall (f : List D → R D) (as : List EX) : EX := fun r => rb (vArgs as r) f
def vIf (c : EB) (a b : EX) : EX := fun r => rb (c r) fun k => if k = true then a r else b r
/-! tests -/
def dTr : D → Option Bool
  | .bool b => some b
  | _ => none
def bTr (a : EX) : EB := c1 dTr a
def bNot (a : EB) : EB := fun r => rb (a r) fun b => ok (!b)
def bAnd (a b : EB) : EB := fun r => rb (a r) fun k => if k = true then b r else ok false
def bOr (a b : EB) : EB := fun r => rb (a r) fun k => if k = true then ok true else b r

/-! ### operations on data -/
def lim : Nat := 16777216
def asList (n : Nat) (x : D) : Option D := if n ≤ lim then some x else none
def dAdd : D → D → Option D
  | .int i, .int j => some (.int (i + j))
  | .bool b, .int j => some (.int ((if b then 1 else 0) + j))
  | .tuple xs, .tuple ys => asList (xs ++ ys).length (.tuple (xs ++ ys))
  | .list xs, .list ys => asList (xs ++ ys).length (.list (xs ++ ys))
  | _, _ => none
/-- a tuple so many times -/
def dRepT : D → D → Option D
  | .tuple xs, .int k => if xs.isEmpty = false ∧ 1 ≤ k ∧ k ≤ 1000 ∧ xs.length ≤ 1000 then some (.tuple (List.replicate k.toNat xs).flatten) else none
  | _, _ => none
def dSub : D → D → Option D
  | .int i, .int j => some (.int (i - j))
  | .bool b, .int j => some (.int ((if b then 1 else 0) - j))
  | _, _ => none
def small64 (i : Int) : Bool := decide (-(2 ^ 64) < i) && decide (i < 2 ^ 64)
def dMul : D → D → Option D
  | .int i, .int j => if (small64 i || small64 j) = true then some (.int (i * j)) else if i.natAbs < 2 ^ 256 ∧ j.natAbs < 2 ^ 256 then some (.int (i * j)) else none
  | _, _ => none
def dMod : D → D → Option D
  | .int i, .int j => if 0 < j then some (.int (i % j)) else none
  | _, _ => none
def dDiv : D → D → Option D
  | .int i, .int j => if 0 < j ∧ j < 1073741824 then some (.int (i / j)) else none
  | _, _ => none
def dPow : D → D → Option D
  | .int i, .int j => if 0 ≤ j ∧ j ≤ 100000 ∧ i.natAbs < 2 ^ 64 then some (.int (i ^ j.toNat)) else none
  | _, _ => none
def dNeg : D → Option D
  | .int i => some (.int (-i))
  | _ => none
def dInt : D → Option D
  | .int i => some (.int i)
  | .bool b => some (.int (if b then 1 else 0))
  | _ => none
def seqOf : D → Option (List D)
  | .list xs => some xs
  | .tuple xs => some xs
  | _ => none
def dLen : D → Option D
  | .list xs => some (.int xs.length)
  | .tuple xs => some (.int xs.length)
  | _ => none
/-- the place that an index means -/
def ixAt (n : Nat) (i : Int) : Option Nat :=
  if 0 ≤ i then (if i < n then some i.toNat else none) else if -(n : Int) ≤ i then some (i + n).toNat else none
def atD (xs : List D) (i : Int) : Option D := match ixAt xs.length i with
  | some k => match xs[k]? with
    | some x => some x
    | none => none
  | none => none
def dIx : D → D → Option D
  | .list xs, .int i => atD xs i
  | .tuple xs, .int i => atD xs i
  | .list xs, .bool b => none
  | _, _ => none
/-- where a slice begins and ends -/
def cutAt (n dflt : Nat) : Option Int → Nat
  | none => dflt
  | some i => if i < 0 then (i + n).toNat else min i.toNat n
def cutD {α : Type} (xs : List α) (lo hi : Option Int) : List α := (xs.drop (cutAt xs.length 0 lo)).take (cutAt xs.length xs.length hi - cutAt xs.length 0 lo)
def vOpt : Option EX → Env → R (Option Int)
  | none, _ => ok none
  | some a, r => rb (a r) fun x => match x with
    | .int i => ok (some i)
    | _ => none
def dCut (lo hi : Option Int) : D → Option D
  | .list xs => some (.list (cutD xs lo hi))
  | .tuple xs => some (.tuple (cutD xs lo hi))
  | _ => none
def vCut (a : EX) (lo hi : Option EX) : EX := fun r => rb (a r) fun x => rb (vOpt lo r) fun i => rb (vOpt hi r) fun j => po (dCut i j x)
def lOf : D → Option (List D)
  | .list xs => some xs
  | .tuple xs => some xs
  | _ => none
def dTup : D → Option D
  | .list xs => some (.tuple xs)
  | .tuple xs => some (.tuple xs)
  | _ => none
def cLt : D → D → Option Bool
  | .int i, .int j => some (decide (i < j))
  | _, _ => none
def cLe : D → D → Option Bool
  | .int i, .int j => some (decide (i ≤ j))
  | _, _ => none
def cGt : D → D → Option Bool
  | .int i, .int j => some (decide (j < i))
  | _, _ => none
def cGe : D → D → Option Bool
  | .int i, .int j => some (decide (j ≤ i))
  | _, _ => none
def eqS (x y : D) : Option Bool := if (SeqAt.shaped x && SeqAt.shaped y) = true then some (PyData.eqv x y) else none
/-- ==: two lists of unlike lengths are told apart whatever is in them -/
def cEq : D → D → Option Bool
  | .list xs, .list ys => if xs.length = ys.length then (if xs.length = 0 then some true else eqS (.list xs) (.list ys)) else some false
  | x, y => eqS x y
def cNe (x y : D) : Option Bool := (cEq x y).map (!·)
def cNotIn (x y : D) : Option Bool := match seqOf y with
  | some ds => if (SeqAt.shaped x && SeqAt.shaped y) = true then some (!ds.any fun z => PyData.eqv z x) else none
  | none => none
def cIsB (b : Bool) : D → Option Bool
  | .bool k => some (decide (k = b))
  | _ => none
def cIsNone : D → Option Bool
  | .none => some true
  | _ => some false
/-- a built-in class by its name -/
def tyName : D → String
  | .none => "NoneType"
  | .bool _ => "bool"
  | .int _ => "int"
  | .str _ => "str"
  | .list _ => "list"
  | .tuple _ => "tuple"
  | .dict _ => "dict"
def isInst (t : String) (x : D) : Bool := tyName x == t || (t == "int" && tyName x == "bool")
def bools : List D → Option (List Bool)
  | [] => some []
  | .bool b :: xs => (bools xs).map (b :: ·)
  | _ :: _ => none
def cAll : D → Option Bool
  | .list xs => match bools xs with
    | some bs => some (bs.all id)
    | none => none
  | _ => none
/-- an int, or a tuple of such, so deep at most -/
def deepI : Nat → D → Bool
  | _, .int _ => true
  | n + 1, .tuple xs => xs.all (deepI n)
  | _, _ => false
/-- how many unlike ones: at most 40 -/
def unlike : List D → List D → List D
  | seen, [] => seen
  | seen, x :: xs => if (seen.any fun z => PyData.eqv z x) = true then unlike seen xs else unlike (seen ++ [x]) xs
def dLenSet (x : D) : Option D := match seqOf x with
  | some ds => if (ds.all (fun d => (match d with | .tuple _ => true | _ => false) && deepI 3 d) && decide (ds.length ≤ 40)) = true then some (.int ((unlike [] ds).length : Nat)) else none
  | none => none

/-- a op1 b op2 c -/
def bChain (f g : D → D → Option Bool) (a b c : EX) : EB := fun r => rb (a r) fun x => rb (b r) fun y => rb (po (f x y)) fun k => if k = true then rb (c r) fun z => po (g y z) else ok false
def cIs (x y : D) : Option Bool := match y with
  | .bool b => cIsB b x
  | .none => cIsNone x
  | _ => none
def cIsi (T : String) (x : D) : Option Bool := some (isInst T x)

/-! ### what is walked -/
def iSeq (a : EX) : EL := fun r => rb (a r) fun x => po (seqOf x)
def rng (lo : Int) (n : Nat) : List D := (List.range n).map fun (k : Nat) => .int (lo + k)
def small62 (i : Int) : Bool := decide (-(2 ^ 62) ≤ i) && decide (i < 2 ^ 62)
def rng1 : D → Option (List D)
  | .int j => if small62 j = true then some (rng 0 j.toNat) else none
  | _ => none
def rng2 : D → D → Option (List D)
  | .int i, .int j => if (small62 i && small62 j) = true then some (rng i (j - i).toNat) else none
  | _, _ => none
def iRange1 (a : EX) : EL := l1 rng1 a
def iRange2 (a b : EX) : EL := l2 rng2 a b
def enumL : Nat → List D → List D
  | _, [] => []
  | k, x :: xs => .tuple [.int k, x] :: enumL (k + 1) xs
def enum1 (x : D) : Option (List D) := (seqOf x).map (enumL 0)
def iEnumE (a : EX) : EL := l1 enum1 a
/-- the targets of a store: one name, or names in a row that a tuple goes to -/
inductive Tg where
  | one (i : Nat) | many (is : List Nat) | nst (gs : List (Nat ⊕ List Nat))
def putMany : List Nat → List D → Env → Option Env
  | [], [], r => some r
  | i :: is, x :: xs, r => putMany is xs (r.set i (.d x))
  | _, _, _ => none
/-- names, and names in a row within a row -/
def putN : List (Nat ⊕ List Nat) → List D → Env → Option Env
  | [], [], r => some r
  | .inl i :: gs, x :: xs, r => putN gs xs (r.set i (.d x))
  | .inr is :: gs, x :: xs, r => match x with
    | .tuple ys => (match putMany is ys r with
      | some r1 => putN gs xs r1
      | none => none)
    | _ => none
  | _, _, _ => none
def slotsN : List (Nat ⊕ List Nat) → List Nat
  | [] => []
  | .inl i :: gs => i :: slotsN gs
  | .inr is :: gs => is ++ slotsN gs
def Tg.put : Tg → D → Env → Option Env
  | .one i, x, r => some (r.set i (.d x))
  | .many is, .tuple xs, r => putMany is xs r
  | .many _, _, _ => none
  | .nst gs, .tuple xs, r => putN gs xs r
  | .nst _, _, _ => none
def Tg.slots : Tg → List Nat
  | .one i => [i]
  | .many is => is
  | .nst gs => slotsN gs
def unSlots : List Nat → Env → Env
  | [], r => r
  | i :: is, r => (unSlots is r).set i .un

/-! ### comprehensions: the list of what is kept -/
def compL (g : Tg) (t : EB) (e : EX) (r : Env) : List D → R (List D)
  | [] => ok []
  | x :: xs => match g.put x r with
    | none => none
    | some r1 => rb (t r1) fun k => if k = true then rb (e r1) fun y => rb (compL g t e r xs) fun ys => ok (y :: ys) else compL g t e r xs
/-- [e for g in it if t]: no error within; at most lim items -/
def noEr {α : Type} (x : R α) : R α := match x with
  | some (.ok a) => ok a
  | _ => none
def lComp (it : EL) (g : Tg) (t : EB) (e : EX) : EL := fun r => rb (it r) fun xs => if xs.length ≤ lim then noEr (compL g t e (unSlots g.slots r) xs) else none
def bYes : EB := fun _ => ok true

/-! ### statements -/
def sNx : SX := fun r => some (.nx r)
def sBk : SX := fun r => some (.bk r)
def sCt : SX := fun r => some (.ct r)
/-- what follows a value -/
def so {α : Type} (x : R α) (r : Env) (f : α → Option Out) : Option Out := match x with
  | none => none
  | some (.error e) => some (.er e r)
  | some (.ok a) => f a
theorem so_ok {α : Type} (a : α) (r : Env) (f : α → Option Out) : so (ok a) r f = f a := (rfl)
theorem so_er {α : Type} (e : Err) (r : Env) (f : α → Option Out) : so (er e) r f = some (.er e r) := (rfl)
theorem so_none {α : Type} (r : Env) (f : α → Option Out) : so none r f = none := (rfl)
def sSeq (a b : SX) : SX := fun r => match a r with
  | some (.nx r1) => b r1
  | o => o
def sSet (i : Nat) (a : EX) : SX := fun r => so (a r) r fun x => some (.nx (r.set i (.d x)))
def sOwn (i : Nat) (a : EL) : SX := fun r => so (a r) r fun xs => some (.nx (r.set i (.own xs)))
def sPut (g : Tg) (a : EX) : SX := fun r => so (a r) r fun x => (g.put x r).map .nx
def frz (i : Nat) (r : Env) : Env := match r[i]? with
  | some (.own xs) => r.set i (.d (.list xs))
  | some (.nest xss) => r.set i (.d (.list (xss.map .list)))
  | some (.dct kvs) => r.set i (.d (.dict (kvs.map fun p => (.tuple (p.1.map PyData.int), p.2))))
  | _ => r
def sFreeze (i : Nat) : SX := fun r => some (.nx (frz i r))
def sRet (a : EX) : SX := fun r => so (a r) r fun x => some (.rt x)
def sExpr (a : EX) : SX := fun r => so (a r) r fun _ => some (.nx r)
def sIf (c : EB) (a b : SX) : SX := fun r => so (c r) r fun k => if k = true then a r else b r
def sApp (i : Nat) (a : EX) : SX := fun r => match r[i]? with
  | some (.own xs) => so (a r) r fun x => if xs.length < lim then some (.nx (r.set i (.own (xs ++ [x])))) else none
  | some (.io b xs) => so (a r) r fun x => if xs.length < lim then some (.nx (r.set i (.io b (xs ++ [x])))) else none
  | _ => none
/-- own[k] = x -/
def sSetIx (i : Nat) (k a : EX) : SX := fun r => match r[i]? with
  | some (.own xs) => so (a r) r fun x => so (k r) r fun j => match j with
    | .int j => match ixAt xs.length j with
      | some n => some (.nx (r.set i (.own (xs.set n x))))
      | none => none
    | _ => none
  | some (.io b xs) => so (a r) r fun x => so (k r) r fun j => match j with
    | .int j => match ixAt xs.length j with
      | some n => some (.nx (r.set i (.io b (xs.set n x))))
      | none => none
    | _ => none
  | _ => none
/-- a, b = x, y -/
def sPar (i j : Nat) (a b : EX) : SX := fun r => so (vArgs [a, b] r) r fun xs => match xs with
  | [x, y] => some (.nx ((r.set i (.d x)).set j (.d y)))
  | _ => none
def loopF (g : Tg) (b : SX) : List D → SX
  | [], r => some (.nx r)
  | x :: xs, r => match g.put x r with
    | none => none
    | some r1 => match b r1 with
      | some (.nx r2) => loopF g b xs r2
      | some (.ct r2) => loopF g b xs r2
      | some (.bk r2) => some (.nx r2)
      | o => o
def sFor (it : EL) (g : Tg) (b : SX) : SX := fun r => so (it r) r fun xs => loopF g b xs r
/-- raise C('..') -/
def sErr (c : String) : SX := fun r => some (.er ⟨c, none⟩ r)
/-- which of the clauses takes e: tab tells of two classes whether the first is one of the second -/
def pickH (tab : List ((String × String) × Bool)) (e : Err) (r : Env) : List (String × SX) → Option Out
  | [] => some (.er e r)
  | (c, b) :: hs => match tab.lookup (e.cls, c) with
    | some true => b r
    | some false => pickH tab e r hs
    | none => none
def sTry (tab : List ((String × String) × Bool)) (a : SX) (hs : List (String × SX)) : SX := fun r => match a r with
  | some (.er e r1) => pickH tab e r1 hs
  | o => o

/-! caught errors -/
/-- the name of an except clause goes -/
def unI (i : Nat) : Option Out → Option Out
  | some (.nx r) => some (.nx (r.set i .un))
  | some (.bk r) => some (.bk (r.set i .un))
  | some (.ct r) => some (.ct (r.set i .un))
  | some (.rt d) => some (.rt d)
  | _ => none
/-- isinstance(e, T), T an own class or ValueError -/
def vIsE (tab : List ((String × String) × Bool)) (i : Nat) (T : String) : EX := fun r => match r[i]? with
  | some (.ex c _) => (match tab.lookup (c, T) with
    | some b => ok (.bool b)
    | none => none)
  | _ => none
/-! ### a def -/
def slots (n : Nat) (ds : List D) : Env := ds.map .d ++ List.replicate (n - ds.length) .un
/-- n names, p of them parameters -/
def runD (n p : Nat) (b : SX) (ds : List D) : R D := if ds.length = p then (match b (slots n ds) with
  | some (.rt x) => ok x
  | some (.nx _) => ok .none
  | some (.er e _) => er e
  | _ => none) else none
/-- no key, or the first key is a tuple -/
def isTK : List (D × D) → Bool
  | (.tuple _, _) :: _ => true
  | [] => true
  | _ => false
/-- a def that gives a list of its own -/
def runO (n p : Nat) (b : SX) (ds : List D) : R (List D) := if ds.length = p then (match b (slots n ds) with
  | some (.ro i r) => (match r[i]? with
    | some (.own xs) => ok xs
    | _ => none)
  | some (.rl xs) => ok xs
  | some (.er e _) => er e
  | _ => none) else none
def lCall (f : List D → R (List D)) (as : List EX) : EL := fun r => rb (vArgs as r) f
/-- a new list is given away -/
def sRetL (a : EL) : SX := fun r => so (a r) r fun xs => some (.rl xs)
/-! ### expressions that change own lists -/
abbrev RS (α : Type) := Option (Except Err α × Env)
abbrev ES (α : Type) := Env → RS α
def sb {α β : Type} (x : RS α) (f : α → Env → RS β) : RS β := match x with
  | none => none
  | some (.error e, r) => some (.error e, r)
  | some (.ok a, r) => f a r
def okS {α : Type} (a : α) (r : Env) : RS α := some (.ok a, r)
theorem sb_ok {α β : Type} (a : α) (r : Env) (f : α → Env → RS β) : sb (okS a r) f = f a r := (rfl)
theorem sb_none {α β : Type} (f : α → Env → RS β) : sb none f = none := (rfl)
theorem sb_eq_ok {α β : Type} {x : RS α} {f : α → Env → RS β} {b : β} {r' : Env} (h : sb x f = some (.ok b, r')) : ∃ a r1, x = some (.ok a, r1) ∧ f a r1 = some (.ok b, r') := by
  unfold sb at h
  split at h
  · cases h
  · cases h
  · exact ⟨_, _, rfl, h⟩
def up {α : Type} (r : Env) (x : R α) : RS α := match x with
  | none => none
  | some (.error e) => some (.error e, r)
  | some (.ok a) => some (.ok a, r)
theorem up_ok {α : Type} (a : α) (r : Env) : up r (ok a) = okS a r := (rfl)
theorem up_none {α : Type} (r : Env) : up (α := α) r none = none := (rfl)
theorem up_po {α : Type} (r : Env) (a : α) : up r (po (some a)) = okS a r := (rfl)
def uX {α : Type} (a : Env → R α) : ES α := fun r => up r (a r)
def w1 (f : D → Option D) (a : ES D) : ES D := fun r => sb (a r) fun x r1 => up r1 (po (f x))
def w2 (f : D → D → Option D) (a b : ES D) : ES D := fun r => sb (a r) fun x r1 => sb (b r1) fun y r2 => up r2 (po (f x y))
def wc2 (f : D → D → Option Bool) (a b : ES D) : ES Bool := fun r => sb (a r) fun x r1 => sb (b r1) fun y r2 => up r2 (po (f x y))
def wl1 (f : D → Option (List D)) (a : ES D) : ES (List D) := fun r => sb (a r) fun x r1 => up r1 (po (f x))
def wl2 (f : D → D → Option (List D)) (a b : ES D) : ES (List D) := fun r => sb (a r) fun x r1 => sb (b r1) fun y r2 => up r2 (po (f x y))
def wL (a : ES (List D)) : ES D := fun r => sb (a r) fun xs r1 => okS (.list xs) r1
def wB (a : ES Bool) : ES D := fun r => sb (a r) fun b r1 => okS (.bool b) r1
def wTr (a : ES D) : ES Bool := fun r => sb (a r) fun x r1 => up r1 (po (dTr x))
def wNot (a : ES Bool) : ES Bool := fun r => sb (a r) fun b r1 => okS (!b) r1
def wAnd (a b : ES Bool) : ES Bool := fun r => sb (a r) fun k r1 => if k = true then b r1 else okS false r1
def wOr (a b : ES Bool) : ES Bool := fun r => sb (a r) fun k r1 => if k = true then okS true r1 else b r1
def wIf (c : ES Bool) (a b : ES D) : ES D := fun r => sb (c r) fun k r1 => if k = true then a r1 else b r1
def wArgs : List (ES D) → ES (List D)
  | [], r => okS [] r
  | a :: as, r => sb (a r) fun x r1 => sb (wArgs as r1) fun xs r2 => okS (x :: xs) r2
def wTup (as : List (ES D)) : ES D := fun r => sb (wArgs as r) fun xs r1 => okS (.tuple xs) r1
def wCall (f : List D → R D) (as : List (ES D)) : ES D := fun r => sb (wArgs as r) fun xs r1 => up r1 (f xs)
/-! comprehensions -/
def compLS (g : Tg) (t : EB) (e : ES D) : List D → ES (List D)
  | [], r => okS [] r
  | x :: xs, r => match g.put x r with
    | none => none
    | some r1 => sb (up r1 (t r1)) fun k r1 => if k = true then sb (e r1) fun y r2 => sb (compLS g t e xs (unSlots g.slots r2)) fun ys r3 => okS (y :: ys) r3 else compLS g t e xs (unSlots g.slots r1)
def noErS {α : Type} (x : RS α) : RS α := match x with
  | some (.ok a, r) => okS a r
  | _ => none
/-- its names are forgotten behind it -/
def wComp (it : ES (List D)) (g : Tg) (t : EB) (e : ES D) : ES (List D) := fun r => sb (it r) fun xs r1 => if xs.length ≤ lim then noErS (compLS g t e xs (unSlots g.slots r1)) else none
/-! calls of defs that change lists -/
inductive AArg where
  | io (i : Nat) | ex (a : ES D)
inductive AV where
  | io (i : Nat) | d (x : D)
abbrev RI := Option (Except Err D × List (List D))
def ioXs (r : Env) (i : Nat) : Option (List D) := match r[i]? with
  | some (.own xs) => some xs
  | some (.io _ xs) => some xs
  | _ => none
def reslot (s : Slot) (l : List D) : Slot := match s with
  | .own _ => .own l
  | .io a _ => .io a l
  | s => s
def ioSet (r : Env) (i : Nat) (l : List D) : Env := match r[i]? with
  | some s => r.set i (reslot s l)
  | none => r
def wArgI : List AArg → ES (List AV)
  | [], r => okS [] r
  | .io i :: as, r => match ioXs r i with
    | some _ => sb (wArgI as r) fun xs r1 => okS (.io i :: xs) r1
    | none => none
  | .ex a :: as, r => sb (a r) fun x r1 => sb (wArgI as r1) fun xs r2 => okS (.d x :: xs) r2
def ioIxA : List AArg → List Nat
  | [] => []
  | .io i :: as => i :: ioIxA as
  | .ex _ :: as => ioIxA as
def mkS (r : Env) (ad : Nat → Addr) : List AV → Option (List Slot)
  | [] => some []
  | .d x :: bs => (mkS r ad bs).map (.d x :: ·)
  | .io i :: bs => match ioXs r i with
    | some xs => (mkS r ad bs).map (.io (ad i) xs :: ·)
    | none => none
def putB : List AV → List (List D) → Env → Option Env
  | [], [], r => some r
  | .d _ :: bs, ls, r => putB bs ls r
  | .io i :: bs, l :: ls, r => putB bs ls (ioSet r i l)
  | _, _, _ => none
/-- what comes whatever the addresses are -/
noncomputable def allA (f : (Nat → Addr) → RI) : RI := open Classical in if ∀ ad, f ad = f (fun _ => 0) then f (fun _ => 0) else none
theorem allA_of {f : (Nat → Addr) → RI} {x : RI} (h : ∀ ad, f ad = x) : allA f = x := by
  unfold allA
  rw [if_pos (fun ad => (h ad).trans (h _).symm), h]
theorem allA_eq {f : (Nat → Addr) → RI} {x} (h : allA f = some x) (ad : Nat → Addr) : f ad = some x := by
  unfold allA at h
  split at h
  · rename_i k
    rw [k ad, h]
  · cases h
noncomputable def callI (g : List Slot → RI) (bs : List AV) (r : Env) : RS D := match allA (fun ad => match mkS r ad bs with | some ss => g ss | none => none) with
  | none => none
  | some (e, ls) => match putB bs ls r with
    | some r2 => some (e, r2)
    | none => none
noncomputable def wCallI (g : List Slot → RI) (as : List AArg) : ES D := fun r => sb (wArgI as r) fun bs r1 => callI g bs r1
/-- the first list is new, and of no use behind the call -/
noncomputable def callN (g : List Slot → RI) (xs : List D) (bs : List AV) (r : Env) : RS D := match allA (fun ad => match mkS r ad bs with | some ss => g (.io (ad r.length) xs :: ss) | none => none) with
  | some (e, _ :: ls) => match putB bs ls r with
    | some r2 => some (e, r2)
    | none => none
  | _ => none
noncomputable def wCallN (g : List Slot → RI) (a : EL) (as : List AArg) : ES D := fun r => sb (up r (a r)) fun xs r1 => sb (wArgI as r1) fun bs r2 => callN g xs bs r2
/-! statements -/
def soS {α : Type} (x : RS α) (f : α → Env → Option Out) : Option Out := match x with
  | none => none
  | some (.error e, r) => some (.er e r)
  | some (.ok a, r) => f a r
theorem soS_ok {α : Type} (a : α) (r : Env) (f : α → Env → Option Out) : soS (okS a r) f = f a r := (rfl)
theorem soS_none {α : Type} (f : α → Env → Option Out) : soS none f = none := (rfl)
def zSet (i : Nat) (a : ES D) : SX := fun r => soS (a r) fun x r1 => some (.nx (r1.set i (.d x)))
def zOwn (i : Nat) (a : ES (List D)) : SX := fun r => soS (a r) fun xs r1 => some (.nx (r1.set i (.own xs)))
def zPut (g : Tg) (a : ES D) : SX := fun r => soS (a r) fun x r1 => (g.put x r1).map .nx
def zRet (a : ES D) : SX := fun r => soS (a r) fun x r1 => some (.ri x r1)
def zRt (a : ES D) : SX := fun r => soS (a r) fun x _ => some (.rt x)
def zExpr (a : ES D) : SX := fun r => soS (a r) fun _ r1 => some (.nx r1)
def zIf (c : ES Bool) (a b : SX) : SX := fun r => soS (c r) fun k r1 => if k = true then a r1 else b r1
def zApp (i : Nat) (a : ES D) : SX := fun r => match ioXs r i with
  | some _ => soS (a r) fun x r1 => (match ioXs r1 i with
    | some xs => if xs.length < lim then some (.nx (ioSet r1 i (xs ++ [x]))) else none
    | none => none)
  | none => none
def zFor (it : ES (List D)) (g : Tg) (b : SX) : SX := fun r => soS (it r) fun xs r1 => loopF g b xs r1
/-! a def that changes lists -/
def ioOut : List Slot → Env → Option (List (List D))
  | [], _ => some []
  | .io a _ :: ss, .io b xs :: r => if a = b then (ioOut ss r).map (xs :: ·) else none
  | .d _ :: ss, _ :: r => ioOut ss r
  | _, _ => none
def runI (n p : Nat) (b : SX) (ss : List Slot) : RI := if ss.length = p then (match b (ss ++ List.replicate (n - p) .un) with
  | some (.ri x r) => (ioOut ss r).map fun l => (.ok x, l)
  | some (.nx r) => (ioOut ss r).map fun l => (.ok .none, l)
  | some (.er e r) => (ioOut ss r).map fun l => (.error e, l)
  | _ => none) else none
end DL
/-! sorted(..) of integers, of pairs of integers. -/
namespace DL
open PySem
end DL
/-! Whole numbers divided by large ones. -/
namespace DL
open PySem
end DL
/-! A block of which nothing is said: it is never reached where a law asks. -/
namespace DL
open PySem
def sUnk : SX := fun _ => none
/-- x[:e] -/
def wCutT (f1 f2 : ES D) : ES D := fun r => sb (f1 r) fun x r1 => sb (f2 r1) fun j r2 => match j with
  | .int j => up r2 (po (dCut none (some j) x))
  | _ => none
def anyTab (tab : List ((String × String) × Bool)) (c : String) : List String → Option Bool
  | [] => some false
  | T :: Ts => match tab.lookup (c, T) with
    | some true => some true
    | some false => anyTab tab c Ts
    | none => none
/-- isinstance(e, (A, B, ..)) of a kept error -/
def vIsEs (tab : List ((String × String) × Bool)) (i : Nat) (Ts : List String) : EX := fun r => match r[i]? with
  | some (.ex c _) => (match anyTab tab c Ts with
    | some b => ok (.bool b)
    | none => none)
  | _ => none
def pickS (tab : List ((String × String) × Bool)) (e : Err) (r : Env) : List (String × Nat × SX) → Option Out
  | [] => none
  | (c, i, b) :: hs => match tab.lookup (e.cls, c) with
    | some true => if i < r.length then unI i (b (r.set i (.ex e.cls e.fld))) else none
    | some false => pickS tab e r hs
    | none => none
/-- as sTryE; the clauses behind these are never reached -/
def sTryES (tab : List ((String × String) × Bool)) (a : SX) (hs : List (String × Nat × SX)) : SX := fun r => match a r with
  | some (.er e r1) => pickS tab e r1 hs
  | o => o
end DL
/-! Comprehensions of any number of clauses, by data. -/
namespace DL
open PySem
abbrev Gn := EL × Tg × EB
/-- the names of clauses -/
def sufS (gs : List Gn) : List Nat := (gs.map fun c => c.2.1.slots).flatten
end DL
/-! Starred tuples, dicts of one key, d.get, by data. -/
namespace DL
open PySem
end DL
/-! The data layer: how data stand in the abstract heap, what an expression's reading is. -/
namespace DL
open PySem PySem.Spec PyProof.Rows L2

mutual
/-- v is the datum, all of it in the part F -/
def Rep (K : PySem.W.Frag) (F : Hp) : D → V → Prop
  | .none, v => v = .non
  | .bool b, v => v = .bl b
  | .int i, v => v = .int i
  | .str x, v => v = .str x
  | .list ds, v => ∃ a vs, v = .ref a ∧ SqL K F a vs ∧ RepL K F ds vs
  | .tuple ds, v => ∃ a vs, v = .ref a ∧ F a = some (.tup vs) ∧ RepL K F ds vs
  | .dict kvs, v => ∃ a, v = .ref a ∧ ((isTK kvs = false ∧ ∃ ks, Rd F a (.dK ks) ∧ RepIV K F kvs ks) ∨ ∃ ks, Rd F a (.dT ks) ∧ RepKV K F kvs ks)
def RepL (K : PySem.W.Frag) (F : Hp) : List D → List V → Prop
  | [], vs => vs = []
  | d :: ds, vs => ∃ v r, vs = v :: r ∧ Rep K F d v ∧ RepL K F ds r
/-- a dict whose keys are tuples of ints -/
def RepKV (K : PySem.W.Frag) (F : Hp) : List (D × D) → List (List Key × V) → Prop
  | [], ks => ks = []
  | (x, d) :: kvs, ks => ∃ k v r, x = .tuple (List.map PyData.int k) ∧ ks = (List.map Sum.inl k, v) :: r ∧ Rep K F d v ∧ RepKV K F kvs r
/-- a dict whose keys are ints -/
def RepIV (K : PySem.W.Frag) (F : Hp) : List (D × D) → List (Key × V) → Prop
  | [], ks => ks = []
  | (x, d) :: kvs, ks => ∃ k v r, x = PyData.int k ∧ ks = (Sum.inl k, v) :: r ∧ Rep K F d v ∧ RepIV K F kvs r
end
/-- as Rep, but the list at the top may be one of the def's own -/
def RepX (K : PySem.W.Frag) (F H : Hp) : D → V → Prop
  | .list ds, v => ∃ a vs, v = .ref a ∧ SqL K H a vs ∧ RepL K F ds vs
  | d, v => Rep K F d v

theorem rdS {H H' : Hp} {a : Addr} {u : HO} (e : Same H H') (h : Rd H a u) : Rd H' a u := by
  rcases h with h | ⟨o, h⟩
  · exact .inl (e _ _ h)
  · exact .inr ⟨o, e _ _ h⟩
theorem seqT {K : PySem.W.Frag} {H H' : Hp} {a : Addr} {xs : List V} (e : Same H H') (h : SqT K H a xs) : SqT K H' a xs := by
  rcases h with (h | ⟨o, h⟩) | h
  · exact .inl (.inl (e _ _ h))
  · exact .inl (.inr ⟨o, e _ _ h⟩)
  · exact .inr h
theorem tupT {K : PySem.W.Frag} {H H' : Hp} {a : Addr} {xs : List V} (e : Same H H') (h : H a = some (.tup xs)) : SqT K H' a xs := .inl (.inl (e _ _ h))
mutual
theorem Rep.mono {K : PySem.W.Frag} {F F' : Hp} (e : Same F F') : ∀ {d : D} {v : V}, Rep K F d v → Rep K F' d v
  | .none, _, h => h
  | .bool _, _, h => h
  | .int _, _, h => h
  | .str _, _, h => h
  | .list ds, _, ⟨a, vs, q, h1, h2⟩ => ⟨a, vs, q, e.seq h1, RepL.mono e h2⟩
  | .tuple ds, _, ⟨a, vs, q, h1, h2⟩ => ⟨a, vs, q, e _ _ h1, RepL.mono e h2⟩
  | .dict _, _, ⟨a, q, .inl ⟨n, ks, h, p⟩⟩ => ⟨a, q, .inl ⟨n, ks, rdS e h, RepIV.mono e p⟩⟩
  | .dict _, _, ⟨a, q, .inr ⟨ks, h, p⟩⟩ => ⟨a, q, .inr ⟨ks, rdS e h, RepKV.mono e p⟩⟩
theorem RepL.mono {K : PySem.W.Frag} {F F' : Hp} (e : Same F F') : ∀ {ds : List D} {vs : List V}, RepL K F ds vs → RepL K F' ds vs
  | [], _, h => h
  | _ :: _, _, ⟨v, r, q, h1, h2⟩ => ⟨v, r, q, Rep.mono e h1, RepL.mono e h2⟩
theorem RepKV.mono {K : PySem.W.Frag} {F F' : Hp} (e : Same F F') : ∀ {kvs : List (D × D)} {ks : List (List Key × V)}, RepKV K F kvs ks → RepKV K F' kvs ks
  | [], _, h => h
  | (_, _) :: _, _, ⟨k, v, r, q1, q2, h1, h2⟩ => ⟨k, v, r, q1, q2, Rep.mono e h1, RepKV.mono e h2⟩
theorem RepIV.mono {K : PySem.W.Frag} {F F' : Hp} (e : Same F F') : ∀ {kvs : List (D × D)} {ks : List (Key × V)}, RepIV K F kvs ks → RepIV K F' kvs ks
  | [], _, h => h
  | (_, _) :: _, _, ⟨k, v, r, q1, q2, h1, h2⟩ => ⟨k, v, r, q1, q2, Rep.mono e h1, RepIV.mono e h2⟩
end
theorem RepL.length {K : PySem.W.Frag} {F : Hp} : ∀ {ds : List D} {vs : List V}, RepL K F ds vs → vs.length = ds.length
  | [], _, h => by
    have h' : _ = [] := h
    rw [h']; rfl
  | _ :: ds, _, ⟨v, r, q, h1, h2⟩ => by
    rw [q, List.length_cons, List.length_cons, RepL.length h2]
theorem RepL.get {K : PySem.W.Frag} {F : Hp} : ∀ {ds : List D} {vs : List V} {i : Nat} {d : D}, RepL K F ds vs → ds[i]? = some d → ∃ v, vs[i]? = some v ∧ Rep K F d v
  | [], _, _, _, _, h => by simp at h
  | x :: ds, _, 0, d, ⟨v, r, q, h1, h2⟩, h => by
    have e : x = d := by simpa using h
    subst e
    exact ⟨v, by rw [q]; rfl, h1⟩
  | _ :: ds, _, i + 1, d, ⟨v, r, q, h1, h2⟩, h => by
    obtain ⟨u, e1, e2⟩ := RepL.get (i := i) (d := d) h2 (by simpa using h)
    exact ⟨u, by rw [q]; simpa using e1, e2⟩
theorem RepL.at {K : PySem.W.Frag} {F : Hp} : ∀ {ds : List D} {vs : List V} {i : Nat} {v : V}, RepL K F ds vs → vs[i]? = some v → ∃ d, ds[i]? = some d ∧ Rep K F d v
  | [], _, _, _, q, h => by
    have q' : _ = [] := q
    rw [q'] at h; simp at h
  | x :: ds, _, 0, u, ⟨v, r, q, h1, h2⟩, h => by
    rw [q] at h
    have e : v = u := by simpa using h
    subst e
    exact ⟨x, rfl, h1⟩
  | _ :: ds, _, i + 1, u, ⟨v, r, q, h1, h2⟩, h => by
    rw [q] at h
    obtain ⟨d, e1, e2⟩ := RepL.at (i := i) (v := u) h2 (by simpa using h)
    exact ⟨d, by simpa using e1, e2⟩
theorem RepL.append {K : PySem.W.Frag} {F : Hp} : ∀ {ds es : List D} {vs us : List V}, RepL K F ds vs → RepL K F es us → RepL K F (ds ++ es) (vs ++ us)
  | [], _, _, _, q, h => by
    have q' : _ = [] := q
    rw [q']; exact h
  | x :: ds, es, _, us, ⟨v, r, q, h1, h2⟩, h => ⟨v, r ++ us, by rw [q]; rfl, h1, RepL.append h2 h⟩
theorem RepL.drop {K : PySem.W.Frag} {F : Hp} : ∀ (n : Nat) {ds : List D} {vs : List V}, RepL K F ds vs → RepL K F (ds.drop n) (vs.drop n)
  | 0, _, _, h => h
  | n + 1, [], _, q => by
    have q' : _ = [] := q
    rw [q']; rfl
  | n + 1, x :: ds, _, ⟨v, r, q, h1, h2⟩ => by rw [q]; exact RepL.drop n h2
theorem RepL.take {K : PySem.W.Frag} {F : Hp} : ∀ (n : Nat) {ds : List D} {vs : List V}, RepL K F ds vs → RepL K F (ds.take n) (vs.take n)
  | 0, _, _, h => rfl
  | n + 1, [], _, q => by
    have q' : _ = [] := q
    rw [q']; rfl
  | n + 1, x :: ds, _, ⟨v, r, q, h1, h2⟩ => ⟨v, r.take n, by rw [q]; rfl, h1, RepL.take n h2⟩
theorem RepL.set {K : PySem.W.Frag} {F : Hp} {d : D} {v : V} (rv : Rep K F d v) : ∀ (n : Nat) {ds : List D} {vs : List V}, RepL K F ds vs → RepL K F (ds.set n d) (vs.set n v)
  | _, [], _, q => by
    have q' : _ = [] := q
    rw [q']; rfl
  | 0, x :: ds, _, ⟨u, r, q, h1, h2⟩ => ⟨v, r, by rw [q]; rfl, rv, h2⟩
  | n + 1, x :: ds, _, ⟨u, r, q, h1, h2⟩ => ⟨u, r.set n v, by rw [q]; rfl, h1, RepL.set rv n h2⟩
theorem RepL.cut {K : PySem.W.Frag} {F : Hp} {ds : List D} {vs : List V} (h : RepL K F ds vs) (lo hi : Option Int) : RepL K F (cutD ds lo hi) (cutV vs lo hi) := by
  have e : ∀ n d i, cutAt n d i = HT.sIx n d i := fun n d i => by cases i <;> rfl
  unfold cutD cutV
  rw [e, e, h.length]
  exact RepL.take _ (RepL.drop _ h)

/-- what an expression may do: F grows, H grows, F stays within H, an old object is in F only if it was -/
structure Gr (F H F' H' : Hp) : Prop where
  f : Same F F'
  h : Same H H'
  i : Same F' H'
  n : ∀ a, H a ≠ none → F a = none → (∀ vs, H a ≠ some (.tup vs)) → F' a = none
theorem Gr.refl {F H : Hp} (e : Same F H) : Gr F H F H := ⟨Same.refl _, Same.refl _, e, fun _ _ q _ => q⟩
theorem Gr.trans {F H F1 H1 F2 H2 : Hp} (a : Gr F H F1 H1) (b : Gr F1 H1 F2 H2) : Gr F H F2 H2 :=
  ⟨a.f.trans b.f, a.h.trans b.h, b.i, fun x h q t => b.n x (fun z => h (a.h.free z)) (a.n x h q t) fun vs e => h (Classical.byContradiction fun c => by
    cases e1 : H x with
    | none => exact c e1
    | some o =>
      rw [a.h _ _ e1] at e
      cases e
      exact t vs e1)⟩
theorem Gr.nu {F H F' H' : Hp} (g : Gr F H F' H') {a : Addr} {u : HO} (h : H a = some u) (hu : ∀ vs, u ≠ .tup vs) (f : F a = none) : F' a = none := g.n a (by rw [h]; exact fun z => nomatch z) f fun vs z => hu vs (Option.some.inj (h.symm.trans z))
/-- a new object, put into F too -/
theorem Gr.new {F H : Hp} (e : Same F H) {p : Addr} (hp : H p = none) (o : HO) : Gr F H (upd F p o) (upd H p o) := by
  have fp : F p = none := e.free hp
  refine ⟨fun b x q => ?_, fun b x q => ?_, fun b x q => ?_, fun a h q => ?_⟩
  · rw [upd_ne (ne_of_none q fp)]; exact q
  · rw [upd_ne (ne_of_none q hp)]; exact q
  · by_cases c : b = p
    · subst c; rw [upd_same] at q ⊢; exact q
    · rw [upd_ne c] at q ⊢; exact e b x q
  · exact fun _ => by rw [upd_ne (fun z => h (by rw [z]; exact hp))]; exact q
/-- a new object that stays the def's own -/
theorem Gr.own {F H : Hp} (e : Same F H) {p : Addr} (hp : H p = none) (o : HO) : Gr F H F (upd H p o) := by
  refine ⟨Same.refl _, fun b x q => ?_, fun b x q => ?_, fun _ _ q _ => q⟩
  · rw [upd_ne (ne_of_none q hp)]; exact q
  · rw [upd_ne (ne_of_none (e b x q) hp)]; exact e b x q

theorem Rep.x {K : PySem.W.Frag} {F H : Hp} (e : Same F H) : ∀ {d : D} {v : V}, Rep K F d v → RepX K F H d v
  | .none, _, h => h
  | .bool _, _, h => h
  | .int _, _, h => h
  | .str _, _, h => h
  | .list ds, _, ⟨a, vs, q, h1, h2⟩ => ⟨a, vs, q, e.seq h1, h2⟩
  | .tuple ds, _, h => h
  | .dict _, _, h => h
theorem RepX.mono {K : PySem.W.Frag} {F H F' H' : Hp} (g : Gr F H F' H') : ∀ {d : D} {v : V}, RepX K F H d v → RepX K F' H' d v
  | .none, _, h => h
  | .bool _, _, h => h
  | .int _, _, h => h
  | .str _, _, h => h
  | .list ds, _, ⟨a, vs, q, h1, h2⟩ => ⟨a, vs, q, g.h.seq h1, h2.mono g.f⟩
  | .tuple ds, _, h => Rep.mono (K := K) (d := .tuple ds) g.f h
  | .dict kvs, _, h => Rep.mono (K := K) (d := .dict kvs) g.f h
/-- read with H alone -/
theorem RepX.rep {K : PySem.W.Frag} {F H : Hp} (e : Same F H) : ∀ {d : D} {v : V}, RepX K F H d v → Rep K H d v
  | .none, _, h => h
  | .bool _, _, h => h
  | .int _, _, h => h
  | .str _, _, h => h
  | .list ds, _, ⟨a, vs, q, h1, h2⟩ => ⟨a, vs, q, h1, h2.mono e⟩
  | .tuple ds, _, h => Rep.mono (K := K) (d := .tuple ds) e h
  | .dict kvs, _, h => Rep.mono (K := K) (d := .dict kvs) e h

/-! ### the slots -/
/-- rows of their own, vs the references to them -/
def NestOk (K : PySem.W.Frag) (B H F : Hp) : List (List D) → List V → Prop
  | [], vs => vs = []
  | xs :: xss, vs => ∃ b us r, vs = .ref b :: r ∧ H b = some (.lst us) ∧ F b = none ∧ B b = none ∧ RepL K F xs us ∧ V.ref b ∉ r ∧ NestOk K B H F xss r
/-- an own dict whose keys are tuples of ints -/
def RepP (K : PySem.W.Frag) (F : Hp) : List (List Int × D) → List (List Key × V) → Prop
  | [], ks => ks = []
  | (k, d) :: kvs, ks => ∃ v r, ks = (k.map Sum.inl, v) :: r ∧ Rep K F d v ∧ RepP K F kvs r
theorem RepP.mono {K : PySem.W.Frag} {F F' : Hp} (e : Same F F') : ∀ {kvs : List (List Int × D)} {ks : List (List Key × V)}, RepP K F kvs ks → RepP K F' kvs ks
  | [], _, h => h
  | (_, _) :: _, _, ⟨v, r, q, h1, h2⟩ => ⟨v, r, q, h1.mono e, RepP.mono e h2⟩
/-- a caught error -/
def exk (a : Addr) (C : Addr) (d : Option Addr) : HO := .ext fun h => ∃ (o : Obj) (vs : Array Value), h.get? a = some o ∧ o.cls = .ref C ∧ o.dict = d ∧ o.data = .fields vs
def FldOk (K : PySem.W.Frag) (F : Hp) (dx : Option Addr) : Option (Str × D) → Prop
  | none => dx = none
  | some (f, x) => ∃ dd v, dx = some dd ∧ F dd = some (.xd [(f, v)]) ∧ Rep K F x v
theorem FldOk.mono {K : PySem.W.Frag} {F F' : Hp} (e : Same F F') {dx : Option Addr} : ∀ {o : Option (Str × D)}, FldOk K F dx o → FldOk K F' dx o
  | none, h => h
  | some (f, x), ⟨dd, v, q, h1, h2⟩ => ⟨dd, v, q, e _ _ h1, h2.mono e⟩
def SlotOk (K : PySem.W.Frag) (B H F : Hp) : Slot → Option V → Prop
  | .un, _ => True
  | .d x, y => ∃ v, y = some v ∧ Rep K F x v
  | .own xs, y => ∃ a vs, y = some (.ref a) ∧ H a = some (.lst vs) ∧ F a = none ∧ B a = none ∧ RepL K F xs vs
  | .tg xs, y => ∃ v, y = some v ∧ Rep K F (.list xs) v
  | .nest xss, y => ∃ a vs, y = some (.ref a) ∧ H a = some (.lst vs) ∧ F a = none ∧ B a = none ∧ V.ref a ∉ vs ∧ NestOk K B H F xss vs
  | .dct kvs, y => ∃ a ks, y = some (.ref a) ∧ H a = some (.dT ks) ∧ F a = none ∧ B a = none ∧ RepP K F kvs ks
  | .io a xs, y => ∃ vs, y = some (.ref a) ∧ H a = some (.lst vs) ∧ F a = none ∧ B a = none ∧ RepL K F xs vs
  | .rg n, y => ∃ a j, y = some (.ref a) ∧ F a = some (.rng 0 j) ∧ j.toNat = n ∧ -(2 ^ 62) ≤ j ∧ j < 2 ^ 62
  | .ex c f, y => ∃ a C dx, y = some (.ref a) ∧ PySem.W.nsIn K mainGlobals (PySem.Str.ofString c) = some (some (.ref C)) ∧ F a = some (exk a C dx) ∧ FldOk K F dx f
/-- what a slot's own lists are -/
def Foot (H : Hp) : Slot → Option V → Addr → Prop
  | .own _, y, a => y = some (.ref a)
  | .dct _, y, a => y = some (.ref a)
  | .io _ _, y, a => y = some (.ref a)
  | .nest _, y, a => ∃ p vs, y = some (.ref p) ∧ H p = some (.lst vs) ∧ (a = p ∨ V.ref a ∈ vs)
  | _, _, _ => False
theorem nest_foot {K : PySem.W.Frag} {B H F : Hp} : ∀ {xss : List (List D)} {vs : List V} {a : Addr}, NestOk K B H F xss vs → V.ref a ∈ vs → ∃ us, H a = some (.lst us) ∧ F a = none ∧ B a = none
  | [], vs, a, h, m => by
    have h' : vs = [] := h
    rw [h'] at m; cases m
  | xs :: xss, vs, a, ⟨b, us, r, e, h1, h2, h3, _, _, h6⟩, m => by
    rw [e] at m
    rcases List.mem_cons.mp m with q | q
    · cases q
      exact ⟨us, h1, h2, h3⟩
    · exact nest_foot h6 q
theorem foot_ok {K : PySem.W.Frag} {B H F : Hp} {s : Slot} {y : Option V} {a : Addr} (h : SlotOk K B H F s y) (f : Foot H s y a) : ∃ u, H a = some u ∧ F a = none ∧ B a = none ∧ ∀ vs, u ≠ .tup vs := by
  cases s with
  | un => exact False.elim f
  | d x => exact False.elim f
  | tg x => exact False.elim f
  | ex c g => exact False.elim f
  | rg n => exact False.elim f
  | own xs =>
    obtain ⟨b, vs, e, h1, h2, h3, _⟩ := h
    have f' : y = some (.ref a) := f
    rw [e] at f'
    cases f'
    exact ⟨_, h1, h2, h3, fun _ z => nomatch z⟩
  | dct kvs =>
    obtain ⟨b, ks, e, h1, h2, h3, _⟩ := h
    have f' : y = some (.ref a) := f
    rw [e] at f'
    cases f'
    exact ⟨_, h1, h2, h3, fun _ z => nomatch z⟩
  | io b xs =>
    obtain ⟨vs, e, h1, h2, h3, _⟩ := h
    have f' : y = some (.ref a) := f
    rw [e] at f'
    cases f'
    exact ⟨_, h1, h2, h3, fun _ z => nomatch z⟩
  | nest xss =>
    obtain ⟨b, vs, e, h1, h2, h3, _, h5⟩ := h
    obtain ⟨p, ws, e1, e2, e3⟩ := f
    rw [e] at e1
    cases e1
    rw [h1] at e2
    cases e2
    rcases e3 with rfl | m
    · exact ⟨_, h1, h2, h3, fun _ z => nomatch z⟩
    · obtain ⟨us, z1, z2, z3⟩ := nest_foot h5 m
      exact ⟨_, z1, z2, z3, fun _ z => nomatch z⟩
theorem nest_frame {K : PySem.W.Frag} {B H F H' F' : Hp} (e : Same F F') : ∀ {xss : List (List D)} {vs : List V}, (∀ a, V.ref a ∈ vs → H' a = H a ∧ F' a = none) → NestOk K B H F xss vs → NestOk K B H' F' xss vs
  | [], _, _, h => h
  | xs :: xss, vs, k, ⟨b, us, r, q, h1, h2, h3, h4, h5, h6⟩ => ⟨b, us, r, q, by rw [(k b (by rw [q]; exact List.mem_cons_self)).1]; exact h1, (k b (by rw [q]; exact List.mem_cons_self)).2, h3, h4.mono e, h5, nest_frame e (fun a m => k a (by rw [q]; exact List.mem_cons_of_mem _ m)) h6⟩
/-- a slot stays what it is where its own lists are left alone -/
theorem SlotOk.frame {K : PySem.W.Frag} {B H F H' F' : Hp} (e : Same F F') : ∀ {s : Slot} {y : Option V}, (∀ a, Foot H s y a → H' a = H a ∧ F' a = none) → SlotOk K B H F s y → SlotOk K B H' F' s y
  | .un, _, _, h => trivial
  | .d x, _, _, ⟨v, q, h⟩ => ⟨v, q, h.mono e⟩
  | .tg xs, _, _, ⟨v, q, h⟩ => ⟨v, q, h.mono e⟩
  | .own xs, _, k, ⟨a, vs, q, h1, h2, h3, h4⟩ => ⟨a, vs, q, by rw [(k a q).1]; exact h1, (k a q).2, h3, h4.mono e⟩
  | .nest xss, _, k, ⟨a, vs, q, h1, h2, h3, h4, h5⟩ => ⟨a, vs, q, by rw [(k a ⟨a, vs, q, h1, .inl rfl⟩).1]; exact h1, (k a ⟨a, vs, q, h1, .inl rfl⟩).2, h3, h4, nest_frame e (fun b m => k b ⟨a, vs, q, h1, .inr m⟩) h5⟩
  | .dct kvs, _, k, ⟨a, ks, q, h1, h2, h3, h4⟩ => ⟨a, ks, q, by rw [(k a q).1]; exact h1, (k a q).2, h3, h4.mono e⟩
  | .io a xs, _, k, ⟨vs, q, h1, h2, h3, h4⟩ => ⟨vs, q, by rw [(k a q).1]; exact h1, (k a q).2, h3, h4.mono e⟩
  | .ex _ _, _, _, ⟨a, C, dx, q, h0, h1, h2⟩ => ⟨a, C, dx, q, h0, e _ _ h1, h2.mono e⟩
  | .rg _, _, _, ⟨a, j, q, h1, h2⟩ => ⟨a, j, q, e _ _ h1, h2⟩
theorem Foot.back {K : PySem.W.Frag} {B H F H' : Hp} {s : Slot} {y : Option V} {b : Addr} (h : SlotOk K B H F s y) (k : ∀ a, Foot H s y a → H' a = H a) (f : Foot H' s y b) : Foot H s y b := by
  cases s with
  | nest xss =>
    obtain ⟨a, vs, e, h1, _⟩ := h
    obtain ⟨p, ws, e1, e2, e3⟩ := f
    rw [e] at e1
    cases e1
    rw [k _ ⟨_, _, e, h1, .inl rfl⟩] at e2
    exact ⟨_, _, e, e2, e3⟩
  | _ => exact f
/-- what a datum can be as a value -/
def okV : V → Prop
  | .byt _ => False
  | .flt _ => False
  | .ty _ => False
  | _ => True
/-- the lists with the same entries -/
def TagOk (K : PySem.W.Frag) (r : Env) (σ : L2.St) (F : Hp) : Prop := ∃ us : List V, (∀ u ∈ us, okV u) ∧ ∀ (i : Nat) (xs : List D), r[i]? = some (.tg xs) → ∃ a, σ[i]? = some (some (.ref a)) ∧ SqL K F a us
/-- the names of a def: F0, B the part and the heap at the entry -/
structure SR (K : PySem.W.Frag) (F0 B : Hp) (r : Env) (σ : L2.St) (H F : Hp) : Prop where
  gr : Gr F0 B F H
  len : r.length = σ.length
  ok : ∀ (i : Nat) (s : Slot), r[i]? = some s → ∃ y, σ[i]? = some y ∧ SlotOk K B H F s y
  sep : ∀ (i j : Nat) (s t : Slot) (y z : Option V) (a : Addr), i ≠ j → r[i]? = some s → r[j]? = some t → σ[i]? = some y → σ[j]? = some z → Foot H s y a → Foot H t z a → False
  tag : TagOk K r σ F
theorem TagOk.grow {K : PySem.W.Frag} {r : Env} {σ : L2.St} {F F' : Hp} (e : Same F F') : TagOk K r σ F → TagOk K r σ F'
  | ⟨us, hu, h⟩ => ⟨us, hu, fun i xs q => let ⟨a, h1, h2⟩ := h i xs q; ⟨a, h1, e.seq h2⟩⟩
theorem Gr.foot {K : PySem.W.Frag} {B H F H' F' : Hp} (g : Gr F H F' H') {s : Slot} {y : Option V} (h : SlotOk K B H F s y) : ∀ a, Foot H s y a → H' a = H a ∧ F' a = none := fun a f => by
  obtain ⟨us, h1, h2, _, h4⟩ := foot_ok h f
  exact ⟨by rw [g.h _ _ h1, h1], g.n a (by rw [h1]; simp) h2 fun vs z => h4 vs (Option.some.inj (h1.symm.trans z))⟩
theorem SlotOk.grow {K : PySem.W.Frag} {B H F H' F' : Hp} (g : Gr F H F' H') {s : Slot} {y : Option V} (h : SlotOk K B H F s y) : SlotOk K B H' F' s y := h.frame g.f (g.foot h)
theorem SR.slot {K : PySem.W.Frag} {F0 B : Hp} {r : Env} {σ : L2.St} {H F : Hp} (S : SR K F0 B r σ H F) {i : Nat} {s : Slot} {y : Option V} (hs : r[i]? = some s) (hy : σ[i]? = some y) : SlotOk K B H F s y := by
  obtain ⟨z, h1, h2⟩ := S.ok i s hs
  rw [hy] at h1
  cases h1
  exact h2
theorem SR.grow {K : PySem.W.Frag} {F0 B : Hp} {r : Env} {σ : L2.St} {H F H' F' : Hp} (S : SR K F0 B r σ H F) (g : Gr F H F' H') : SR K F0 B r σ H' F' :=
  ⟨S.gr.trans g, S.len, fun i s e => let ⟨y, h1, h2⟩ := S.ok i s e; ⟨y, h1, h2.grow g⟩,
    fun i j s t y z a hij e1 e2 e3 e4 f1 f2 => S.sep i j s t y z a hij e1 e2 e3 e4 (f1.back (S.slot e1 e3) fun b f => (g.foot (S.slot e1 e3) b f).1) (f2.back (S.slot e2 e4) fun b f => (g.foot (S.slot e2 e4) b f).1), S.tag.grow g.f⟩
theorem SR.sub {K : PySem.W.Frag} {F0 B : Hp} {r : Env} {σ : L2.St} {H F : Hp} (S : SR K F0 B r σ H F) : Same F H := S.gr.i
theorem set_get {α : Type} {l : List α} {i j : Nat} {x y : α} (h : (l.set i x)[j]? = some y) : (j = i ∧ y = x) ∨ (j ≠ i ∧ l[j]? = some y) := by
  rw [List.getElem?_set] at h
  by_cases c : i = j
  · rw [if_pos c] at h
    split at h
    · exact .inl ⟨c.symm, (Option.some.inj h).symm⟩
    · cases h
  · rw [if_neg c] at h
    exact .inr ⟨fun z => c z.symm, h⟩
theorem TagOk.set {K : PySem.W.Frag} {r : Env} {σ : L2.St} {F : Hp} {i : Nat} {s : Slot} {y : Option V} (hs : ∀ xs, s ≠ .tg xs) : TagOk K r σ F → TagOk K (r.set i s) (σ.set i y) F
  | ⟨us, hu, h⟩ => ⟨us, hu, fun j xs q => by
    rcases set_get q with ⟨_, z⟩ | ⟨c, q⟩
    · exact absurd z.symm (hs xs)
    · rw [List.getElem?_set_ne (Ne.symm c)]
      exact h j xs q⟩
theorem TagOk.setE {K : PySem.W.Frag} {r : Env} {σ : L2.St} {F : Hp} {i : Nat} {s : Slot} (hs : ∀ xs, s ≠ .tg xs) : TagOk K r σ F → TagOk K (r.set i s) σ F
  | ⟨us, hu, h⟩ => ⟨us, hu, fun j xs q => by
    rcases set_get q with ⟨_, z⟩ | ⟨c, q⟩
    · exact absurd z.symm (hs xs)
    · exact h j xs q⟩
theorem get_lt {α : Type} {l : List α} {i : Nat} {y : α} (h : l[i]? = some y) : i < l.length := (List.getElem?_eq_some_iff.mp h).1
/-- a slot gets another value, with new lists at most -/
theorem SR.put {K : PySem.W.Frag} {F0 B : Hp} {r : Env} {σ : L2.St} {H F H1 F1 : Hp} (S : SR K F0 B r σ H F) (g : Gr F H F1 H1) {i : Nat} {s : Slot} {y : Option V} (h : SlotOk K B H1 F1 s y) (hf : ∀ a, Foot H1 s y a → H a = none) (hs : ∀ xs, s ≠ .tg xs) : SR K F0 B (r.set i s) (σ.set i y) H1 F1 := by
  have S1 := S.grow g
  have nod : ∀ (j : Nat) (t : Slot) (z : Option V) (a : Addr), r[j]? = some t → σ[j]? = some z → Foot H1 s y a → Foot H1 t z a → False := fun j t z a e1 e2 f1 f2 => by
    obtain ⟨us, h1, _⟩ := foot_ok (S.slot e1 e2) (f2.back (S.slot e1 e2) fun b f => (g.foot (S.slot e1 e2) b f).1)
    rw [hf a f1] at h1
    cases h1
  refine ⟨S1.gr, by rw [List.length_set, List.length_set]; exact S.len, fun j t e => ?_, fun j k t u z w a hjk e1 e2 e3 e4 f1 f2 => ?_, S1.tag.set hs⟩
  · rcases set_get e with ⟨rfl, rfl⟩ | ⟨c, e⟩
    · have hl := get_lt e
      rw [List.length_set, S.len] at hl
      exact ⟨y, by rw [List.getElem?_set_self hl], h⟩
    · obtain ⟨z, h1, h2⟩ := S1.ok j t e
      exact ⟨z, by rw [List.getElem?_set_ne (Ne.symm c)]; exact h1, h2⟩
  · rcases set_get e1 with ⟨c1, q1⟩ | ⟨c1, g1⟩
    · rcases set_get e3 with ⟨_, q3⟩ | ⟨c, _⟩
      · rcases set_get e2 with ⟨c2, _⟩ | ⟨c2, g2⟩
        · exact hjk (c1.trans c2.symm)
        · rw [List.getElem?_set_ne (Ne.symm c2)] at e4
          exact nod k u w a g2 e4 (by rw [← q1, ← q3]; exact f1) f2
      · exact c c1
    · rw [List.getElem?_set_ne (Ne.symm c1)] at e3
      rcases set_get e2 with ⟨c2, q2⟩ | ⟨c2, g2⟩
      · rcases set_get e4 with ⟨_, q4⟩ | ⟨c, _⟩
        · exact nod j t z a g1 e3 (by rw [← q2, ← q4]; exact f2) f1
        · exact c c2
      · rw [List.getElem?_set_ne (Ne.symm c2)] at e4
        exact S1.sep j k t u z w a hjk g1 g2 e3 e4 f1 f2
/-- a datum is stored -/
theorem SR.set {K : PySem.W.Frag} {F0 B : Hp} {r : Env} {σ : L2.St} {H F : Hp} (S : SR K F0 B r σ H F) {i : Nat} {x : D} {v : V} (h : Rep K F x v) : SR K F0 B (r.set i (.d x)) (σ.set i (some v)) H F :=
  S.put (Gr.refl S.gr.i) (s := .d x) ⟨v, rfl, h⟩ (fun _ f => False.elim f) fun _ z => nomatch z
/-- a slot is forgotten -/
theorem SR.unset {K : PySem.W.Frag} {F0 B : Hp} {r : Env} {σ : L2.St} {H F : Hp} (S : SR K F0 B r σ H F) {i : Nat} {y0 : Option V} : SR K F0 B (r.set i .un) (σ.set i y0) H F :=
  S.put (Gr.refl S.gr.i) (s := .un) trivial (fun _ f => False.elim f) fun _ z => nomatch z
/-- a new own list is stored -/
theorem SR.setOwn {K : PySem.W.Frag} {F0 B : Hp} {r : Env} {σ : L2.St} {H F : Hp} (S : SR K F0 B r σ H F) {i : Nat} {p : Addr} {xs : List D} {vs : List V} (hp : H p = none) (h : RepL K F xs vs) :
    SR K F0 B (r.set i (.own xs)) (σ.set i (some (.ref p))) (upd H p (.lst vs)) F :=
  S.put (Gr.own S.gr.i hp (.lst vs)) (s := .own xs) ⟨p, vs, rfl, upd_same, S.gr.i.free hp, S.gr.h.free hp, h⟩ (fun a f => by
    have f' : some (V.ref p) = some (V.ref a) := f
    cases f'
    exact hp) fun _ z => nomatch z
/-- own lists become a datum -/
theorem SR.frzS {K : PySem.W.Frag} {F0 B : Hp} {r : Env} {σ : L2.St} {H F F' : Hp} (S : SR K F0 B r σ H F) {i : Nat} {s : Slot} {y : Option V} {x : D} (hi : r[i]? = some s) (hy : σ[i]? = some y) (sf : Same F F') (si : Same F' H) (hn : ∀ a, F' a ≠ none → F a ≠ none ∨ Foot H s y a) (h : SlotOk K B H F' (.d x) y) :
    SR K F0 B (r.set i (.d x)) σ H F' := by
  refine ⟨⟨S.gr.f.trans sf, S.gr.h, si, fun b hb q t => Classical.byContradiction fun c => ?_⟩, by rw [List.length_set]; exact S.len, fun j t e => ?_, fun j k t u z w a hjk e1 e2 e3 e4 f1 f2 => ?_, (S.tag.grow sf).setE fun _ z => nomatch z⟩
  · rcases hn b c with d | d
    · exact d (S.gr.n b hb q t)
    · obtain ⟨_, _, _, h3, _⟩ := foot_ok (S.slot hi hy) d
      exact hb h3
  · rcases set_get e with ⟨rfl, rfl⟩ | ⟨c, e⟩
    · exact ⟨y, hy, h⟩
    · obtain ⟨z, g1, g2⟩ := S.ok j t e
      refine ⟨z, g1, g2.frame sf fun a f => ⟨rfl, Classical.byContradiction fun d => ?_⟩⟩
      rcases hn a d with d | d
      · obtain ⟨_, _, h2, _⟩ := foot_ok g2 f
        exact d h2
      · exact S.sep j i t s z y a c e hi g1 hy f d
  · rcases set_get e1 with ⟨_, q1⟩ | ⟨c1, g1⟩
    · rw [q1] at f1; exact f1
    rcases set_get e2 with ⟨_, q2⟩ | ⟨c2, g2⟩
    · rw [q2] at f2; exact f2
    exact S.sep j k t u z w a hjk g1 g2 e3 e4 f1 f2
/-- an own list becomes a datum -/
theorem SR.freeze {K : PySem.W.Frag} {F0 B : Hp} {r : Env} {σ : L2.St} {H F : Hp} (S : SR K F0 B r σ H F) {i : Nat} {xs : List D} (hi : r[i]? = some (.own xs)) :
    ∃ F', Same F F' ∧ SR K F0 B (r.set i (.d (.list xs))) σ H F' := by
  obtain ⟨y, h1, a, vs, rfl, h3, h4, h5, h6⟩ := S.ok i _ hi
  have sf : Same F (upd F a (.lst vs)) := fun b x q => by rw [upd_ne (ne_of_none q h4)]; exact q
  refine ⟨upd F a (.lst vs), sf, S.frzS hi h1 sf (fun b x q => ?_) (fun b q => ?_) ⟨.ref a, rfl, a, vs, rfl, .inl (.inl upd_same), h6.mono sf⟩⟩
  · by_cases c : b = a
    · subst c; rw [upd_same] at q; rw [h3]; exact q
    · rw [upd_ne c] at q; exact S.gr.i b x q
  · by_cases c : b = a
    · subst c; exact .inr rfl
    · rw [upd_ne c] at q; exact .inl q
theorem repKV_ofP {K : PySem.W.Frag} {F : Hp} : ∀ {kvs : List (List Int × D)} {ks : List (List Key × V)}, RepP K F kvs ks → RepKV K F (kvs.map fun p => (.tuple (p.1.map PyData.int), p.2)) ks
  | [], _, h => h
  | (k, d) :: kvs, ks, ⟨v, r, q, h1, h2⟩ => ⟨k, v, r, rfl, q, h1, repKV_ofP h2⟩
/-- an own dict becomes a datum -/
theorem SR.freezeD {K : PySem.W.Frag} {F0 B : Hp} {r : Env} {σ : L2.St} {H F : Hp} (S : SR K F0 B r σ H F) {i : Nat} {kvs : List (List Int × D)} (hi : r[i]? = some (.dct kvs)) :
    ∃ F', Same F F' ∧ SR K F0 B (r.set i (.d (.dict (kvs.map fun p => (.tuple (p.1.map PyData.int), p.2))))) σ H F' := by
  obtain ⟨y, h1, a, ks, rfl, h3, h4, h5, h6⟩ := S.ok i _ hi
  have sf : Same F (upd F a (.dT ks)) := fun b x q => by rw [upd_ne (ne_of_none q h4)]; exact q
  refine ⟨upd F a (.dT ks), sf, S.frzS hi h1 sf (fun b x q => ?_) (fun b q => ?_) ⟨.ref a, rfl, a, rfl, .inr ⟨ks, .inl upd_same, repKV_ofP (RepP.mono sf h6)⟩⟩⟩
  · by_cases c : b = a
    · subst c; rw [upd_same] at q; rw [h3]; exact q
    · rw [upd_ne c] at q; exact S.gr.i b x q
  · by_cases c : b = a
    · subst c; exact .inr rfl
    · rw [upd_ne c] at q; exact .inl q
/-- the own lists of a slot are changed -/
theorem SR.wr {K : PySem.W.Frag} {F0 B : Hp} {r : Env} {σ : L2.St} {H F H' : Hp} (S : SR K F0 B r σ H F) {i : Nat} {s s' : Slot} {y : Option V} (hi : r[i]? = some s) (hy : σ[i]? = some y) (hk : ∀ b, ¬ Foot H s y b → H' b = H b) (h : SlotOk K B H' F s' y) (hf : ∀ b, Foot H' s' y b → Foot H s y b) (hs : ∀ xs, s' ≠ .tg xs) :
    SR K F0 B (r.set i s') σ H' F := by
  have ho := S.slot hi hy
  have fr : ∀ {j : Nat} {t : Slot} {z : Option V}, j ≠ i → r[j]? = some t → σ[j]? = some z → ∀ a, Foot H t z a → H' a = H a := fun c e1 e2 a f => hk a fun d => S.sep _ _ _ _ _ _ a c e1 hi e2 hy f d
  refine ⟨⟨S.gr.f, fun b x q => ?_, fun b x q => ?_, S.gr.n⟩, by rw [List.length_set]; exact S.len, fun j t e => ?_, fun j k t u z w a hjk e1 e2 e3 e4 f1 f2 => ?_, S.tag.setE hs⟩
  · rw [hk b fun d => ?_]
    · exact S.gr.h b x q
    · obtain ⟨_, _, _, h3, _⟩ := foot_ok ho d
      rw [h3] at q; cases q
  · rw [hk b fun d => ?_]
    · exact S.gr.i b x q
    · obtain ⟨_, _, h3, _⟩ := foot_ok ho d
      rw [h3] at q; cases q
  · rcases set_get e with ⟨rfl, rfl⟩ | ⟨c, e⟩
    · exact ⟨y, hy, h⟩
    · obtain ⟨z, g1, g2⟩ := S.ok j t e
      exact ⟨z, g1, g2.frame (Same.refl _) fun a f => ⟨fr c e g1 a f, by obtain ⟨_, _, h3, _⟩ := foot_ok g2 f; exact h3⟩⟩
  · have b1 : ∃ t', r[j]? = some t' ∧ Foot H t' z a := by
      rcases set_get e1 with ⟨c, q1⟩ | ⟨c, g1⟩
      · rw [c] at e3 ⊢
        rw [hy] at e3
        cases e3
        rw [q1] at f1
        exact ⟨s, hi, hf a f1⟩
      · exact ⟨t, g1, f1.back (S.slot g1 e3) (fr c g1 e3)⟩
    have b2 : ∃ u', r[k]? = some u' ∧ Foot H u' w a := by
      rcases set_get e2 with ⟨c, q2⟩ | ⟨c, g2⟩
      · rw [c] at e4 ⊢
        rw [hy] at e4
        cases e4
        rw [q2] at f2
        exact ⟨s, hi, hf a f2⟩
      · exact ⟨u, g2, f2.back (S.slot g2 e4) (fr c g2 e4)⟩
    obtain ⟨t', e5, f5⟩ := b1
    obtain ⟨u', e6, f6⟩ := b2
    exact S.sep j k t' u' z w a hjk e5 e6 e3 e4 f5 f6
/-- an own list is changed -/
theorem SR.write {K : PySem.W.Frag} {F0 B : Hp} {r : Env} {σ : L2.St} {H F : Hp} (S : SR K F0 B r σ H F) {i : Nat} {xs ys : List D} {a : Addr} {us : List V} (hi : r[i]? = some (.own xs)) (ha : σ[i]? = some (some (.ref a))) (h : RepL K F ys us) :
    SR K F0 B (r.set i (.own ys)) σ (upd H a (.lst us)) F := by
  obtain ⟨a', vs, e, h3, h4, h5, h6⟩ := S.slot hi ha
  cases e
  exact S.wr hi ha (fun b c => upd_ne fun z => c (by subst z; rfl)) ⟨a, us, rfl, upd_same, h4, h5, h⟩ (fun b f => f) fun _ z => nomatch z
/-- a list that was passed is changed -/
theorem SR.writeIo {K : PySem.W.Frag} {F0 B : Hp} {r : Env} {σ : L2.St} {H F : Hp} (S : SR K F0 B r σ H F) {i : Nat} {xs ys : List D} {b a : Addr} {us : List V} (hi : r[i]? = some (.io b xs)) (ha : σ[i]? = some (some (.ref a))) (h : RepL K F ys us) :
    SR K F0 B (r.set i (.io b ys)) σ (upd H a (.lst us)) F := by
  obtain ⟨vs, e, h3, h4, h5, h6⟩ := S.slot hi ha
  cases e
  exact S.wr hi ha (fun b c => upd_ne fun z => c (by subst z; rfl)) ⟨us, rfl, upd_same, h4, h5, h⟩ (fun b f => f) fun _ z => nomatch z
theorem nest_rep {K : PySem.W.Frag} {B H F : Hp} : ∀ {xss : List (List D)} {vs : List V}, NestOk K B H F xss vs → ∃ F', Same F F' ∧ (Same F H → Same F' H) ∧ (∀ a, F' a ≠ none → F a ≠ none ∨ V.ref a ∈ vs) ∧ RepL K F' (xss.map PyData.list) vs
  | [], vs, h => ⟨F, Same.refl _, fun e => e, fun _ q => .inl q, h⟩
  | xs :: xss, vs, ⟨b, us, r, q, h1, h2, h3, h4, h5, h6⟩ => by
    obtain ⟨F', e1, e2, e3, e4⟩ := nest_rep h6
    have fb : F' b = none := Classical.byContradiction fun c => by
      rcases e3 b c with d | d
      · exact d h2
      · exact h5 d
    have sf : Same F' (upd F' b (.lst us)) := fun a x q => by rw [upd_ne (ne_of_none q fb)]; exact q
    refine ⟨upd F' b (.lst us), e1.trans sf, fun e a x q => ?_, fun a c => ?_, _, r, q, ⟨b, us, rfl, .inl (.inl upd_same), (h4.mono e1).mono sf⟩, e4.mono sf⟩
    · by_cases c : a = b
      · subst c; rw [upd_same] at q; rw [h1]; exact q
      · rw [upd_ne c] at q; exact e2 e a x q
    · by_cases d : a = b
      · subst d; exact .inr (by rw [q]; exact List.mem_cons_self)
      · rw [upd_ne d] at c
        rcases e3 a c with d | d
        · exact .inl d
        · exact .inr (by rw [q]; exact List.mem_cons_of_mem _ d)
theorem SR.freezeN {K : PySem.W.Frag} {F0 B : Hp} {r : Env} {σ : L2.St} {H F : Hp} (S : SR K F0 B r σ H F) {i : Nat} {xss : List (List D)} (hi : r[i]? = some (.nest xss)) :
    ∃ F', Same F F' ∧ SR K F0 B (r.set i (.d (.list (xss.map PyData.list)))) σ H F' := by
  obtain ⟨y, h1, a, vs, rfl, h3, h4, h5, h6, h7⟩ := S.ok i _ hi
  obtain ⟨F', e1, e2, e3, e4⟩ := nest_rep h7
  have fa : F' a = none := Classical.byContradiction fun c => by
    rcases e3 a c with d | d
    · exact d h4
    · exact h6 d
  have sf : Same F' (upd F' a (.lst vs)) := fun b x q => by rw [upd_ne (ne_of_none q fa)]; exact q
  refine ⟨upd F' a (.lst vs), e1.trans sf, S.frzS hi h1 (e1.trans sf) (fun b x q => ?_) (fun b q => ?_) ⟨.ref a, rfl, a, vs, rfl, .inl (.inl upd_same), e4.mono sf⟩⟩
  · by_cases c : b = a
    · subst c; rw [upd_same] at q; rw [h3]; exact q
    · rw [upd_ne c] at q; exact e2 S.gr.i b x q
  · by_cases c : b = a
    · subst c; exact .inr ⟨b, vs, rfl, h3, .inl rfl⟩
    · rw [upd_ne c] at q
      rcases e3 b q with d | d
      · exact .inl d
      · exact .inr ⟨a, vs, rfl, h3, .inr d⟩
end DL
/-! Readings by data; expressions. -/
namespace DL
open PySem PySem.Spec PyProof.Rows L2

abbrev EC := String → Addr
def ErrOk (K : PySem.W.Frag) (F H : Hp) (e : Err) (dx : Option Addr) : Prop := match e.fld with
  | none => dx = none
  | some (f, x) => ∃ dd v, dx = some dd ∧ F dd = some (.xd [(f, v)]) ∧ Rep K F x v
/-- what is wanted of x, reckoned at the slots σ over F and H -/
def Thn {α : Type} (K : PySem.W.Frag) (ec : EC) (W : WX) (x : R α) (σ : L2.St) (F H : Hp) (P : α → Hp → Hp → Prop) : Prop := match x with
  | none => False
  | some (.error e) => ∀ dx F' H', Gr F H F' H' → ErrOk K F' H' e dx → W (.ref (ec e.cls)) dx σ H'
  | some (.ok a) => ∀ F' H', Gr F H F' H' → P a F' H'
section
variable {α β : Type} {K : PySem.W.Frag} {ec : EC} {W : WX} {σ : L2.St} {F H F1 H1 : Hp} {P P' : α → Hp → Hp → Prop}
theorem Thn.grow {x : R α} (g : Gr F H F1 H1) (h : Thn K ec W x σ F H P) : Thn K ec W x σ F1 H1 P := by
  match x with
  | none => exact h
  | some (.error e) => exact fun dx F' H' g' => h dx F' H' (g.trans g')
  | some (.ok a) => exact fun F' H' g' => h F' H' (g.trans g')
theorem Thn.imp {x : R α} (h : Thn K ec W x σ F H P) (f : ∀ a F' H', x = ok a → Gr F H F' H' → P a F' H' → P' a F' H') : Thn K ec W x σ F H P' := by
  match x with
  | none => exact h
  | some (.error e) => exact h
  | some (.ok a) => exact fun F' H' g' => f a F' H' rfl g' (h F' H' g')
theorem Thn.bind {x : R β} {f : β → R α} (h : Thn K ec W (rb x f) σ F H P) : Thn K ec W x σ F H (fun a F' H' => Thn K ec W (f a) σ F' H' P) := by
  match x with
  | none => exact h
  | some (.error e) => exact h
  | some (.ok a) => exact fun F' H' g' => Thn.grow g' (show Thn K ec W (f a) σ F H P from h)
theorem Thn.ok {a : α} (e : Same F H) (h : Thn K ec W (DL.ok a) σ F H P) : P a F H := h F H (Gr.refl e)
theorem Thn.po {x : Option α} (h : Thn K ec W (po x) σ F H P) : ∃ a, x = some a ∧ ∀ F' H', Gr F H F' H' → P a F' H' := by
  match x with
  | none => exact False.elim h
  | some a => exact ⟨a, rfl, h⟩
end

/-- a datum, an own list too; a datum; a test; a new list; arguments -/
def tX (K : PySem.W.Frag) (ec : EC) (W : WX) (a : EX) : TE := fun σ H Q => ∃ r F F0 B, SR K F0 B r σ H F ∧ Thn K ec W (a r) σ F H fun d F' H' => ∀ v, RepX K F' H' d v → Q v H'
def tD (K : PySem.W.Frag) (ec : EC) (W : WX) (a : EX) : TE := fun σ H Q => ∃ r F F0 B, SR K F0 B r σ H F ∧ Thn K ec W (a r) σ F H fun d F' H' => ∀ v, Rep K F' d v → Q v H'
def tT (K : PySem.W.Frag) (ec : EC) (W : WX) (a : EB) : TT := fun σ H Q => ∃ r F F0 B, SR K F0 B r σ H F ∧ Thn K ec W (a r) σ F H fun b _ H' => Q b H'
def tL (K : PySem.W.Frag) (ec : EC) (W : WX) (a : EL) : TE := fun σ H Q => ∃ r F F0 B, SR K F0 B r σ H F ∧ Thn K ec W (a r) σ F H fun xs F' H' => ∀ p vs, H' p = none → RepL K F' xs vs → Q (.ref p) (upd H' p (.lst vs))
def tAs (K : PySem.W.Frag) (ec : EC) (W : WX) (a : Env → R (List D)) : TA := fun σ H Q => ∃ r F F0 B, SR K F0 B r σ H F ∧ Thn K ec W (a r) σ F H fun ds F' H' => ∀ vs, RepL K F' ds vs → Q vs H'
/-- the same for what is only read -/
def tAsX (K : PySem.W.Frag) (ec : EC) (W : WX) (a : EX) : TA := fun σ H Q => ∃ r F F0 B, SR K F0 B r σ H F ∧ Thn K ec W (a r) σ F H fun d F' H' => ∀ v, RepX K F' H' d v → Q [v] H'

theorem peImp {X : Cx} {e : Expr} {t t' : TE} (h : PE X e t) (f : ∀ σ H Q, t' σ H Q → t σ H Q) : PE X e t' := ⟨fun pins s σ H Q I q => h.run pins s σ H Q I (f σ H Q q)⟩
theorem ptImp {X : Cx} {e : Expr} {t t' : TT} (h : PT X e t) (f : ∀ σ H Q, t' σ H Q → t σ H Q) : PT X e t' := ⟨fun pins s σ H Q I q => h.run pins s σ H Q I (f σ H Q q)⟩
theorem paImp {X : Cx} {e : List Expr} {t t' : TA} (h : PA X e t) (f : ∀ σ H Q, t' σ H Q → t σ H Q) : PA X e t' := ⟨fun pos pins s σ H Q I q => h.run pos pins s σ H Q I (f σ H Q q)⟩

abbrev DX (X : Cx) (ec : EC) (W : WX) (e : Expr) (a : EX) : Prop := PE X e (tX X.K ec W a)
abbrev DE (X : Cx) (ec : EC) (W : WX) (e : Expr) (a : EX) : Prop := PE X e (tD X.K ec W a)
abbrev DB (X : Cx) (ec : EC) (W : WX) (e : Expr) (a : EB) : Prop := PE X e (tD X.K ec W (vB a))
abbrev DT (X : Cx) (ec : EC) (W : WX) (e : Expr) (a : EB) : Prop := PT X e (tT X.K ec W a)
abbrev DLi (X : Cx) (ec : EC) (W : WX) (e : Expr) (a : EL) : Prop := PE X e (tL X.K ec W a)
abbrev DA (X : Cx) (ec : EC) (W : WX) (es : List Expr) (a : Env → R (List D)) : Prop := PA X es (tAs X.K ec W a)

section
variable {X : Cx} {ec : EC} {W : WX} {e b : Expr} {es : List Expr} {pos : Pos} {φ ψ : EX}
/-- a datum may be read -/
theorem DE.x (h : DE X ec W e φ) : DX X ec W e φ := peImp h fun σ H Q ⟨r, F, F0, B, S, q⟩ =>
  ⟨r, F, F0, B, S, q.imp fun d F' H' _ g k v rv => k v (rv.x g.i)⟩
/-- a new list is a datum at once -/
theorem DLi.d {a : EL} (h : DLi X ec W e a) : DE X ec W e (vL a) := peImp h fun σ H Q ⟨r, F, F0, B, S, q⟩ =>
  ⟨r, F, F0, B, S, (Thn.bind (f := fun xs => ok (PyData.list xs)) q).imp fun xs F' H' _ g k p vs hp hv => by
    have g' := Gr.new g.i hp (.lst vs)
    exact k _ _ g' (.ref p) ⟨p, vs, rfl, .inl (.inl upd_same), hv.mono g'.f⟩⟩
/-! ### names, constants -/
theorem de_var (i : Nat) {x : Str} (hN : X.N[i]? = some x := by rfl) (hv : Vis X.env.scope x := by first | exact Or.inl rfl | exact Or.inr (Or.inl rfl) | exact Or.inr (Or.inr rfl)) (hd : (x == ("__debug__" : Str)) = false := by decide)
    (hcd : (x == ("__classdict__" : Str)) = false := by decide) : DE X ec W (.Name x pos) (vVar i) := peImp (pe_var hN hv hd hcd) fun σ H Q ⟨r, F, F0, B, S, q⟩ => by
  unfold vVar at q
  split at q
  · rename_i x' hx
    obtain ⟨y, h1, v, rfl, h2⟩ := S.ok i _ hx
    exact ⟨v, h1, q.ok S.sub v h2⟩
  · rename_i x' hx
    obtain ⟨y, h1, v, rfl, h2⟩ := S.ok i _ hx
    exact ⟨v, h1, q.ok S.sub v h2⟩
  · exact False.elim q
theorem dx_var (i : Nat) {x : Str} (hN : X.N[i]? = some x := by rfl) (hv : Vis X.env.scope x := by first | exact Or.inl rfl | exact Or.inr (Or.inl rfl) | exact Or.inr (Or.inr rfl)) (hd : (x == ("__debug__" : Str)) = false := by decide)
    (hcd : (x == ("__classdict__" : Str)) = false := by decide) : DX X ec W (.Name x pos) (vRd i) := peImp (pe_var hN hv hd hcd) fun σ H Q ⟨r, F, F0, B, S, q⟩ => by
  unfold vRd at q
  split at q
  · rename_i x' hx
    obtain ⟨y, h1, v, rfl, h2⟩ := S.ok i _ hx
    exact ⟨v, h1, q.ok S.sub v (h2.x S.sub)⟩
  · rename_i xs hx
    obtain ⟨y, h1, a, vs, rfl, h2, h3, h4, h5⟩ := S.ok i _ hx
    exact ⟨_, h1, q.ok S.sub _ ⟨a, vs, rfl, .inl (.inl h2), h5⟩⟩
  · rename_i x' hx
    obtain ⟨y, h1, v, rfl, h2⟩ := S.ok i _ hx
    exact ⟨v, h1, q.ok S.sub v (h2.x S.sub)⟩
  · rename_i b xs hx
    obtain ⟨y, h1, vs, rfl, h2, h3, h4, h5⟩ := S.ok i _ hx
    exact ⟨_, h1, q.ok S.sub _ ⟨b, vs, rfl, .inl (.inl h2), h5⟩⟩
  · exact False.elim q
theorem de_int {i j} : DE X ec W (.Constant (.int i) j pos) (vC (.int i)) := peImp pe_int fun σ H Q ⟨r, F, F0, B, S, q⟩ => Thn.ok S.sub (a := PyData.int i) q _ rfl
theorem de_bl {b j} : DE X ec W (.Constant (.bool b) j pos) (vC (.bool b)) := peImp pe_bl fun σ H Q ⟨r, F, F0, B, S, q⟩ => Thn.ok S.sub (a := PyData.bool b) q _ rfl
theorem de_non {j} : DE X ec W (.Constant .none j pos) (vC .none) := peImp pe_non fun σ H Q ⟨r, F, F0, B, S, q⟩ => Thn.ok S.sub (a := PyData.none) q _ rfl
theorem de_str {x j} : DE X ec W (.Constant (.str x) j pos) (vC (.str x)) := peImp pe_str fun σ H Q ⟨r, F, F0, B, S, q⟩ => Thn.ok S.sub (a := PyData.str x) q _ rfl
/-- a module's constant that is a scalar -/
def scalD : V → Option D
  | .non => some .none
  | .bl b => some (.bool b)
  | .int i => some (.int i)
  | .str x => some (.str x)
  | _ => none
theorem scalD_rep {K : PySem.W.Frag} {F : Hp} {v : V} {d : D} (h : scalD v = some d) : Rep K F d v := by
  cases v <;> simp only [scalD] at h <;> first | cases h <;> rfl | cases h
theorem de_glob {x : Str} {v : V} {u : Value} {d : D} (hg : Gl X x) (hm : X.mg x = some u) (r : RelV v u) (hd : scalD v = some d) (hdb : (x == ("__debug__" : Str)) = false := by decide) : DE X ec W (.Name x pos) (vC d) :=
  peImp (pe_glob hg hm r hdb) fun σ H Q ⟨r, F, F0, B, S, q⟩ => Thn.ok S.sub (a := d) q _ (scalD_rep hd)
/-! ### operators -/
def Op1 (K : PySem.W.Frag) (f : D → Option D) (t : V → Hp → VK → Prop) : Prop := ∀ (x d : D) (F H : Hp) (v : V) (Q : VK), f x = some d → Same F H → RepX K F H x v →
  (∀ w F' H', Gr F H F' H' → Rep K F' d w → Q w H') → t v H Q
def Op2 (K : PySem.W.Frag) (f : D → D → Option D) (t : R2) : Prop := ∀ (x y d : D) (F H : Hp) (v u : V) (Q : VK), f x y = some d → Same F H → RepX K F H x v → RepX K F H y u →
  (∀ w F' H', Gr F H F' H' → Rep K F' d w → Q w H') → t v u H Q
def Op2B (K : PySem.W.Frag) (f : D → D → Option Bool) (t : R2) : Prop := ∀ (x y : D) (c : Bool) (F H : Hp) (v u : V) (Q : VK), f x y = some c → Same F H → RepX K F H x v → RepX K F H y u →
  Q (.bl c) H → t v u H Q
theorem use2 {K : PySem.W.Frag} {t : R2} {f : D → D → Option D} (hs : Op2 K f t) {σ : L2.St} {H : Hp} {Q : VK} (h : tD K ec W (v2 f φ ψ) σ H Q) : tOp t (tX K ec W φ) (tX K ec W ψ) σ H Q := by
  obtain ⟨r, F, F0, B, S, q⟩ := h
  refine ⟨r, F, F0, B, S, (Thn.bind q).imp fun x F1 H1 _ g1 h1 v rv => ⟨r, F1, F0, B, S.grow g1, (Thn.bind h1).imp fun y F2 H2 _ g2 h2 u ru => ?_⟩⟩
  obtain ⟨d, ed, k⟩ := h2.po
  exact hs x y d F2 H2 v u Q ed g2.i (rv.mono g2) ru fun w F' H' g' rw' => k F' H' g' w rw'
theorem de_op {op : Operator} {t : R2} {f : D → D → Option D} (ho : OpR X (binaryOp op) t) (hs : Op2 X.K f t) (ha : DX X ec W e φ) (hb : DX X ec W b ψ) : DE X ec W (.BinOp e op b pos) (v2 f φ ψ) :=
  peImp (pe_op ho ha hb) fun _ _ _ h => use2 hs h
theorem de_un {op : UnaryOp} {t : V → Hp → VK → Prop} {f : D → Option D} (ho : UnR X (unaryOp op) t) (hs : Op1 X.K f t) (ha : DX X ec W e φ) : DE X ec W (.UnaryOp op e pos) (v1 f φ) :=
  peImp (pe_un ho ha) fun _ _ _ h => by
    obtain ⟨r, F, F0, B, S, q⟩ := h
    refine ⟨r, F, F0, B, S, (Thn.bind q).imp fun x F1 H1 _ g1 h1 v rv => ?_⟩
    obtain ⟨d, ed, k⟩ := h1.po
    exact hs x d F1 H1 v _ ed g1.i rv fun w F' H' g' rw' => k F' H' g' w rw'
theorem useB {K : PySem.W.Frag} {t : R2} {f : D → D → Option Bool} (hs : Op2B K f t) {σ : L2.St} {H : Hp} {Q : Bool → Hp → Prop} (h : tT K ec W (c2 f φ ψ) σ H Q) :
    tOp t (tX K ec W φ) (tX K ec W ψ) σ H (fun x H' => ∃ c, x = .bl c ∧ Q c H') := by
  obtain ⟨r, F, F0, B, S, q⟩ := h
  refine ⟨r, F, F0, B, S, (Thn.bind q).imp fun x F1 H1 _ g1 h1 v rv => ⟨r, F1, F0, B, S.grow g1, (Thn.bind h1).imp fun y F2 H2 _ g2 h2 u ru => ?_⟩⟩
  obtain ⟨d, ed, k⟩ := h2.po
  exact hs x y d F2 H2 v u _ ed g2.i (rv.mono g2) ru ⟨d, rfl, k F2 H2 (Gr.refl g2.i)⟩
theorem db_cmp {op : CmpOp} {t : R2} {f : D → D → Option Bool} (ho : OpR X (compareOp op) t) (hs : Op2B X.K f t) (ha : DX X ec W e φ) (hb : DX X ec W b ψ) (hm : behindInMarks op b = false) : DB X ec W (.Compare e [op] [b] pos) (c2 f φ ψ) :=
  peImp (pe_cmpR ho ha hb hm) fun σ H Q h => by
    obtain ⟨r, F, F0, B, S, q⟩ := h
    refine ⟨r, F, F0, B, S, (Thn.bind (Thn.bind q)).imp fun x F1 H1 _ g1 h1 v rv => ⟨r, F1, F0, B, S.grow g1, ?_⟩⟩
    have h1' : Thn X.K ec W (rb (ψ r) fun y => po (f x y)) σ F1 H1 _ := h1
    refine (Thn.bind h1').imp fun y F2 H2 _ g2 h2 u ru => ?_
    obtain ⟨d, ed, k⟩ := h2.po
    exact hs x y d F2 H2 v u _ ed g2.i (rv.mono g2) ru (Thn.ok g2.i (a := PyData.bool d) (k F2 H2 (Gr.refl g2.i)) _ rfl)
theorem dt_cmp {op : CmpOp} {t : R2} {f : D → D → Option Bool} (ho : OpR X (compareOp op) t) (hs : Op2B X.K f t) (ha : DX X ec W e φ) (hb : DX X ec W b ψ) (hm : behindInMarks op b = false) : DT X ec W (.Compare e [op] [b] pos) (c2 f φ ψ) :=
  ptImp (pt_cmpR ho ha hb hm) fun _ _ _ h => useB hs h
end
end DL
/-! Tests, arguments, calls, the operators on data. -/
namespace DL
open PySem PySem.Spec PyProof.Rows L2

section
variable {X : Cx} {ec : EC} {W : WX} {e b c : Expr} {es rest : List Expr} {pos : Pos} {φ ψ χ : EX} {α β : EB}
/-! ### truth -/
theorem boolOf {K : PySem.W.Frag} {σ : L2.St} {F H : Hp} {P : Bool → Hp → Hp → Prop} {x : R D} (q : Thn K ec W (rb x fun d => po (dTr d)) σ F H P) : Thn K ec W x σ F H fun d F' H' => ∃ k, d = .bool k ∧ P k F' H' := by
  match x with
  | none => exact q
  | some (.error _) => exact q
  | some (.ok d) =>
    intro F' H' g
    cases d with
    | bool k => exact ⟨k, rfl, (show Thn K ec W (ok k) σ F H P from q) F' H' g⟩
    | _ => exact False.elim q
theorem DE.tr (h : DE X ec W e φ) : DB X ec W e (bTr φ) := peImp h fun σ H Q ⟨r, F, F0, B, S, q⟩ => by
  refine ⟨r, F, F0, B, S, (boolOf (Thn.bind q)).imp fun d F1 H1 _ g1 ⟨k, e, h1⟩ v rv => ?_⟩
  subst e
  exact Thn.ok g1.i (a := PyData.bool k) h1 v rv
theorem DE.test (h : DE X ec W e φ) (he : ∀ whole, isTrue e X.env whole = (do let v ← whole; standAt e.pos; holding [v] (truthy v)) := by intro _; rfl) : DT X ec W e (bTr φ) :=
  ptImp (pt_val h he) fun σ H Q ⟨r, F, F0, B, S, q⟩ => by
    refine ⟨r, F, F0, B, S, (boolOf q).imp fun d F1 H1 _ g1 ⟨k, e, h1⟩ v rv => ?_⟩
    subst e
    exact ⟨k, rv, h1⟩
theorem DB.test (h : DB X ec W e α) (he : ∀ whole, isTrue e X.env whole = (do let v ← whole; standAt e.pos; holding [v] (truthy v)) := by intro _; rfl) : DT X ec W e α :=
  ptImp (pt_val h he) fun σ H Q ⟨r, F, F0, B, S, q⟩ => by
    refine ⟨r, F, F0, B, S, ?_⟩
    have q' : Thn X.K ec W (α r) σ F H fun b _ H' => Q b H' := q
    revert q'
    show Thn _ _ _ (α r) _ _ _ _ → Thn _ _ _ (rb (α r) fun b => ok (PyData.bool b)) _ _ _ _
    match α r with
    | none => exact fun z => z
    | some (.error _) => exact fun z => z
    | some (.ok k) => exact fun z F' H' g v rv => ⟨k, rv, z F' H' g⟩
theorem dt_not (h : DT X ec W e α) : DT X ec W (.UnaryOp .Not e pos) (bNot α) := ptImp (pt_not h) fun σ H Q ⟨r, F, F0, B, S, q⟩ =>
  ⟨r, F, F0, B, S, (Thn.bind q).imp fun k F1 H1 _ g1 h1 => Thn.ok g1.i h1⟩
abbrev DW (X : Cx) (ec : EC) (W : WX) (e : Expr) (a : EB) : Prop := PW X e (tT X.K ec W a)
theorem pwImp {X : Cx} {e : Expr} {t t' : TT} (h : PW X e t) (f : ∀ σ H Q, t' σ H Q → t σ H Q) : PW X e t' := ⟨fun wh pins s σ H Q I q => h.run wh pins s σ H Q I (f σ H Q q)⟩
theorem DW.t (h : DW X ec W e α) : DT X ec W e α := PW.pt h
theorem dw_and1 (h : DT X ec W e α) : DW X ec W (.BoolOp .And [e] pos) α := pw_and1 h
theorem dw_or1 (h : DT X ec W e α) : DW X ec W (.BoolOp .Or [e] pos) α := pw_or1 h
theorem dw_and (ha : DT X ec W e α) (hb : DW X ec W (.BoolOp .And (b :: rest) pos) β) : DW X ec W (.BoolOp .And (e :: b :: rest) pos) (bAnd α β) := pwImp (pw_and ha hb) fun σ H Q ⟨r, F, F0, B, S, q⟩ => by
  refine ⟨r, F, F0, B, S, (Thn.bind q).imp fun k F1 H1 _ g1 h1 => ?_⟩
  cases k with
  | true => exact iteT ⟨r, F1, F0, B, S.grow g1, h1⟩
  | false => exact iteF (Thn.ok g1.i h1)
theorem dw_or (ha : DT X ec W e α) (hb : DW X ec W (.BoolOp .Or (b :: rest) pos) β) : DW X ec W (.BoolOp .Or (e :: b :: rest) pos) (bOr α β) := pwImp (pw_or ha hb) fun σ H Q ⟨r, F, F0, B, S, q⟩ => by
  refine ⟨r, F, F0, B, S, (Thn.bind q).imp fun k F1 H1 _ g1 h1 => ?_⟩
  cases k with
  | true => exact iteT (Thn.ok g1.i h1)
  | false => exact iteF ⟨r, F1, F0, B, S.grow g1, h1⟩
/-! ### truth values -/
theorem db_bind {K : PySem.W.Frag} {σ : L2.St} {F H : Hp} {r : Env} {f : Bool → R Bool} {P : D → Hp → Hp → Prop} (q : Thn K ec W (vB (fun r => rb (α r) f) r) σ F H P) : Thn K ec W (vB α r) σ F H fun d F' H' => ∃ k, d = .bool k ∧ Thn K ec W (rb (f k) fun b => ok (.bool b)) σ F' H' P := by
  revert q
  show Thn _ _ _ (rb (rb (α r) f) fun b => ok (PyData.bool b)) _ _ _ _ → Thn _ _ _ (rb (α r) fun b => ok (PyData.bool b)) _ _ _ _
  match α r with
  | none => exact fun z => z
  | some (.error _) => exact fun z => z
  | some (.ok k) => exact fun z F' H' g => ⟨k, rfl, Thn.grow g z⟩
theorem db_not (h : DB X ec W e α) : DB X ec W (.UnaryOp .Not e pos) (bNot α) := peImp (pe_not h) fun σ H Q ⟨r, F, F0, B, S, q⟩ =>
  ⟨r, F, F0, B, S, (db_bind q).imp fun d F1 H1 _ g1 ⟨k, e, h1⟩ v rv => by
    subst e
    exact ⟨k, rv, Thn.ok g1.i h1 _ rfl⟩⟩
theorem db_one {op : BoolOp} (h : DB X ec W e α) : DB X ec W (.BoolOp op [e] pos) α := pe_one h
theorem db_and (ha : DB X ec W e α) (hb : DB X ec W (.BoolOp .And (b :: rest) pos) β) : DB X ec W (.BoolOp .And (e :: b :: rest) pos) (bAnd α β) := peImp (pe_and ha hb) fun σ H Q ⟨r, F, F0, B, S, q⟩ =>
  ⟨r, F, F0, B, S, (db_bind q).imp fun d F1 H1 _ g1 ⟨k, e, h1⟩ v rv => by
    subst e
    refine ⟨k, rv, ?_⟩
    cases k with
    | true => exact iteT ⟨r, F1, F0, B, S.grow g1, h1⟩
    | false => exact iteF (Thn.ok g1.i (a := PyData.bool false) h1 _ rfl)⟩
theorem db_chain {op op' : CmpOp} {t t' : R2} {f g : D → D → Option Bool} (ho : OpR X (compareOp op) t) (ho' : OpR X (compareOp op') t') (hs : Op2B X.K f t) (hs' : Op2B X.K g t') (ha : DX X ec W e φ) (hb : DX X ec W b ψ) (hc : DX X ec W c χ)
    (hm : lastMarks [op, op'] [b, c] = false := by with_unfolding_all rfl) : DB X ec W (.Compare e [op, op'] [b, c] pos) (bChain f g φ ψ χ) := peImp (pe_chain ho ho' ha hb hc hm) fun σ H Q ⟨r, F, F0, B, S, q⟩ => by
  have q1 : Thn X.K ec W (rb (φ r) fun x => rb (rb (ψ r) fun y => rb (po (f x y)) fun k => if k = true then rb (χ r) fun z => po (g y z) else ok false) fun b => ok (PyData.bool b)) σ F H fun d F' H' => ∀ v, Rep X.K F' d v → Q v H' := by
    have q0 : Thn X.K ec W (rb (rb (φ r) fun x => rb (ψ r) fun y => rb (po (f x y)) fun k => if k = true then rb (χ r) fun z => po (g y z) else ok false) fun b => ok (PyData.bool b)) σ F H fun d F' H' => ∀ v, Rep X.K F' d v → Q v H' := q
    revert q0
    match φ r with
    | none => exact fun z => z
    | some (.error _) => exact fun z => z
    | some (.ok k) => exact fun z => z
  refine ⟨r, F, F0, B, S, (Thn.bind q1).imp fun x F1 H1 _ g1 h1 v rv => ⟨r, F1, F0, B, S.grow g1, ?_⟩⟩
  have h1' : Thn X.K ec W (rb (ψ r) fun y => rb (rb (po (f x y)) fun k => if k = true then rb (χ r) fun z => po (g y z) else ok false) fun b => ok (PyData.bool b)) σ F1 H1 fun d F' H' => ∀ v, Rep X.K F' d v → Q v H' := by
    revert h1
    match ψ r with
    | none => exact fun z => z
    | some (.error _) => exact fun z => z
    | some (.ok k) => exact fun z => z
  refine (Thn.bind h1').imp fun y F2 H2 _ g2 h2 u ru => ?_
  match ef : f x y with
  | none =>
    rw [ef] at h2
    exact False.elim h2
  | some k =>
    rw [ef] at h2
    refine hs x y k F2 H2 v u _ ef g2.i (rv.mono g2) ru ⟨k, rfl, ?_⟩
    cases k with
    | false => exact iteF (Thn.ok g2.i (a := PyData.bool false) h2 _ rfl)
    | true =>
      refine iteT ⟨r, F2, F0, B, (S.grow g1).grow g2, ?_⟩
      have h3 : Thn X.K ec W (rb (rb (χ r) fun z => po (g y z)) fun b => ok (PyData.bool b)) σ F2 H2 fun d F' H' => ∀ v, Rep X.K F' d v → Q v H' := h2
      have h4 : Thn X.K ec W (rb (χ r) fun z => rb (po (g y z)) fun b => ok (PyData.bool b)) σ F2 H2 fun d F' H' => ∀ v, Rep X.K F' d v → Q v H' := by
        revert h3
        match χ r with
        | none => exact fun z => z
        | some (.error _) => exact fun z => z
        | some (.ok k) => exact fun z => z
      refine (Thn.bind h4).imp fun z F3 H3 _ g3 h5 w rw' => ?_
      match eg : g y z with
      | none =>
        rw [eg] at h5
        exact False.elim h5
      | some k =>
        rw [eg] at h5
        exact hs' y z k F3 H3 u w Q eg g3.i (ru.mono g3) rw' (Thn.ok g3.i (a := PyData.bool k) h5 _ rfl)
/-! ### arguments, displays -/
theorem da_nil : DA X ec W [] (vArgs []) := paImp pa_nil fun σ H Q ⟨r, F, F0, B, S, q⟩ => Thn.ok S.sub q [] rfl
theorem da_cons {as : List EX} (ha : DE X ec W e φ) (hr : DA X ec W es (vArgs as)) (hs : starEach (e :: es) X.env = (false, eval e X.env) :: starEach es X.env := by rfl) : DA X ec W (e :: es) (vArgs (φ :: as)) :=
  paImp (pa_cons ha hr hs) fun σ H Q ⟨r, F, F0, B, S, q⟩ =>
    ⟨r, F, F0, B, S, (Thn.bind q).imp fun x F1 H1 _ g1 h1 v rv => ⟨r, F1, F0, B, S.grow g1, (Thn.bind h1).imp fun xs F2 H2 _ g2 h2 vs rs =>
      Thn.ok g2.i h2 (v :: vs) ⟨v, vs, rfl, rv.mono g2.f, rs⟩⟩⟩
theorem vArgs_len {as : List EX} {r : Env} {xs : List D} (h : vArgs as r = ok xs) : xs.length = as.length := by
  induction as generalizing xs with
  | nil =>
    have e : xs = [] := by
      have h' : ok ([] : List D) = ok xs := h
      unfold ok at h'
      simpa using h'.symm
    subst e; rfl
  | cons a as ih =>
    obtain ⟨x, h1, h2⟩ := rb_eq_ok (f := fun x => rb (vArgs as r) fun xs => ok (x :: xs)) h
    obtain ⟨ys, h3, h4⟩ := rb_eq_ok h2
    have e : xs = x :: ys := by
      unfold ok at h4
      simpa using h4.symm
    subst e
    rw [List.length_cons, List.length_cons, ih h3]
theorem de_tup {as : List EX} {x1} (h : DA X ec W es (vArgs as)) (hl : as.length ≤ sizeLine := by decide) : DE X ec W (.Tuple es x1 pos) (vTup as) := peImp (pe_tup h) fun σ H Q ⟨r, F, F0, B, S, q⟩ =>
  ⟨r, F, F0, B, S, (Thn.bind q).imp fun xs F1 H1 ex g1 h1 vs rs => ⟨by rw [rs.length, vArgs_len ex]; exact hl, fun p hp => by
    have g' := Gr.new g1.i hp (.tup vs)
    exact h1 _ _ g' (.ref p) ⟨p, vs, rfl, upd_same, rs.mono g'.f⟩⟩⟩
theorem dl_lst {as : List EX} (h : DA X ec W es (vArgs as)) (hl : as.length ≤ sizeLine := by decide) : DLi X ec W (.List es pos) (vArgs as) := peImp (pe_lst h) fun σ H Q ⟨r, F, F0, B, S, q⟩ =>
  ⟨r, F, F0, B, S, q.imp fun xs F1 H1 ex g1 h1 vs rs => ⟨by rw [rs.length, vArgs_len ex]; exact hl, fun p hp => h1 p vs hp rs⟩⟩
/-! ### a def's promise by data, its call -/
/-- called with data ds it gives f ds, and leaves all that was -/
def spD (K : PySem.W.Frag) (ec : EC) (n : Nat) (f : List D → R D) : Sp := fun vs H Q E => ∃ ds F, ds.length = n ∧ Same F H ∧ RepL K F ds vs ∧
  Thn K ec (fun c d _ H => E c d H) (f ds) [] F H fun d F' H' => ∀ v, Rep K F' d v → Q v H'
theorem spD_len {K : PySem.W.Frag} {n : Nat} {f : List D → R D} {vs : List V} {H : Hp} {Q : VK} {E : XK} (h : spD K ec n f vs H Q E) : vs.length = n := by
  obtain ⟨ds, F, h1, _, h2, _⟩ := h
  rw [h2.length, h1]
theorem de_call {k : Nat} {f : Addr} {fd : FuncData} {ps : List Str} {g : List D → R D} {x : Str} {p : Pos} {as : List EX} {n : Nat} {CX : CXT} (F : FnOk X.prog X.w X.K X.mg X.base CX k f fd ps (spD X.K ec n g)) (hr : Room k X.A) (hg : Gl X x) (hm : X.mg x = some (.ref f)) (hk : PySem.W.keepIn X.K (.ref f) = true) (hb : Binds X.K fd ps [])
    (hx : ∀ σ, PassesAt CX X σ (WE W σ)) (ha : DA X ec W (e :: es) (vArgs as)) (hn : as.length = n := by rfl) (hdb : (x == ("__debug__" : Str)) = false := by decide)
    (he : starEach (e :: es) X.env = (false, eval e X.env) :: starEach es X.env := by rfl) (hpl : (backTo pos (starEach es X.env)).any (·.1) = false := by rfl) : DE X ec W (.Call (.Name x p) (e :: es) [] pos) (vCall g as) :=
  peImp (pe_callS F hr hg hm hk hb hx ha hdb he hpl) fun σ H Q ⟨r, F, F0, B, S, q⟩ =>
    ⟨r, F, F0, B, S, (Thn.bind q).imp fun ds F1 H1 ex g1 h1 vs rs => ⟨ds, F1, by rw [vArgs_len ex]; exact hn, g1.i, rs, by
      revert h1
      match g ds with
      | none => exact fun z => z
      | some (.error _) => exact fun z => z
      | some (.ok k) => exact fun z => z⟩⟩
end
end DL
/-! The operators, the built-ins, subscripts, slices. -/
namespace DL
open PySem PySem.Spec PyProof.Rows L2
def CMulV (i j : Int) : Prop := CMul i j ∨ CMulW i j
theorem op_mulV {X : Cx} : OpR X (binaryOp .Mult) (rI CMulV fun i j => .int (i * j)) := opI fun _ _ _ _ _ _ _ hc q => mul_int q (hc.elim (·.ok) (·.ok))

theorem lim_line {n : Nat} (h : n ≤ lim) : n ≤ sizeLine := h
theorem lim_lt {n : Nat} (h : n < lim) : n < sizeLine := h
section
variable {K : PySem.W.Frag}
/-! ### reading -/
theorem RepX.int {F H : Hp} {i : Int} {v : V} (h : RepX K F H (.int i) v) : v = .int i := h
theorem RepX.bool {F H : Hp} {i : Bool} {v : V} (h : RepX K F H (.bool i) v) : v = .bl i := h
/-- a list or a tuple -/
theorem RepX.seq {F H : Hp} (e : Same F H) {x : D} {ds : List D} {v : V} (h : RepX K F H x v) (hs : seqOf x = some ds) : ∃ a vs, v = .ref a ∧ (SqL K H a vs ∨ SqT K H a vs) ∧ RepL K F ds vs := by
  cases x with
  | list xs =>
    cases hs
    obtain ⟨a, vs, q, h1, h2⟩ := h
    exact ⟨a, vs, q, .inl h1, h2⟩
  | tuple xs =>
    cases hs
    obtain ⟨a, vs, q, h1, h2⟩ := h
    exact ⟨a, vs, q, .inr (tupT e h1), h2⟩
  | _ => cases hs
/-! ### data of the library -/
mutual
theorem Rep.dp {H : Hp} : ∀ {d : D} {v : V}, Rep K H d v → PyData.canLay0 d = true → Dp K H v d
  | .none, _, h, _ => by cases h; exact .non
  | .bool b, _, h, _ => by cases h; exact .bl b
  | .int i, _, h, _ => by cases h; exact .int i
  | .str x, _, h, _ => by cases h; exact .str x
  | .list ds, _, ⟨a, vs, q, h1, h2⟩, c => by
    subst q
    exact .lst h1 (RepL.dp h2 (by simpa [PyData.canLay0] using c))
  | .tuple ds, _, ⟨a, vs, q, h1, h2⟩, c => by
    subst q
    exact .tup (.inl (.inl h1)) (RepL.dp h2 (by simpa [PyData.canLay0] using c))
  | .dict _, _, _, c => by simp [PyData.canLay0] at c
theorem RepL.dp {H : Hp} : ∀ {ds : List D} {vs : List V}, RepL K H ds vs → PyData.canLayAll0 ds = true → DpAll K H vs ds
  | [], _, h, _ => by
    have h' : _ = [] := h
    rw [h']; exact .nil
  | d :: ds, _, ⟨v, r, q, h1, h2⟩, c => by
    have c' : PyData.canLay0 d = true ∧ PyData.canLayAll0 ds = true := by simpa [PyData.canLayAll0] using c
    rw [q]
    exact .cons (Rep.dp h1 c'.1) (RepL.dp h2 c'.2)
end
theorem RepX.dp {F H : Hp} (e : Same F H) {d : D} {v : V} (h : RepX K F H d v) (c : SeqAt.shaped d = true) : Dp K H v d := (h.rep e).dp (SeqAt.canLay_of_shaped c)
/-! ### ints -/
theorem o_sub : Op2 K dSub (fun x y H Q => rI0 (fun i j => .int (i - j)) x y H Q ∨ ∃ b j, x = .bl b ∧ y = .int j ∧ Q (.int ((if b then 1 else 0) - j)) H) := by
  intro x y d F H v u Q hf e rx ry k
  unfold dSub at hf
  split at hf
  · cases hf; exact .inl ⟨_, _, rx, ry, k _ F H (Gr.refl e) rfl⟩
  · cases hf; exact .inr ⟨_, _, rx, ry, k _ F H (Gr.refl e) rfl⟩
  · cases hf
theorem o_mul : Op2 K dMul (rI CMulV fun i j => .int (i * j)) := by
  intro x y d F H v u Q hf e rx ry k
  unfold dMul at hf
  split at hf
  · split at hf
    · rename_i c
      cases hf
      refine ⟨_, _, rx, ry, ?_, k _ F H (Gr.refl e) rfl⟩
      unfold small64 at c
      simp only [Bool.or_eq_true, Bool.and_eq_true, decide_eq_true_eq] at c
      exact .inl c
    · split at hf
      · rename_i c
        cases hf
        exact ⟨_, _, rx, ry, .inr (wide_mul c.1 c.2 (by decide) (by decide) (by decide)), k _ F H (Gr.refl e) rfl⟩
      · cases hf
  · cases hf
theorem o_mod : Op2 K dMod (rI (fun _ j => 0 < j) fun i j => .int (i % j)) := by
  intro x y d F H v u Q hf e rx ry k
  unfold dMod at hf
  split at hf
  · split at hf
    · cases hf; exact ⟨_, _, rx, ry, by assumption, k _ F H (Gr.refl e) rfl⟩
    · cases hf
  · cases hf
theorem o_div : Op2 K dDiv (rI CDiv fun i j => .int (i / j)) := by
  intro x y d F H v u Q hf e rx ry k
  unfold dDiv at hf
  split at hf
  · split at hf
    · cases hf; exact ⟨_, _, rx, ry, by assumption, k _ F H (Gr.refl e) rfl⟩
    · cases hf
  · cases hf
theorem o_pow : Op2 K dPow (rI CPow fun i j => .int (i ^ j.toNat)) := by
  intro x y d F H v u Q hf e rx ry k
  unfold dPow at hf
  split at hf
  · split at hf
    · rename_i c
      cases hf; exact ⟨_, _, rx, ry, ⟨c.1, Int.le_trans c.2.1 (by decide), c.2.2⟩, k _ F H (Gr.refl e) rfl⟩
    · cases hf
  · cases hf
theorem o_neg : Op1 K dNeg (rU fun i => .int (-i)) := by
  intro x d F H v Q hf e rx k
  unfold dNeg at hf
  split at hf
  · cases hf; exact ⟨_, rx, k _ F H (Gr.refl e) rfl⟩
  · cases hf
/-! ### comparisons of ints -/
theorem o_lt : Op2B K cLt (rI0 fun i j => .bl (decide (i < j))) := by
  intro x y c F H v u Q hf e rx ry k
  unfold cLt at hf
  split at hf
  · cases hf; exact ⟨_, _, rx, ry, k⟩
  · cases hf
theorem o_le : Op2B K cLe (rI0 fun i j => .bl (decide (i ≤ j))) := by
  intro x y c F H v u Q hf e rx ry k
  unfold cLe at hf
  split at hf
  · cases hf; exact ⟨_, _, rx, ry, k⟩
  · cases hf
theorem o_gt : Op2B K cGt (rI0 fun i j => .bl (decide (j < i))) := by
  intro x y c F H v u Q hf e rx ry k
  unfold cGt at hf
  split at hf
  · cases hf; exact ⟨_, _, rx, ry, k⟩
  · cases hf
theorem o_ge : Op2B K cGe (rI0 fun i j => .bl (decide (j ≤ i))) := by
  intro x y c F H v u Q hf e rx ry k
  unfold cGe at hf
  split at hf
  · cases hf; exact ⟨_, _, rx, ry, k⟩
  · cases hf
/-! ### == of data -/
/-- two lists that are told apart by their lengths alone, or are both empty -/
def rEqLen (K : PySem.W.Frag) (neg : Bool) : R2 := fun x y H Q => ∃ a b xs ys, x = .ref a ∧ y = .ref b ∧ SqL K H a xs ∧ SqL K H b ys ∧ ((xs.length ≠ ys.length ∧ Q (.bl neg) H) ∨ (xs = [] ∧ ys = [] ∧ Q (.bl (!neg)) H))
theorem op_eqLen {X : Cx} (hu : X.A.units + 65 < cLine) : OpR X (compareOp .Eq) (rEqLen X.K false) := by
  intro pins s σ H x y v u Q I rx ry h
  obtain ⟨a, b, xs, ys, rfl, rfl, ha, hb, h⟩ := h
  cases rx
  cases ry
  obtain ⟨us, r1, p1, _⟩ := I.list ha
  obtain ⟨ws, r2, p2, _⟩ := I.list hb
  have l1 := r1.length
  have l2 := r2.length
  rcases h with ⟨hne, q⟩ | ⟨e1, e2, q⟩
  · exact SeqAt.RcAt.lists_lengths (A := X.A) p1.isList p2.isList (by
      rw [List.size_toArray, List.size_toArray, ← l1, ← l2]
      simpa using hne) (by omega) _ _ _ _ ⟨.bl false, H, I, rfl, q⟩
  · subst e1 e2
    have z1 : us = [] := List.eq_nil_of_length_eq_zero l1.symm
    have z2 : ws = [] := List.eq_nil_of_length_eq_zero l2.symm
    subst z1 z2
    exact SeqAt.RcAt.lists (A := X.A) (e := fun _ => true) p1.isList p2.isList rfl (by omega) (fun j h1 h2 => absurd h1 (Nat.not_lt_zero j)) _ _ _ _ ⟨.bl true, H, I, rfl, q⟩
theorem op_neLen {X : Cx} (hu : X.A.units + 65 < cLine) : OpR X (compareOp .NotEq) (rEqLen X.K true) := by
  intro pins s σ H x y v u Q I rx ry h
  obtain ⟨a, b, xs, ys, rfl, rfl, ha, hb, h⟩ := h
  cases rx
  cases ry
  obtain ⟨us, r1, p1, _⟩ := I.list ha
  obtain ⟨ws, r2, p2, _⟩ := I.list hb
  have l1 := r1.length
  have l2 := r2.length
  rcases h with ⟨hne, q⟩ | ⟨e1, e2, q⟩
  · exact SeqAt.RcNeAt.lists_lengths (A := X.A) p1.isList p2.isList (by
      rw [List.size_toArray, List.size_toArray, ← l1, ← l2]
      simpa using hne) (by omega) _ _ _ _ ⟨.bl true, H, I, rfl, q⟩
  · subst e1 e2
    have z1 : us = [] := List.eq_nil_of_length_eq_zero l1.symm
    have z2 : ws = [] := List.eq_nil_of_length_eq_zero l2.symm
    subst z1 z2
    exact SeqAt.RcNeAt.lists (A := X.A) (e := fun _ => true) p1.isList p2.isList rfl (by omega) (fun j h1 h2 => absurd h1 (Nat.not_lt_zero j)) _ _ _ _ ⟨.bl false, H, I, rfl, q⟩
def rEqQ (K : PySem.W.Frag) : R2 := fun x y H Q => rEqLen K false x y H Q ∨ rEqD K x y H Q
def rNeQ (K : PySem.W.Frag) : R2 := fun x y H Q => rEqLen K true x y H Q ∨ rNeD K x y H Q
theorem op_eqQ {X : Cx} (hu : X.A.units + 65 < cLine) : OpR X (compareOp .Eq) (rEqQ X.K) := (op_eqLen hu).or (op_eqD (by omega))
theorem op_neQ {X : Cx} (hu : X.A.units + 65 < cLine) : OpR X (compareOp .NotEq) (rNeQ X.K) := (op_neLen hu).or (op_neD (by omega))
theorem eqS_dp {x y : D} {c : Bool} {F H : Hp} {v u : V} (hf : eqS x y = some c) (e : Same F H) (rx : RepX K F H x v) (ry : RepX K F H y u) : Dp K H v x ∧ Dp K H u y ∧ SeqAt.shaped x = true ∧ SeqAt.shaped y = true ∧ c = PyData.eqv x y := by
  unfold eqS at hf
  split at hf
  · rename_i h
    cases hf
    rw [Bool.and_eq_true] at h
    exact ⟨rx.dp e h.1, ry.dp e h.2, h.1, h.2, rfl⟩
  · cases hf
theorem eq_any {x y : D} {c : Bool} {F H : Hp} {v u : V} (hf : cEq x y = some c) (e : Same F H) (rx : RepX K F H x v) (ry : RepX K F H y u) :
    (∃ a b xs ys, v = .ref a ∧ u = .ref b ∧ SqL K H a xs ∧ SqL K H b ys ∧ ((xs.length ≠ ys.length ∧ c = false) ∨ (xs = [] ∧ ys = [] ∧ c = true))) ∨ (Dp K H v x ∧ Dp K H u y ∧ SeqAt.shaped x = true ∧ SeqAt.shaped y = true ∧ c = PyData.eqv x y) := by
  unfold cEq at hf
  split at hf
  · rename_i xs ys
    obtain ⟨a, vs, rfl, h1, h2⟩ := id rx
    obtain ⟨b, us, rfl, h3, h4⟩ := id ry
    split at hf
    · rename_i hl
      split at hf
      · rename_i hz
        cases hf
        have z1 : vs = [] := List.eq_nil_of_length_eq_zero (by rw [h2.length, hz])
        have z2 : us = [] := List.eq_nil_of_length_eq_zero (by rw [h4.length, ← hl, hz])
        exact .inl ⟨a, b, vs, us, rfl, rfl, h1, h3, .inr ⟨z1, z2, rfl⟩⟩
      · exact .inr (eqS_dp hf e rx ry)
    · rename_i hl
      cases hf
      exact .inl ⟨a, b, vs, us, rfl, rfl, h1, h3, .inl ⟨by rw [h2.length, h4.length]; exact hl, rfl⟩⟩
  · exact .inr (eqS_dp hf e rx ry)
theorem o_eqQ : Op2B K cEq (rEqQ K) := by
  intro x y c F H v u Q hf e rx ry k
  rcases eq_any hf e rx ry with ⟨a, b, xs, ys, e1, e2, h1, h2, h⟩ | ⟨h1, h2, h3, h4, rfl⟩
  · refine .inl ⟨a, b, xs, ys, e1, e2, h1, h2, ?_⟩
    rcases h with ⟨h, rfl⟩ | ⟨h, h', rfl⟩
    · exact .inl ⟨h, k⟩
    · exact .inr ⟨h, h', k⟩
  · exact .inr ⟨x, y, h1, h2, h3, h4, k⟩
theorem o_neQ : Op2B K cNe (rNeQ K) := by
  intro x y c F H v u Q hf e rx ry k
  unfold cNe at hf
  obtain ⟨c', hc, rfl⟩ := Option.map_eq_some_iff.mp hf
  rcases eq_any hc e rx ry with ⟨a, b, xs, ys, e1, e2, h1, h2, h⟩ | ⟨h1, h2, h3, h4, rfl⟩
  · refine .inl ⟨a, b, xs, ys, e1, e2, h1, h2, ?_⟩
    rcases h with ⟨h, rfl⟩ | ⟨h, h', rfl⟩
    · exact .inl ⟨h, k⟩
    · exact .inr ⟨h, h', k⟩
  · exact .inr ⟨x, y, h1, h2, h3, h4, k⟩
/-! ### in, not in -/
def rInS (K : PySem.W.Frag) (neg : Bool) : R2 := fun x y H Q => ∃ d e ds, Dp K H x d ∧ Dp K H y e ∧ seqOf e = some ds ∧ SeqAt.shaped d = true ∧ SeqAt.shaped e = true ∧ Q (.bl (if neg then !(ds.any fun z => PyData.eqv z d) else ds.any fun z => PyData.eqv z d)) H
theorem op_notInS2 {X : Cx} (hu : X.A.units + 65 < cLine) : OpR X (compareOp .NotIn) (rInS X.K true) := by
  intro pins s σ H x y v u Q I rx ry h
  obtain ⟨d, e, ds, hd, he, hs, sd, se, q⟩ := h
  obtain ⟨as, r1⟩ := Dp.reads I d x v hd rx
  cases e with
  | list es =>
    cases hs
    obtain ⟨bs, r2⟩ := Dp.reads I _ y u he ry
    exact SeqAt.notIn_list_reads r2 r1 (SeqAt.canLay_of_shaped se) (SeqAt.canLay_of_shaped sd) (room_in_shaped sd hu) ⟨.bl _, H, I, rfl, q⟩
  | tuple es =>
    cases hs
    obtain ⟨bs, r2⟩ := Dp.reads I _ y u he ry
    exact SeqAt.notIn_tuple_reads r2 r1 (SeqAt.canLay_of_shaped se) (SeqAt.canLay_of_shaped sd) (room_in_shaped sd hu) ⟨.bl _, H, I, rfl, q⟩
  | _ => cases hs
theorem o_notIn : Op2B K cNotIn (rInS K true) := by
  intro x y c F H v u Q hf e rx ry k
  unfold cNotIn at hf
  split at hf
  · rename_i ds hs
    split at hf
    · rename_i h
      cases hf
      rw [Bool.and_eq_true] at h
      exact ⟨x, y, ds, rx.dp e h.1, ry.dp e h.2, hs, h.1, h.2, k⟩
    · cases hf
  · cases hf
/-! ### is: against a bool or None -/
theorem cIsNone_v {F H : Hp} {x : D} {v : V} (rx : RepX K F H x v) : cIsNone x = some (decide (v = .non)) := by
  cases x with
  | none => rw [show v = V.non from rx]; rfl
  | bool b => rw [show v = V.bl b from rx]; rfl
  | int i => rw [show v = V.int i from rx]; rfl
  | str z => rw [show v = V.str z from rx]; rfl
  | list ds => obtain ⟨a, vs, q, _⟩ := rx; rw [q]; rfl
  | tuple ds => obtain ⟨a, vs, q, _⟩ := rx; rw [q]; rfl
  | dict ks => obtain ⟨a, q, _⟩ := rx; rw [q]; rfl
def rIsA : R2 := fun x y H Q => (y = .non ∧ Q (.bl (decide (x = .non))) H) ∨ rIsB x y H Q
theorem op_isA {X : Cx} : OpR X (compareOp .Is) rIsA := op_isN.or op_isBl
theorem o_is : Op2B K cIs rIsA := by
  intro x y c F H v u Q hf e rx ry k
  unfold cIs at hf
  split at hf
  · rename_i b
    refine .inr ?_
    unfold cIsB at hf
    split at hf
    · cases hf; exact ⟨_, _, rx, ry, k⟩
    · cases hf
  · rw [cIsNone_v rx] at hf
    cases hf
    exact .inl ⟨ry, k⟩
  · cases hf
/-! ### + -/
def rAddB : R2 := fun x y H Q => ∃ b j, x = .bl b ∧ y = .int j ∧ Q (.int ((if b then 1 else 0) + j)) H
def rSubB : R2 := fun x y H Q => ∃ b j, x = .bl b ∧ y = .int j ∧ Q (.int ((if b then 1 else 0) - j)) H
theorem op_addB {X : Cx} : OpR X (binaryOp .Add) rAddB := by
  intro pins s σ H x y v u Q I rx ry h
  obtain ⟨b, j, rfl, rfl, q⟩ := h
  cases (show v = Value.bool b from rx)
  obtain ⟨t, rfl⟩ := ry
  exact IntBool.add_bool_int ⟨.int _, H, I.tok _, ⟨_, rfl⟩, q⟩
theorem op_subB {X : Cx} : OpR X (binaryOp .Sub) rSubB := by
  intro pins s σ H x y v u Q I rx ry h
  obtain ⟨b, j, rfl, rfl, q⟩ := h
  cases (show v = Value.bool b from rx)
  obtain ⟨t, rfl⟩ := ry
  exact IntBool.sub_bool_int ⟨.int _, H, I.tok _, ⟨_, rfl⟩, q⟩
/-- list + list, any two that are read -/
theorem list_add_any (l : Addr) (items : Array Value) (n : Nat) (b : Addr) (items2 : Array Value) (n2 : Nat) (sl sl2 : Array (Option Value)) (hc0 : items.size + items2.size ≤ sizeLine) :
    Meets (Builtin.«list.__add__» ⟨[.ref l, .ref b], []⟩) (fun _ R s => s.heap.get? l = some { cls := .type "list", dict := none, data := .seq items n, slots := sl } ∧ s.heap.get? b = some { cls := .type "list", dict := none, data := .seq items2 n2, slots := sl2 } ∧ R (.ok (.ret (Value.ref s.heap.objs.size))) { s with heap := s.heap.push { cls := Value.type "list", data := Data.seq (items ++ items2) }, toks := s.toks }) :=
  .of_wp fun prog w A R s h => by obtain ⟨hp, g, d, tk, os⟩ := s; obtain ⟨hl, hb, h⟩ := h; have f1 := AutoSeq1.idx_int; have f2 := AutoSeq1.sub_tuple_tuple; have f3 := AutoSeq1.sub_list_list; have f4 := AutoSeq1.sub_tuple_list; have f5 := AutoSeq1.sub_list_tuple; wp_walk using AutoSeq1.wpAny_loadPart' hl, AutoSeq1.wpAny_loadPart' hb; exact ⟨_, rfl, h⟩
def rCatL (K : PySem.W.Frag) : R2 := fun x y H Q => ∃ l b xs zs, x = .ref l ∧ y = .ref b ∧ SqL K H l xs ∧ SqL K H b zs ∧ xs.length + zs.length ≤ sizeLine ∧ ∀ p, H p = none → Q (.ref p) (upd H p (.lst (xs ++ zs)))
theorem op_catL {X : Cx} : OpR X (binaryOp .Add) (rCatL X.K) := by
  intro pins s σ H x y v u Q I rx ry h
  obtain ⟨l, b, xs, zs, rfl, rfl, hA, hB, hz, q⟩ := h
  cases rx
  cases ry
  obtain ⟨its, r, ⟨o, n, ho, hc, hd, hs⟩, hl⟩ := I.list hA
  obtain ⟨its2, r2, ⟨o2, n2, ho2, hc2, hd2, hs2⟩, hl2⟩ := I.list hB
  obtain ⟨oc, od, odt, osl⟩ := o
  obtain ⟨oc2, od2, odt2, osl2⟩ := o2
  simp only at hc hd hs hc2 hd2 hs2
  subst hc hd hs hc2 hd2 hs2
  have e1 := r.length
  have e2 := r2.length
  refine concat_meets ⟨_, ho, rfl⟩ ⟨_, ho2, rfl⟩ noFill_list_add seq_list_add PySem.F.slot_list_add PySem.F.entry_list_add (PySem.F.args_list_add_2 _ _) (list_add_any l its.toArray n b its2.toArray n2 osl osl2 (by rw [List.size_toArray, List.size_toArray]; omega)) ⟨ho, ho2, ?_⟩
  have ea : its.toArray ++ its2.toArray = (its ++ its2).toArray := by simp
  rw [ea]
  exact ⟨.ref _, _, I.lnew (t' := s.toks) (r.append r2) (by rw [List.length_append]; omega), rfl, q _ I.fresh⟩
def rAddA (K : PySem.W.Frag) : R2 := fun x y H Q => rI0 (fun i j => .int (i + j)) x y H Q ∨ rAddB x y H Q ∨ rCatL K x y H Q ∨ rCatA K x y H Q
theorem op_addA {X : Cx} : OpR X (binaryOp .Add) (rAddA X.K) := op_add.or (op_addB.or (op_catL.or op_catA))
theorem o_add : Op2 K dAdd (rAddA K) := by
  intro x y d F H v u Q hf e rx ry k
  unfold dAdd at hf
  split at hf
  · cases hf; exact .inl ⟨_, _, rx, ry, k _ F H (Gr.refl e) rfl⟩
  · cases hf; exact .inr (.inl ⟨_, _, rx, ry, k _ F H (Gr.refl e) rfl⟩)
  · rename_i xs ys
    unfold asList at hf
    split at hf
    · rename_i hl
      cases hf
      obtain ⟨a, vs, rfl, h1, h2⟩ := rx
      obtain ⟨b, us, rfl, h3, h4⟩ := ry
      have hlen : vs.length + us.length ≤ sizeLine := by
        rw [h2.length, h4.length, ← List.length_append]; exact hl
      refine .inr (.inr (.inr ⟨a, b, vs, us, rfl, rfl, tupT e h1, tupT e h3, hlen, fun z => ?_, fun _ z => ?_, fun _ _ p hp => ?_⟩))
      · have z' : xs = [] := by
          have l := h2.length
          rw [z] at l
          exact List.eq_nil_of_length_eq_zero l.symm
        subst z'
        exact k _ F H (Gr.refl e) ⟨b, us, rfl, h3, h4⟩
      · have z' : ys = [] := by
          have l := h4.length
          rw [z] at l
          exact List.eq_nil_of_length_eq_zero l.symm
        subst z'
        rw [List.append_nil] at k
        exact k _ F H (Gr.refl e) ⟨a, vs, rfl, h1, h2⟩
      · have g' := Gr.new e hp (.tup (vs ++ us))
        exact k _ _ _ g' ⟨p, vs ++ us, rfl, upd_same, (h2.append h4).mono g'.f⟩
    · cases hf
  · rename_i xs ys
    unfold asList at hf
    split at hf
    · rename_i hl
      cases hf
      obtain ⟨a, vs, rfl, h1, h2⟩ := rx
      obtain ⟨b, us, rfl, h3, h4⟩ := ry
      have hlen : vs.length + us.length ≤ sizeLine := by
        rw [h2.length, h4.length, ← List.length_append]; exact hl
      refine .inr (.inr (.inl ⟨a, b, vs, us, rfl, rfl, h1, h3, hlen, fun p hp => ?_⟩))
      have g' := Gr.new e hp (.lst (vs ++ us))
      exact k _ _ _ g' ⟨p, vs ++ us, rfl, .inl (.inl upd_same), (h2.append h4).mono g'.f⟩
    · cases hf
  · cases hf
theorem op_subA {X : Cx} : OpR X (binaryOp .Sub) (fun x y H Q => rI0 (fun i j => .int (i - j)) x y H Q ∨ rSubB x y H Q) := op_sub.or op_subB
theorem atD_get {xs : List D} {i : Int} {d : D} (h : atD xs i = some d) : ∃ j, ixN xs.length i = some j ∧ xs[j]? = some d := by
  unfold atD at h
  split at h
  · rename_i j hj
    split at h
    · rename_i x hx
      cases h
      exact ⟨j, hj, hx⟩
    · cases h
  · cases h
theorem RepL.atI {F : Hp} {xs : List D} {vs : List V} {i : Int} {d : D} (h : RepL K F xs vs) (hd : atD xs i = some d) : ∃ v, L2.atI vs i = some v ∧ Rep K F d v := by
  obtain ⟨j, h1, h2⟩ := atD_get hd
  obtain ⟨v, h3, h4⟩ := h.get h2
  refine ⟨v, ?_, h4⟩
  unfold L2.atI
  rw [h.length, h1]
  exact h3
theorem o_ix : Op2 K dIx (fun x y H Q => rIxL K x y H Q ∨ rIxT K x y H Q) := by
  intro x y d F H v u Q hf e rx ry k
  unfold dIx at hf
  split at hf
  · rename_i xs i
    obtain ⟨a, vs, rfl, h1, h2⟩ := rx
    obtain ⟨w, h3, h4⟩ := h2.atI hf
    exact .inl ⟨a, vs, i, w, rfl, ry, h1, h3, k _ F H (Gr.refl e) h4⟩
  · rename_i xs i
    obtain ⟨a, vs, rfl, h1, h2⟩ := rx
    obtain ⟨w, h3, h4⟩ := h2.atI hf
    exact .inr ⟨a, vs, i, w, rfl, ry, tupT e h1, h3, k _ F H (Gr.refl e) h4⟩
  · cases hf
  · cases hf
end
section
variable {X : Cx} {ec : EC} {W : WX} {e b c : Expr} {es rest : List Expr} {pos : Pos} {φ ψ χ : EX} {α β : EB}
theorem de_ix (ha : DX X ec W e φ) (hb : DX X ec W b ψ) (hs : PlainIx b := by exact fun _ _ => rfl) : DE X ec W (.Subscript e b pos) (v2 dIx φ ψ) := peImp (pe_ix (ix_list.or ix_tup) ha hb hs) fun _ _ _ h => use2 o_ix h
theorem po_part {K : PySem.W.Frag} {σ : L2.St} {F H : Hp} {P : Option Int → Hp → Hp → Prop} {r : Env} {a : EX} (q : Thn K ec W (vOpt (some a) r) σ F H P) : Thn K ec W (a r) σ F H fun d F' H' => ∃ i, d = .int i ∧ P (some i) F' H' := by
  have q' : Thn K ec W (rb (a r) fun x => match x with | .int i => ok (some i) | _ => none) σ F H P := q
  revert q'
  match a r with
  | none => exact fun z => z
  | some (.error _) => exact fun z => z
  | some (.ok d) =>
    intro z F' H' g
    cases d with
    | int i => exact ⟨i, rfl, (show Thn K ec W (ok (some i)) σ F H P from z) F' H' g⟩
    | _ => exact False.elim z
/-- a part of a slice: none, or an int -/
inductive DO (X : Cx) (ec : EC) (W : WX) : Option Expr → Option EX → Prop where
  | non : DO X ec W none none
  | som {e : Expr} {a : EX} (h : DX X ec W e a) : DO X ec W (some e) (some a)
def tO (K : PySem.W.Frag) (ec : EC) (W : WX) (a : Option EX) : TO := fun σ H Q => ∃ r F F0 B, SR K F0 B r σ H F ∧ Thn K ec W (vOpt a r) σ F H fun o F' H' => Q o H'
theorem DO.po {o : Option Expr} {a : Option EX} (h : DO X ec W o a) : PO X o (tO X.K ec W a) := by
  cases h with
  | non => exact ⟨fun pins s σ H Q I ⟨r, F, F0, B, S, q⟩ => po_none.run pins s σ H Q I (Thn.ok S.sub q)⟩
  | som h => exact ⟨fun pins s σ H Q I ⟨r, F, F0, B, S, q⟩ => (po_some h).run pins s σ H Q I ⟨r, F, F0, B, S, (po_part q).imp fun d F1 H1 _ g1 ⟨i, ei, h1⟩ v rv => by
      subst ei
      exact ⟨i, rv, h1⟩⟩⟩
end
end DL
/-! Slices, built-ins. -/
namespace DL
open PySem PySem.Spec PyProof.Rows L2

theorem cutAt_sIx (n d : Nat) (i : Option Int) : cutAt n d i = HT.sIx n d i := by cases i <;> rfl
section
variable {X : Cx} {ec : EC} {W : WX} {e b c : Expr} {es rest : List Expr} {pos p2 : Pos} {φ ψ χ : EX} {α β : EB} {lo hi : Option Expr} {ol oh : Option EX}
theorem de_cut (ha : DX X ec W e φ) (hl : DO X ec W lo ol) (hh : DO X ec W hi oh) : DE X ec W (.Subscript e (.Slice lo hi none p2) pos) (vCut φ ol oh) := peImp (pe_slice (sl_list.or sl_tupA) ha hl.po hh.po) fun σ H Q ⟨r, F, F0, B, S, q⟩ => by
  refine ⟨r, F, F0, B, S, (Thn.bind q).imp fun x F1 H1 ex1 g1 h1 v rv => ⟨r, F1, F0, B, S.grow g1, (Thn.bind h1).imp fun i F2 H2 ex2 g2 h2 => ⟨r, F2, F0, B, (S.grow g1).grow g2, (Thn.bind h2).imp fun j F3 H3 ex3 g3 h3 => ?_⟩⟩⟩
  obtain ⟨d, ed, k⟩ := h3.po
  have rv3 := (rv.mono g2).mono g3
  unfold dCut at ed
  split at ed
  · cases ed
    obtain ⟨a, vs, rfl, h4, h5⟩ := rv3
    refine .inl ⟨a, vs, rfl, h4, fun p hp => ?_⟩
    have g' := Gr.new g3.i hp (.lst (cutV vs i j))
    exact k _ _ g' _ ⟨p, _, rfl, .inl (.inl upd_same), (h5.cut i j).mono g'.f⟩
  · rename_i xs
    cases ed
    obtain ⟨a, vs, rfl, h4, h5⟩ := rv3
    refine .inr ⟨a, vs, rfl, tupT g3.i h4, fun z => ?_, fun _ p hp => ?_⟩
    · have e1 : cutV vs i j = vs := by
        unfold cutV
        rw [z.1, z.2, List.drop_zero, Nat.sub_zero, List.take_length]
      have e2 : cutD xs i j = xs := by
        unfold cutD
        rw [cutAt_sIx, cutAt_sIx, ← h5.length, z.1, z.2, List.drop_zero, Nat.sub_zero, h5.length, List.take_length]
      rw [e2] at k
      exact k F3 H3 (Gr.refl g3.i) _ ⟨a, vs, rfl, h4, h5⟩
    · have g' := Gr.new g3.i hp (.tup (cutV vs i j))
      exact k _ _ g' _ ⟨p, _, rfl, upd_same, (h5.cut i j).mono g'.f⟩
  · cases ed
/-! ### calls of built-ins -/
theorem pa1 (ha : DX X ec W e φ) (hs : starEach [e] X.env = (false, eval e X.env) :: starEach [] X.env := by rfl) : PA X [e] (tAsX X.K ec W φ) := paImp (pa_cons ha pa_nil hs) fun σ H Q ⟨r, F, F0, B, S, q⟩ => ⟨r, F, F0, B, S, q⟩
abbrev RV := List V → Hp → VK → Prop
def B1 (K : PySem.W.Frag) (f : D → Option D) (t : RV) : Prop := ∀ (x d : D) (F H : Hp) (v : V) (Q : VK), f x = some d → Same F H → RepX K F H x v → (∀ w F' H', Gr F H F' H' → Rep K F' d w → Q w H') → t [v] H Q
def B1B (K : PySem.W.Frag) (f : D → Option Bool) (t : RV) : Prop := ∀ (x : D) (c : Bool) (F H : Hp) (v : V) (Q : VK), f x = some c → Same F H → RepX K F H x v → Q (.bl c) H → t [v] H Q
def B1L (K : PySem.W.Frag) (f : D → Option (List D)) (t : RV) : Prop := ∀ (x : D) (xs : List D) (F H : Hp) (v : V) (Q : VK), f x = some xs → Same F H → RepX K F H x v → (∀ p vs, H p = none → RepL K F xs vs → Q (.ref p) (upd H p (.lst vs))) → t [v] H Q
def B2 (K : PySem.W.Frag) (f : D → D → Option D) (t : RV) : Prop := ∀ (x y d : D) (F H : Hp) (v u : V) (Q : VK), f x y = some d → Same F H → RepX K F H x v → RepX K F H y u → (∀ w F' H', Gr F H F' H' → Rep K F' d w → Q w H') → t [v, u] H Q
section
variable {x : Str} {id T : String} {t : RV} {p : Pos}
theorem b1_use {K : PySem.W.Frag} {f : D → Option D} (hs : B1 K f t) {σ : L2.St} {H : Hp} {Q : VK} (h : tD K ec W (v1 f φ) σ H Q) : tCB t (tAsX K ec W φ) σ H Q := by
  obtain ⟨r, F, F0, B, S, q⟩ := h
  refine ⟨r, F, F0, B, S, (Thn.bind q).imp fun x F1 H1 _ g1 h1 v rv => ?_⟩
  obtain ⟨d, ed, k⟩ := h1.po
  exact hs x d F1 H1 v Q ed g1.i rv fun w F' H' g' rw' => k F' H' g' w rw'
theorem b1B_use {K : PySem.W.Frag} {f : D → Option Bool} (hs : B1B K f t) {σ : L2.St} {H : Hp} {Q : VK} (h : tD K ec W (vB (c1 f φ)) σ H Q) : tCB t (tAsX K ec W φ) σ H Q := by
  obtain ⟨r, F, F0, B, S, q⟩ := h
  have q1 : Thn K ec W (rb (φ r) fun x => rb (po (f x)) fun b => ok (PyData.bool b)) σ F H fun d F' H' => ∀ v, Rep K F' d v → Q v H' := by
    have q0 : Thn K ec W (rb (rb (φ r) fun x => po (f x)) fun b => ok (PyData.bool b)) σ F H fun d F' H' => ∀ v, Rep K F' d v → Q v H' := q
    revert q0
    match φ r with
    | none => exact fun z => z
    | some (.error _) => exact fun z => z
    | some (.ok k) => exact fun z => z
  refine ⟨r, F, F0, B, S, (Thn.bind q1).imp fun x F1 H1 _ g1 h1 v rv => ?_⟩
  match ef : f x with
  | none =>
    rw [ef] at h1
    exact False.elim h1
  | some d =>
    rw [ef] at h1
    exact hs x d F1 H1 v Q ef g1.i rv (Thn.ok g1.i (a := PyData.bool d) h1 _ rfl)
theorem b1L_use {K : PySem.W.Frag} {f : D → Option (List D)} (hs : B1L K f t) {σ : L2.St} {H : Hp} {Q : VK} (h : tL K ec W (l1 f φ) σ H Q) : tCB t (tAsX K ec W φ) σ H Q := by
  obtain ⟨r, F, F0, B, S, q⟩ := h
  refine ⟨r, F, F0, B, S, (Thn.bind q).imp fun x F1 H1 _ g1 h1 v rv => ?_⟩
  obtain ⟨d, ed, k⟩ := h1.po
  exact hs x d F1 H1 v Q ed g1.i rv fun p vs hp hv => k F1 H1 (Gr.refl g1.i) p vs hp hv
variable (hg : Gl X x) (hm : X.mg x = none)
theorem de_b1 {f : D → Option D} (hc : CallR X (.builtin id) t) (hs : B1 X.K f t) (hg : Gl X x) (hm : X.mg x = none) (ha : DX X ec W e φ) (hv : bootBuiltins x = some (.builtin id)) (hn : x ≠ "__name__" := by decide) (hdb : (x == ("__debug__" : Str)) = false := by decide)
    (he : starEach [e] X.env = (false, eval e X.env) :: starEach [] X.env := by rfl) : DE X ec W (.Call (.Name x p) [e] [] pos) (v1 f φ) := peImp (pe_callB hc hg hm hv (pa1 ha he) hn hdb he (by rfl)) fun _ _ _ h => b1_use hs h
theorem db_b1 {f : D → Option Bool} (hc : CallR X (.builtin id) t) (hs : B1B X.K f t) (hg : Gl X x) (hm : X.mg x = none) (ha : DX X ec W e φ) (hv : bootBuiltins x = some (.builtin id)) (hn : x ≠ "__name__" := by decide) (hdb : (x == ("__debug__" : Str)) = false := by decide)
    (he : starEach [e] X.env = (false, eval e X.env) :: starEach [] X.env := by rfl) : DB X ec W (.Call (.Name x p) [e] [] pos) (c1 f φ) := peImp (pe_callB hc hg hm hv (pa1 ha he) hn hdb he (by rfl)) fun _ _ _ h => b1B_use hs h
theorem de_t1 {f : D → Option D} (hc : CallR X (.type T) t) (hs : B1 X.K f t) (hg : Gl X x) (hm : X.mg x = none) (ha : DX X ec W e φ) (hv : bootBuiltins x = some (.type T)) (hn : x ≠ "__name__" := by decide) (hdb : (x == ("__debug__" : Str)) = false := by decide)
    (he : starEach [e] X.env = (false, eval e X.env) :: starEach [] X.env := by rfl) : DE X ec W (.Call (.Name x p) [e] [] pos) (v1 f φ) := peImp (pe_callTy hc hg hm hv (pa1 ha he) hn hdb he (by rfl)) fun _ _ _ h => b1_use hs h
theorem dl_t1 {f : D → Option (List D)} (hc : CallR X (.type T) t) (hs : B1L X.K f t) (hg : Gl X x) (hm : X.mg x = none) (ha : DX X ec W e φ) (hv : bootBuiltins x = some (.type T)) (hn : x ≠ "__name__" := by decide) (hdb : (x == ("__debug__" : Str)) = false := by decide)
    (he : starEach [e] X.env = (false, eval e X.env) :: starEach [] X.env := by rfl) : DLi X ec W (.Call (.Name x p) [e] [] pos) (l1 f φ) := peImp (pe_callTy hc hg hm hv (pa1 ha he) hn hdb he (by rfl)) fun _ _ _ h => b1L_use hs h
end
end
section
variable {K : PySem.W.Frag}
def rLen (K : PySem.W.Frag) : RV := fun xs H Q => ∃ p ys, xs = [.ref p] ∧ (SqL K H p ys ∨ SqT K H p ys) ∧ Q (.int ys.length) H
theorem b_len : B1 K dLen (rLen K) := by
  intro x d F H v Q hf e rx k
  unfold dLen at hf
  split at hf
  · cases hf
    obtain ⟨a, vs, rfl, h1, h2⟩ := rx
    exact ⟨a, vs, rfl, .inl h1, by rw [h2.length]; exact k _ F H (Gr.refl e) rfl⟩
  · cases hf
    obtain ⟨a, vs, rfl, h1, h2⟩ := rx
    exact ⟨a, vs, rfl, .inr (tupT e h1), by rw [h2.length]; exact k _ F H (Gr.refl e) rfl⟩
  · cases hf
def rInt1 : RV := fun xs H Q => (∃ i, xs = [.int i] ∧ Q (.int i) H) ∨ ∃ k, xs = [.bl k] ∧ Q (.int (if k then 1 else 0)) H
theorem b_int : B1 K dInt rInt1 := by
  intro x d F H v Q hf e rx k
  unfold dInt at hf
  split at hf
  · cases hf; exact .inl ⟨_, by rw [show v = _ from rx], k _ F H (Gr.refl e) rfl⟩
  · cases hf; exact .inr ⟨_, by rw [show v = _ from rx], k _ F H (Gr.refl e) rfl⟩
  · cases hf
def rListOf (K : PySem.W.Frag) : RV := fun xs H Q => ∃ p ys, xs = [.ref p] ∧ (SqL K H p ys ∨ SqT K H p ys) ∧ ∀ l, H l = none → Q (.ref l) (upd H l (.lst ys))
theorem b_list : B1L K lOf (rListOf K) := by
  intro x xs F H v Q hf e rx k
  unfold lOf at hf
  split at hf
  · cases hf
    obtain ⟨a, vs, rfl, h1, h2⟩ := rx
    exact ⟨a, vs, rfl, .inl h1, fun l hl => k l vs hl h2⟩
  · cases hf
    obtain ⟨a, vs, rfl, h1, h2⟩ := rx
    exact ⟨a, vs, rfl, .inr (tupT e h1), fun l hl => k l vs hl h2⟩
  · cases hf
def rTupOf (K : PySem.W.Frag) : RV := fun xs H Q => ∃ p ys, xs = [.ref p] ∧ ((SqL K H p ys ∧ ∀ l, H l = none → Q (.ref l) (upd H l (.tup ys))) ∨ (SqT K H p ys ∧ Q (.ref p) H))
theorem b_tup : B1 K dTup (rTupOf K) := by
  intro x d F H v Q hf e rx k
  unfold dTup at hf
  split at hf
  · cases hf
    obtain ⟨a, vs, rfl, h1, h2⟩ := rx
    refine ⟨a, vs, rfl, .inl ⟨h1, fun l hl => ?_⟩⟩
    have g' := Gr.new e hl (.tup vs)
    exact k _ _ _ g' ⟨l, vs, rfl, upd_same, h2.mono g'.f⟩
  · cases hf
    obtain ⟨a, vs, rfl, h1, h2⟩ := rx
    exact ⟨a, vs, rfl, .inr ⟨tupT e h1, k _ F H (Gr.refl e) ⟨a, vs, rfl, h1, h2⟩⟩⟩
  · cases hf
theorem bools_rep {F : Hp} : ∀ {ds : List D} {vs : List V} {bs : List Bool}, RepL K F ds vs → bools ds = some bs → vs = bs.map V.bl
  | [], _, _, h, hb => by
    cases hb
    exact h
  | .bool b :: ds, _, bs, ⟨v, r, q, h1, h2⟩, hb => by
    unfold bools at hb
    cases eb : bools ds with
    | none => rw [eb] at hb; cases hb
    | some cs =>
      rw [eb] at hb
      cases hb
      rw [q, show v = V.bl b from h1, bools_rep h2 eb]
      rfl
  | .none :: _, _, _, _, hb => by cases hb
  | .int _ :: _, _, _, _, hb => by cases hb
  | .str _ :: _, _, _, _, hb => by cases hb
  | .list _ :: _, _, _, _, hb => by cases hb
  | .tuple _ :: _, _, _, _, hb => by cases hb
  | .dict _ :: _, _, _, _, hb => by cases hb
theorem b_all : B1B K cAll (rAll K) := by
  intro x c F H v Q hf e rx k
  unfold cAll at hf
  split at hf
  · rename_i xs
    split at hf
    · rename_i bs hb
      cases hf
      obtain ⟨a, vs, rfl, h1, h2⟩ := rx
      exact ⟨a, bs, rfl, (by rw [← bools_rep h2 hb]; exact h1), k⟩
    · cases hf
  · cases hf
/-! ### isinstance -/
/-- a value's type, a locked dict's too -/
def TyD (K : PySem.W.Frag) (H : Hp) (v : V) (t : Value) : Prop := TyX K H v t ∨ ∃ a o kvs, v = .ref a ∧ t = .type "dict" ∧ H a = some (.frz o (.dT kvs))
theorem kit_ofD {X : Cx} {pins : List (Addr × Obj)} {σ : L2.St} {H : Hp} {s : Shared} {x : V} {u t : Value} (I : Inv X pins σ H s) (rx : RelV x u) (ty : TyD X.K H x t) : ∃ P : Heap → Prop, PySem.W.KitX X.K u t P ∧ P s.heap ∧ u ≠ .builtin "__main__.__loader__#opaque" := by
  rcases ty with h | ⟨a, o, kvs, rfl, rfl, e⟩
  · exact kit_of I rx h
  · cases (show u = Value.ref a from rx)
    obtain ⟨_, _, _, xs, _, ob, es, ep, h1, h2, _⟩ := (show ObjOk X.prog X.w H s.heap a (.frz o (.dT kvs)) from I.hok a _ e)
    exact ⟨_, PySem.W.kitx_dict, ⟨ob, h1, h2.1⟩, fun z => nomatch z⟩
def rIsiD (K : PySem.W.Frag) : List V → Hp → VK → Prop := fun xs H Q => ∃ (x c : V) (t u : Value) (b : Bool), xs = [x, c] ∧ ClsV c u ∧ TyD K H x t ∧ PySem.W.kitOne K t u = some b ∧ Q (.bl b) H
theorem call_isiD {X : Cx} : CallR X (.builtin "isinstance") (rIsiD X.K) := by
  intro pins s σ H xs us Q I r h
  obtain ⟨x, c, t, u, b, rfl, k, ty, e, q⟩ := h
  obtain ⟨u1, u2, rfl, r1, r2⟩ := vals2 r
  have e2 := k.eq r2
  subst e2
  obtain ⟨P, Z, p, hx⟩ := kit_ofD I r1 ty
  exact PySem.W.kia_one Z I.kIn p e hx fun tk => ⟨.bl b, H, I.tok tk, rfl, q⟩
theorem RepX.ty {F H : Hp} (e : Same F H) {x : D} {v : V} (rx : RepX K F H x v) : TyD K H v (.type (tyName x)) := by
  cases x with
  | none => rw [show v = V.non from rx]; exact .inl (.base .non)
  | bool b => rw [show v = V.bl b from rx]; exact .inl (.base (.bl b))
  | int i => rw [show v = V.int i from rx]; exact .inl (.base (.int i))
  | str z => rw [show v = V.str z from rx]; exact .inl (.base (.str z))
  | list ds =>
    obtain ⟨a, vs, rfl, h1, h2⟩ := rx
    rcases h1 with (h | ⟨o, h⟩) | ⟨o, its, n, hk, hc, _⟩
    · exact .inl (.base (.lst h))
    · exact .inl (.base (.frz h))
    · exact .inl (.kList hk hc)
  | tuple ds =>
    obtain ⟨a, vs, rfl, h1, h2⟩ := rx
    exact .inl (.base (.tup (e _ _ h1)))
  | dict ks =>
    obtain ⟨a, rfl, ⟨_, ks, h1 | ⟨o, h1⟩, _⟩ | ⟨ks, h1 | ⟨o, h1⟩, _⟩⟩ := rx
    · exact .inl (.base (.dK (e _ _ h1)))
    · exact .inl (.fDict (e _ _ h1))
    · exact .inl (.base (.dT (e _ _ h1)))
    · exact .inr ⟨a, o, ks, rfl, rfl, e _ _ h1⟩
def isKind (T : String) : Prop := ∀ x : D, kitB (tyName x) T = some (isInst T x)
theorem kind_of {T : String} (h : (["NoneType", "bool", "int", "str", "list", "tuple", "dict"].all fun n => kitB n T == some (n == T || (T == "int" && n == "bool"))) = true) : isKind T := by
  intro x
  have h' := List.all_eq_true.mp h
  cases x with
  | none => exact eq_of_beq (h' "NoneType" (by decide))
  | bool b => exact eq_of_beq (h' "bool" (by decide))
  | int i => exact eq_of_beq (h' "int" (by decide))
  | str z => exact eq_of_beq (h' "str" (by decide))
  | list ds => exact eq_of_beq (h' "list" (by decide))
  | tuple ds => exact eq_of_beq (h' "tuple" (by decide))
  | dict ks => exact eq_of_beq (h' "dict" (by decide))
theorem kind_int : isKind "int" := kind_of (by decide +kernel)
theorem kind_bool : isKind "bool" := kind_of (by decide +kernel)
theorem kind_tuple : isKind "tuple" := kind_of (by decide +kernel)
end
section
variable {X : Cx} {ec : EC} {W : WX} {e : Expr} {pos p p2 : Pos} {φ : EX}
theorem db_isi {T : String} {tn : Str} (kT : isKind T) (hg : Gl X "isinstance") (hm : X.mg "isinstance" = none) (hg2 : Gl X tn) (hm2 : X.mg tn = none) (hv2 : bootBuiltins tn = some (.type T)) (ha : DX X ec W e φ) (hn2 : tn ≠ "__name__" := by decide) (hdb2 : (tn == ("__debug__" : Str)) = false := by decide)
    (he : starEach [e, .Name tn p2] X.env = (false, eval e X.env) :: starEach [.Name tn p2] X.env := by rfl) (he2 : starEach [.Name tn p2] X.env = (false, eval (.Name tn p2) X.env) :: starEach [] X.env := by rfl) (hpl : (backTo pos (starEach [.Name tn p2] X.env)).any (·.1) = false := by rfl) :
    DB X ec W (.Call (.Name "isinstance" p) [e, .Name tn p2] [] pos) (c1 (cIsi T) φ) :=
  peImp (pe_callB call_isiD hg hm boot_isinstance (pa_cons ha (pa_cons (pe_bltn (v := .ty T) hg2 hm2 hv2 rfl hn2 hdb2) pa_nil he2) he) (by decide) (by decide) he hpl) fun σ H Q h => by
    obtain ⟨r, F, F0, B, S, q⟩ := h
    have q1 : Thn X.K ec W (rb (φ r) fun x => ok (PyData.bool (isInst T x))) σ F H fun d F' H' => ∀ v, Rep X.K F' d v → Q v H' := by
      have q0 : Thn X.K ec W (rb (rb (φ r) fun x => po (cIsi T x)) fun b => ok (PyData.bool b)) σ F H fun d F' H' => ∀ v, Rep X.K F' d v → Q v H' := q
      revert q0
      match φ r with
      | none => exact fun z => z
      | some (.error _) => exact fun z => z
      | some (.ok k) => exact fun z => z
    exact ⟨r, F, F0, B, S, (Thn.bind q1).imp fun x F1 H1 _ g1 h1 v rv =>
      ⟨v, .ty T, .type (tyName x), .type T, isInst T x, rfl, .ty T, rv.ty g1.i, kit_ty (kT x), Thn.ok g1.i (a := PyData.bool (isInst T x)) h1 _ rfl⟩⟩
end
end DL
/-! What is walked; targets; comprehensions. -/
namespace DL
open PySem PySem.Spec PyProof.Rows L2

/-- J gives the data xs, as long as what stands in Bh stands; the items lie in Fb -/
def IterOk (K : PySem.W.Frag) (Bh Fb : Hp) (J : It) (xs : List D) : Prop := ∃ (G : Hp → Prop) (Y : Nat → Hp → V → Hp → Prop), Walk J xs.length G Y ∧ (∀ H, Same Bh H → G H) ∧
  ∀ (i : Nat) (d : D) (H : Hp) (x : V) (H' F : Hp), xs[i]? = some d → Same Bh H → Same Fb F → Same F H → Y i H x H' → ∃ F', Gr F H F' H' ∧ Rep K F' d x
theorem IterOk.weak {K : PySem.W.Frag} {B1 B2 Fb : Hp} {J : It} {xs : List D} (e : Same B1 B2) (h : IterOk K B1 Fb J xs) : IterOk K B2 Fb J xs := by
  obtain ⟨G, Y, w, h1, h2⟩ := h
  exact ⟨G, Y, w, fun H q => h1 H (e.trans q), fun i d H x H' F hd q => h2 i d H x H' F hd (e.trans q)⟩
def tI (K : PySem.W.Frag) (ec : EC) (W : WX) (a : EL) : TI := fun σ H R => ∃ r F F0 B, SR K F0 B r σ H F ∧ Thn K ec W (a r) σ F H fun xs F' H' => ∀ J, IterOk K F' F' J xs → R J H'
/-- within an expression: an own list may be walked -/
def tIX (K : PySem.W.Frag) (ec : EC) (W : WX) (a : EL) : TI := fun σ H R => ∃ r F F0 B, SR K F0 B r σ H F ∧ Thn K ec W (a r) σ F H fun xs F' H' => ∀ J, IterOk K H' F' J xs → R J H'
theorem piImp {X : Cx} {tg e : Expr} {t t' : TI} (h : PI X tg e t) (f : ∀ σ H R, t' σ H R → t σ H R) : PI X tg e t' := ⟨fun pins s σ H R I q => h.run pins s σ H R I (f σ H R q)⟩
abbrev DI (X : Cx) (ec : EC) (W : WX) (tg e : Expr) (a : EL) : Prop := PI X tg e (tI X.K ec W a)
abbrev DIX (X : Cx) (ec : EC) (W : WX) (tg e : Expr) (a : EL) : Prop := PI X tg e (tIX X.K ec W a)
theorem DI.x {X : Cx} {ec : EC} {W : WX} {tg e : Expr} {a : EL} (h : DI X ec W tg e a) : DIX X ec W tg e a := piImp h fun σ H R ⟨r, F, F0, B, S, q⟩ =>
  ⟨r, F, F0, B, S, q.imp fun xs F1 H1 _ g1 k J hJ => k J (hJ.weak g1.i)⟩
theorem iter_list {K : PySem.W.Frag} {Bh Fb : Hp} {a : Addr} {vs : List V} {xs : List D} (h : SqL K Bh a vs) (hr : RepL K Fb xs vs) : IterOk K Bh Fb (Itl K a) xs := by
  refine ⟨_, _, hr.length ▸ walk_list (xs := vs), fun H q => q.seq h, fun i d H x H' F hd _ f e y => ?_⟩
  obtain ⟨rfl, hx⟩ := y
  obtain ⟨v, h1, h2⟩ := hr.get hd
  rw [h1] at hx
  cases hx
  exact ⟨F, Gr.refl e, h2.mono f⟩
theorem iter_tup {K : PySem.W.Frag} {Bh Fb : Hp} {a : Addr} {vs : List V} {xs : List D} (h : SqT K Bh a vs) (hr : RepL K Fb xs vs) : IterOk K Bh Fb (Itt K a) xs := by
  refine ⟨_, _, hr.length ▸ walk_tup (xs := vs), fun H q => seqT q h, fun i d H x H' F hd _ f e y => ?_⟩
  obtain ⟨rfl, hx⟩ := y
  obtain ⟨v, h1, h2⟩ := hr.get hd
  rw [h1] at hx
  cases hx
  exact ⟨F, Gr.refl e, h2.mono f⟩
theorem rng_get {lo : Int} {n i : Nat} {d : D} (h : (rng lo n)[i]? = some d) : d = .int (lo + i) := by
  unfold rng at h
  rw [List.getElem?_map] at h
  cases e : (List.range n)[i]? with
  | none => rw [e] at h; cases h
  | some k =>
    rw [e] at h
    have hk : k = i := by
      have h2 := List.getElem?_eq_some_iff.mp e
      obtain ⟨h3, h4⟩ := h2
      simpa using h4.symm
    subst hk
    exact (Option.some.inj h).symm
theorem rng_len (lo : Int) (n : Nat) : (rng lo n).length = n := by
  unfold rng
  rw [List.length_map, List.length_range]
theorem iter_rng {K : PySem.W.Frag} {Bh Fb : Hp} {lo : Int} {n : Nat} : IterOk K Bh Fb (Itr lo n) (rng lo n) := by
  refine ⟨fun _ => True, YFn fun i => .int (lo + i), by rw [rng_len]; exact walk_range, fun _ _ => trivial, fun i d H x H' F hd _ f e y => ?_⟩
  obtain ⟨rfl, rfl⟩ := y
  rw [rng_get hd]
  exact ⟨F, Gr.refl e, rfl⟩
section
variable {X : Cx} {ec : EC} {W : WX} {tg e b : Expr} {pos p : Pos} {φ ψ : EX}
/-- what a list or a tuple gives when it is walked -/
theorem pi_seq {tl : TE} (hl : PE X e tl) : PI X tg e (fun σ H R => tl σ H fun x H1 => (∃ a xs, x = .ref a ∧ SqL X.K H1 a xs ∧ R (Itl X.K a) H1) ∨ ∃ a xs, x = .ref a ∧ SqT X.K H1 a xs ∧ R (Itt X.K a) H1) := by
  refine ⟨fun pins s σ H R I h => ?_⟩
  refine thn (hl.run pins s σ H _ I h) fun v s1 ⟨x, H1, I1, r1, q1⟩ => ?_
  rcases q1 with ⟨a, xs, e, hq, q⟩ | ⟨a, xs, e, hq, q⟩
  · subst e
    cases r1
    obtain ⟨its, rv, p, hz⟩ := I1.list hq
    refine wpAny_pyIter_list p.isList ?_
    refine ⟨s1.heap.objs.size, [s1.heap.objs.size], _, _, H1, rfl, I1.kept (t' := s1.toks) fun b o e => Heap.get?_push_of_some _ e, turn_list a _, ⟨_, Heap.get?_push_size _ rfl, rfl, rfl⟩, fun b hb => ?_, q⟩
    have e : b = s1.heap.objs.size := by simpa using hb
    subst e
    exact I1.fpOk (Nat.le_refl _) (I1.hok.fresh (Nat.le_refl _))
  · subst e
    cases r1
    obtain ⟨its, rv, p, hz⟩ := I1.tuple hq
    refine wpAny_pyIter_tuple (show s1.heap.IsTuple a its.toArray from p) ?_
    refine ⟨s1.heap.objs.size, [s1.heap.objs.size], _, _, H1, rfl, I1.kept (t' := s1.toks) fun b o e => Heap.get?_push_of_some _ e, turn_tuple a _, ⟨_, Heap.get?_push_size _ rfl, rfl, rfl⟩, fun b hb => ?_, q⟩
    have e : b = s1.heap.objs.size := by simpa using hb
    subst e
    exact I1.fpOk (Nat.le_refl _) (I1.hok.fresh (Nat.le_refl _))
theorem dix_seq (h : DX X ec W e φ) : DIX X ec W tg e (iSeq φ) := piImp (pi_seq h) fun σ H R ⟨r, F, F0, B, S, q⟩ => by
  refine ⟨r, F, F0, B, S, (Thn.bind q).imp fun x F1 H1 _ g1 h1 v rv => ?_⟩
  obtain ⟨xs, ex, k⟩ := h1.po
  have k' := k F1 H1 (Gr.refl g1.i)
  cases x with
  | list ys =>
    cases ex
    obtain ⟨a, vs, rfl, h2, h3⟩ := rv
    exact .inl ⟨a, vs, rfl, h2, k' _ (iter_list h2 h3)⟩
  | tuple ys =>
    cases ex
    obtain ⟨a, vs, rfl, h2, h3⟩ := rv
    exact .inr ⟨a, vs, rfl, tupT g1.i h2, k' _ (iter_tup (tupT g1.i h2) h3)⟩
  | _ => cases ex
theorem di_range1 (hg : Gl X "range") (hm : X.mg "range" = none) (ha : DX X ec W e φ) (hs : starEach [e] X.env = [(false, eval e X.env)] := by rfl) : DI X ec W tg (.Call (.Name "range" p) [e] [] pos) (iRange1 φ) :=
  piImp (pi_range1 hg hm (pa1 ha hs) hs) fun σ H R ⟨r, F, F0, B, S, q⟩ => by
    refine ⟨r, F, F0, B, S, (Thn.bind q).imp fun x F1 H1 ex1 g1 h1 v rv => ?_⟩
    obtain ⟨xs, ex, k⟩ := h1.po
    unfold rng1 at ex
    split at ex
    · rename_i j
      split at ex
      · rename_i hj
        cases ex
        unfold small62 at hj
        simp only [Bool.and_eq_true, decide_eq_true_eq] at hj
        exact ⟨j, by rw [show v = _ from rv], hj.1, hj.2, k F1 H1 (Gr.refl g1.i) _ iter_rng⟩
      · cases ex
    · cases ex
end
/-! ### targets -/
def gMany : List Nat → TGs
  | [] => gNil
  | i :: is => gCons (gName i) (gMany is)
def gNst (K : PySem.W.Frag) : List (Nat ⊕ List Nat) → TGs
  | [] => gNil
  | .inl i :: gs => gCons (gName i) (gNst K gs)
  | .inr is :: gs => gCons (gTup K is.length (gMany is)) (gNst K gs)
def tgT (K : PySem.W.Frag) : Tg → TG
  | .one i => gName i
  | .many is => gTup K is.length (gMany is)
  | .nst gs => gTup K gs.length (gNst K gs)
theorem wipe_get (σ : L2.St) : ∀ (vs : List Nat) (j : Nat), (wipe σ vs)[j]? = if j ∈ vs then (if j < σ.length then some none else none) else σ[j]?
  | [], j => by simp [wipe]
  | v :: vs, j => by
    have ih := wipe_get σ vs j
    show ((wipe σ vs).set v none)[j]? = _
    by_cases c : j = v
    · subst c
      rw [if_pos List.mem_cons_self]
      by_cases hl : j < σ.length
      · rw [if_pos hl, List.getElem?_set_self (by rw [wipe_length]; exact hl)]
      · rw [if_neg hl]
        exact List.getElem?_eq_none (by rw [List.length_set, wipe_length]; omega)
    · rw [List.getElem?_set_ne (Ne.symm c), ih]
      by_cases hm : j ∈ vs
      · rw [if_pos hm, if_pos (List.mem_cons_of_mem _ hm)]
      · rw [if_neg hm, if_neg (fun z => (List.mem_cons.mp z).elim c hm)]
theorem wipe_set (σ : L2.St) (vs : List Nat) {i : Nat} {y : Option V} (hi : i ∈ vs) : wipe (σ.set i y) vs = wipe σ vs := by
  apply List.ext_getElem?
  intro j
  rw [wipe_get, wipe_get, List.length_set]
  by_cases hm : j ∈ vs
  · rw [if_pos hm, if_pos hm]
  · rw [if_neg hm, if_neg hm, List.getElem?_set_ne (fun z => hm (by rw [← z]; exact hi))]
theorem wipe_wipe (σ : L2.St) (vs : List Nat) : wipe (wipe σ vs) vs = wipe σ vs := by
  apply List.ext_getElem?
  intro j
  rw [wipe_get (wipe σ vs), wipe_length, wipe_get σ]
  by_cases hm : j ∈ vs
  · rw [if_pos hm, if_pos hm]
  · rw [if_neg hm, if_neg hm]
theorem SR.wipe {K : PySem.W.Frag} {F0 B : Hp} {σ : L2.St} {H F : Hp} : ∀ (vs : List Nat) {r : Env}, SR K F0 B r σ H F → SR K F0 B (unSlots vs r) (L2.wipe σ vs) H F
  | [], _, S => S
  | v :: vs, _, S => (SR.wipe vs S).unset
section
variable {K : PySem.W.Frag} {F0 B : Hp} {H F : Hp}
theorem many_ok : ∀ (is : List Nat) {xs : List D} {vs : List V} {r r1 : Env} {σ : L2.St} {Q : L2.St → Hp → Prop}, SR K F0 B r σ H F → RepL K F xs vs → putMany is xs r = some r1 →
    (∀ σ2, SR K F0 B r1 σ2 H F → (∀ ws : List Nat, (∀ i ∈ is, i ∈ ws) → L2.wipe σ2 ws = L2.wipe σ ws) → Q σ2 H) → gMany is vs σ H Q
  | [], [], vs, r, r1, σ, Q, S, h, hp, k => by
    have e : vs = [] := h
    have e2 : r = r1 := Option.some.inj hp
    subst e e2
    exact ⟨rfl, k σ S fun _ _ => rfl⟩
  | [], _ :: _, _, _, _, _, _, _, _, hp, _ => by cases hp
  | _ :: _, [], _, _, _, _, _, _, _, hp, _ => by cases hp
  | i :: is, x :: xs, vs, r, r1, σ, Q, S, ⟨v, vr, e, h1, h2⟩, hp, k => by
    subst e
    refine ⟨v, vr, rfl, ?_⟩
    show gMany is vr (σ.set i (some v)) H Q
    exact many_ok is (S.set h1) h2 hp fun σ2 S2 w => k σ2 S2 fun ws hw => by
      rw [w ws (fun j hj => hw j (List.mem_cons_of_mem _ hj)), wipe_set σ ws (hw i List.mem_cons_self)]
theorem putMany_len : ∀ (is : List Nat) {xs : List D} {r r1 : Env}, putMany is xs r = some r1 → xs.length = is.length
  | [], [], _, _, _ => rfl
  | [], _ :: _, _, _, h => by cases h
  | _ :: _, [], _, _, h => by cases h
  | _ :: is, _ :: xs, _, _, h => by rw [List.length_cons, List.length_cons, putMany_len is h]
theorem putN_len : ∀ (gs : List (Nat ⊕ List Nat)) {xs : List D} {r r1 : Env}, putN gs xs r = some r1 → xs.length = gs.length
  | [], [], _, _, _ => rfl
  | [], _ :: _, _, _, h => by cases h
  | .inl _ :: _, [], _, _, h => by cases h
  | .inr _ :: _, [], _, _, h => by cases h
  | .inl _ :: gs, _ :: xs, _, _, h => by rw [List.length_cons, List.length_cons, putN_len gs h]
  | .inr is :: gs, x :: xs, r, r1, h => by
    cases x with
    | tuple ys =>
      have h' : (match putMany is ys r with | some r1 => putN gs xs r1 | none => none) = some r1 := h
      cases e : putMany is ys r with
      | none => rw [e] at h'; cases h'
      | some r2 =>
        rw [e] at h'
        rw [List.length_cons, List.length_cons, putN_len gs h']
    | _ => cases h
theorem nst_ok : ∀ (gs : List (Nat ⊕ List Nat)) {xs : List D} {vs : List V} {r r1 : Env} {σ : L2.St} {Q : L2.St → Hp → Prop}, SR K F0 B r σ H F → RepL K F xs vs → putN gs xs r = some r1 →
    (∀ σ2, SR K F0 B r1 σ2 H F → (∀ ws : List Nat, (∀ i ∈ slotsN gs, i ∈ ws) → L2.wipe σ2 ws = L2.wipe σ ws) → Q σ2 H) → gNst K gs vs σ H Q
  | [], [], vs, r, r1, σ, Q, S, h, hp, k => by
    have e : vs = [] := h
    have e2 : r = r1 := Option.some.inj hp
    subst e e2
    exact ⟨rfl, k σ S fun _ _ => rfl⟩
  | [], _ :: _, _, _, _, _, _, _, _, hp, _ => by cases hp
  | .inl _ :: _, [], _, _, _, _, _, _, _, hp, _ => by cases hp
  | .inr _ :: _, [], _, _, _, _, _, _, _, hp, _ => by cases hp
  | .inl i :: gs, x :: xs, vs, r, r1, σ, Q, S, ⟨v, vr, e, h1, h2⟩, hp, k => by
    subst e
    refine ⟨v, vr, rfl, ?_⟩
    show gNst K gs vr (σ.set i (some v)) H Q
    exact nst_ok gs (S.set h1) h2 hp fun σ2 S2 w => k σ2 S2 fun ws hw => by
      rw [w ws (fun j hj => hw j (List.mem_cons_of_mem _ hj)), wipe_set σ ws (hw i List.mem_cons_self)]
  | .inr is :: gs, x :: xs, vs, r, r1, σ, Q, S, ⟨v, vr, e, h1, h2⟩, hp, k => by
    subst e
    cases x with
    | tuple ys =>
      have h' : (match putMany is ys r with | some r1 => putN gs xs r1 | none => none) = some r1 := hp
      cases e : putMany is ys r with
      | none => rw [e] at h'; cases h'
      | some r2 =>
        rw [e] at h'
        obtain ⟨a, us, rfl, k1, k2⟩ := h1
        refine ⟨.ref a, vr, rfl, a, us, rfl, tupT S.gr.i k1, by rw [k2.length, putMany_len is e], ?_⟩
        exact many_ok is S k2 e fun σ2 S2 w => nst_ok gs S2 h2 h' fun σ3 S3 w3 => k σ3 S3 fun ws hw => by
          rw [w3 ws (fun j hj => hw j (List.mem_append_right _ hj)), w ws (fun j hj => hw j (List.mem_append_left _ hj))]
    | _ => cases hp
theorem put_ok {g : Tg} {x : D} {v : V} {r r1 : Env} {σ : L2.St} {Q : L2.St → Hp → Prop} (S : SR K F0 B r σ H F) (h : Rep K F x v) (hp : g.put x r = some r1)
    (k : ∀ σ2, SR K F0 B r1 σ2 H F → L2.wipe σ2 g.slots = L2.wipe σ g.slots → Q σ2 H) : tgT K g v σ H Q := by
  cases g with
  | one i =>
    have e : r.set i (.d x) = r1 := Option.some.inj hp
    subst e
    exact k _ (S.set h) (wipe_set σ [i] List.mem_cons_self)
  | many is =>
    cases x with
    | tuple xs =>
      obtain ⟨a, vs, rfl, h1, h2⟩ := h
      have hp' : putMany is xs r = some r1 := hp
      exact ⟨a, vs, rfl, tupT S.gr.i h1, by rw [h2.length, putMany_len is hp'], many_ok is S h2 hp' fun σ2 S2 w => k σ2 S2 (w _ fun _ hi => hi)⟩
    | _ => cases hp
  | nst gs =>
    cases x with
    | tuple xs =>
      obtain ⟨a, vs, rfl, h1, h2⟩ := h
      have hp' : putN gs xs r = some r1 := hp
      exact ⟨a, vs, rfl, tupT S.gr.i h1, by rw [h2.length, putN_len gs hp'], nst_ok gs S h2 hp' fun σ2 S2 w => k σ2 S2 (w _ fun _ hi => hi)⟩
    | _ => cases hp
end
/-! ### comprehensions -/
def del (H : Hp) (a : Addr) : Hp := fun b => if b = a then none else H b
theorem upd_del {H : Hp} {a : Addr} {o : HO} (h : H a = some o) : upd (del H a) a o = H := by
  funext b
  unfold upd del
  by_cases c : b = a
  · rw [if_pos c, c, h]
  · rw [if_neg c, if_neg c]
theorem del_self {H : Hp} {a : Addr} : del H a a = none := if_pos rfl
theorem del_ne {H : Hp} {a b : Addr} (h : b ≠ a) : del H a b = H b := if_neg h
theorem Gr.del {F Hm F4 H4 : Hp} {a : Addr} {o : HO} (g : Gr F (upd Hm a o) F4 H4) (hm : Hm a = none) (hf : F a = none) (ho : ∀ vs, o ≠ .tup vs := by exact fun _ z => nomatch z) : Gr F Hm F4 (DL.del H4 a) := by
  have f4 : F4 a = none := g.nu upd_same ho hf
  refine ⟨g.f, fun b x q => ?_, fun b x q => ?_, fun b hb q t => ?_⟩
  · have c := ne_of_none q hm
    rw [del_ne c]
    exact g.h b x (by rw [upd_ne c]; exact q)
  · rw [del_ne (ne_of_none q f4)]
    exact g.i b x q
  · have c : b ≠ a := fun z => hb (by rw [z]; exact hm)
    exact g.n b (by rw [upd_ne c]; exact hb) q fun vs z => t vs (by rw [upd_ne c] at z; exact z)
abbrev W0 : WX := fun _ _ _ _ => False
theorem Thn.ok0 {α : Type} {K : PySem.W.Frag} {ec : EC} {W : WX} {x : R α} {σ : L2.St} {F H : Hp} {P : α → Hp → Hp → Prop} {a : α} (h : x = DL.ok a) (k : ∀ F' H', Gr F H F' H' → P a F' H') : Thn K ec W x σ F H P := by
  subst h
  exact k
theorem noEr_ok {α : Type} {x : R α} {a : α} (h : noEr x = ok a) : x = ok a := by
  unfold noEr at h
  split at h
  · exact h
  · cases h
theorem lc_use {K : PySem.W.Frag} {ec : EC} {W : WX} {ι : EL} {g : Tg} {β : EB} {φ : EX} {vs : List Nat} (hvs : vs = g.slots) {σ : L2.St} {H : Hp} {Q : VK} (h : tL K ec W (lComp ι g β φ) σ H Q) :
    tLc (tIX K ec W ι) (tgT K g) (tT K ec W0 β) (tD K ec W0 φ) vs σ H Q := by
  subst hvs
  obtain ⟨r, F, F0, B, S, q⟩ := h
  refine ⟨r, F, F0, B, S, (Thn.bind q).imp fun xs F1 H1 _ g1 h1 J hJ D hD => ?_⟩
  by_cases hlim : xs.length ≤ lim
  · rw [if_pos hlim] at h1
    match ec1 : noEr (compL g β φ (unSlots g.slots r) xs) with
    | none => rw [ec1] at h1; exact False.elim h1
    | some (.error _) =>
      exfalso
      unfold noEr at ec1
      split at ec1
      · cases ec1
      · cases ec1
    | some (.ok ys) =>
      rw [ec1] at h1
      have hc : compL g β φ (unSlots g.slots r) xs = ok ys := noEr_ok ec1
      have S1 := SR.wipe g.slots (S.grow g1)
      obtain ⟨G, Y, w, hG, hY⟩ := hJ
      refine lc_it w (fun i Hc => ∃ done rest us F2 Hm, i ≤ xs.length ∧ compL g β φ (unSlots g.slots r) (xs.drop i) = ok rest ∧ done ++ rest = ys ∧ done.length ≤ i ∧ Hc = upd Hm D (.lst us) ∧ Hm D = none ∧ RepL K F2 done us ∧ Gr F1 H1 F2 Hm)
        ⟨[], ys, [], F1, H1, Nat.zero_le _, hc, rfl, Nat.le_refl _, rfl, hD, rfl, Gr.refl g1.i⟩ ?_ ?_ ?_
      · rintro i Hc hi ⟨done, rest, us, F2, Hm, _, _, _, _, rfl, hm, _, g2⟩
        exact hG _ (g2.h.trans (Gr.own g2.i hm _).h)
      · rintro i x Hc H' hi ⟨done, rest, us, F2, Hm, _, er, ed, hl, rfl, hm, hu, g2⟩ y
        have go := Gr.own g2.i hm (.lst us)
        obtain ⟨d, hd⟩ : ∃ d, xs[i]? = some d := ⟨xs[i], List.getElem?_eq_getElem hi⟩
        have hdrop : xs.drop i = d :: xs.drop (i + 1) := by
          rw [List.drop_eq_getElem_cons hi]
          congr 1
          have := List.getElem?_eq_getElem hi
          rw [hd] at this
          exact (Option.some.inj this).symm
        obtain ⟨F3, g3, r3⟩ := hY i d _ x H' F2 hd (g2.h.trans go.h) g2.f go.i y
        have S3 := (S1.grow g2).grow (go.trans g3)
        rw [hdrop] at er
        unfold compL at er
        split at er
        · cases er
        · rename_i r1 hput
          obtain ⟨k, ek, er1⟩ := rb_eq_ok er
          refine put_ok S3 r3 hput fun σ2 S4 hw => ⟨by rw [hw, wipe_wipe], ⟨r1, F3, F0, B, S4, Thn.ok0 ek fun F4 H4 g4 => ?_⟩⟩
          have f2D : F2 D = none := g2.i.free hm
          cases k with
          | true =>
            rw [if_pos rfl] at er1
            obtain ⟨z, ez, er2⟩ := rb_eq_ok er1
            obtain ⟨rest', er3, er4⟩ := rb_eq_ok er2
            have e5 : rest = z :: rest' := by
              have e6 : ok (z :: rest') = ok rest := er4
              unfold ok at e6
              simpa using e6.symm
            refine iteT ⟨r1, F4, F0, B, S4.grow g4, Thn.ok0 ez fun F5 H5 g5 v rv => ?_⟩
            have g6 : Gr F2 (upd Hm D (.lst us)) F5 H5 := (g3.trans g4).trans g5
            have hD5 : H5 D = some (.lst us) := g6.h _ _ upd_same
            refine ⟨us, hD5, ?_, done ++ [z], rest', us ++ [v], F5, DL.del H5 D, hi, er3, by rw [← ed, e5]; simp, by rw [List.length_append]; simpa using hl, ?_, del_self, (hu.mono g6.f).append ⟨v, [], rfl, rv, rfl⟩, g2.trans (g6.del hm f2D)⟩
            · rw [hu.length]
              exact Nat.lt_of_lt_of_le (Nat.lt_of_le_of_lt hl hi) (lim_line hlim)
            · funext b
              unfold upd DL.del
              by_cases c : b = D
              · rw [if_pos c, if_pos c]
              · rw [if_neg c, if_neg c, if_neg c]
          | false =>
            rw [if_neg (by simp)] at er1
            have g6 : Gr F2 (upd Hm D (.lst us)) F4 H4 := g3.trans g4
            have hD5 : H4 D = some (.lst us) := g6.h _ _ upd_same
            exact iteF ⟨done, rest, us, F4, DL.del H4 D, hi, er1, ed, Nat.le_succ_of_le hl, (upd_del hD5).symm, del_self, hu.mono g6.f, g2.trans (g6.del hm f2D)⟩
      · rintro Hc ⟨done, rest, us, F2, Hm, _, er, ed, hl, rfl, hm, hu, g2⟩
        rw [List.drop_length] at er
        have e5 : rest = [] := by
          have e6 : ok ([] : List DL.D) = ok rest := er
          unfold ok at e6
          simpa using e6.symm
        rw [e5, List.append_nil] at ed
        subst ed
        exact h1 F2 Hm g2 D us hm hu
  · rw [if_neg hlim] at h1
    exact False.elim h1
section
variable {X : Cx} {ec : EC} {W : WX} {elt tg iter : Expr} {ifs : List Expr} {scope : Scope} {own : List (Str × Nat)} {pos : Pos} {ι : EL} {g : Tg} {β : EB} {φ : EX}
theorem dl_comp (hc : X.calm = true) (hN : X.N.Nodup) (hi : DIX X ec W tg iter ι) (ok : BlkOk X.N X.env.scope scope own) (hv : own.map (·.2) = g.slots)
    (hg : ∀ (s : Shared) (H : Hp) (C : Addr) (cl : List (Str × Addr)) (fp : List Addr), PG (X.blk s H scope (compEnvC scope cl C X.env) fp) tg (tgT X.K g)) (ht : ∀ (s : Shared) (H : Hp) (C : Addr) (cl : List (Str × Addr)) (fp : List Addr), PTs (X.blk s H scope (compEnvC scope cl C X.env) fp) ifs (tT X.K ec W0 β))
    (he : ∀ (s : Shared) (H : Hp) (C : Addr) (cl : List (Str × Addr)) (fp : List Addr), DE (X.blk s H scope (compEnvC scope cl C X.env) fp) ec W0 elt φ) (hs : ∀ x, foldedSetIterable iter X.env x = pure x := by intro _; rfl) :
    DLi X ec W (.ListComp elt [⟨tg, iter, ifs, 0⟩] scope pos) (lComp ι g β φ) := peImp (pe_lc hc hN hi ok hg ht he hs) fun _ _ _ h => lc_use hv h
theorem dts_nil : PTs X [] (tT X.K ec W0 bYes) := ⟨fun pins s σ H Q I ⟨r, F, F0, B, S, q⟩ => pts_nil.run pins s σ H Q I (Thn.ok (a := true) S.sub q)⟩
end
end DL
/-! Statements; a def's body; a def. -/
namespace DL
open PySem PySem.Spec PyProof.Rows L2

/-- what is wanted behind a block that does o -/
def Aft (K : PySem.W.Frag) (ec : EC) (W : WX) (F0 B F : Hp) (o : Option Out) (Dn : Ends) : Prop := match o with
  | none => False
  | some (.nx r) => ∀ σ' F' H', Same F F' → SR K F0 B r σ' H' F' → Dn.nx σ' H'
  | some (.bk r) => ∀ σ' F' H', Same F F' → SR K F0 B r σ' H' F' → Dn.bk σ' H'
  | some (.ct r) => ∀ σ' F' H', Same F F' → SR K F0 B r σ' H' F' → Dn.ct σ' H'
  | some (.rt d) => ∀ v F' H', Same F F' → Gr F0 B F' H' → Rep K F' d v → Dn.rt v H'
  | some (.er e r) => ∀ dx σ' F' H', Same F F' → SR K F0 B r σ' H' F' → ErrOk K F' H' e dx → W (.ref (ec e.cls)) dx σ' H'
  | some (.ro i r) => ∀ v σ' F' H', Same F F' → SR K F0 B r σ' H' F' → σ'[i]? = some (some v) → Dn.rt v H'
  | some (.ri d r) => ∀ v σ' F' H', Same F F' → SR K F0 B r σ' H' F' → Rep K F' d v → Dn.rt v H'
  | some (.rl xs) => ∀ p us F' H', Same F F' → Gr F0 B F' H' → H' p = some (.lst us) → F' p = none → B p = none → RepL K F' xs us → Dn.rt (.ref p) H'
def tS (K : PySem.W.Frag) (ec : EC) (W : WX) (b : SX) : TS := fun Dn σ H => ∃ r F F0 B, SR K F0 B r σ H F ∧ Aft K ec W F0 B F (b r) Dn
theorem psImp {X : Cx} {e : Stmt} {t t' : TS} (h : PS X e t) (f : ∀ D σ H, t' D σ H → t D σ H) : PS X e t' := ⟨fun pins s σ H D I q => h.run pins s σ H D I (f D σ H q)⟩
theorem pssImp {X : Cx} {e : List Stmt} {t t' : TS} (h : PSs X e t) (f : ∀ D σ H, t' D σ H → t D σ H) : PSs X e t' := ⟨fun pins s σ H D I q => h.run pins s σ H D I (f D σ H q)⟩
abbrev DS (X : Cx) (ec : EC) (W : WX) (st : Stmt) (b : SX) : Prop := PS X st (tS X.K ec W b)
abbrev DSs (X : Cx) (ec : EC) (W : WX) (st : List Stmt) (b : SX) : Prop := PSs X st (tS X.K ec W b)
section
variable {K : PySem.W.Frag} {ec : EC} {W : WX} {F0 B F F1 H : Hp} {Dn : Ends} {r : Env} {σ : L2.St}
theorem Aft.mono {o : Option Out} (e : Same F F1) (h : Aft K ec W F0 B F o Dn) : Aft K ec W F0 B F1 o Dn := by
  match o with
  | none => exact h
  | some (.nx r) => exact fun σ' F' H' q => h σ' F' H' (e.trans q)
  | some (.bk r) => exact fun σ' F' H' q => h σ' F' H' (e.trans q)
  | some (.ct r) => exact fun σ' F' H' q => h σ' F' H' (e.trans q)
  | some (.rt d) => exact fun v F' H' q => h v F' H' (e.trans q)
  | some (.er x r) => exact fun dx σ' F' H' q => h dx σ' F' H' (e.trans q)
  | some (.ro i r) => exact fun v σ' F' H' q => h v σ' F' H' (e.trans q)
  | some (.ri d r) => exact fun v σ' F' H' q => h v σ' F' H' (e.trans q)
  | some (.rl xs) => exact fun p us F' H' q => h p us F' H' (e.trans q)
theorem Aft.so {α : Type} {x : R α} {f : α → Option Out} (S : SR K F0 B r σ H F) (h : Aft K ec W F0 B F (so x r f) Dn) : Thn K ec W x σ F H fun a F' H' => Aft K ec W F0 B F' (f a) Dn := by
  match x with
  | none => exact h
  | some (.error e) => exact fun dx F' H' g q => h dx σ F' H' g.f (S.grow g) q
  | some (.ok a) => exact fun F' H' g => Aft.mono g.f (show Aft K ec W F0 B F (f a) Dn from h)
end
section
variable {X : Cx} {ec : EC} {W : WX} {st : Stmt} {sts rest es els : List Stmt} {e c tg iter : Expr} {pos : Pos} {a b : SX} {φ ψ : EX} {β : EB} {ι : EL}
theorem dss_nil : DSs X ec W [] sNx := pssImp pss_nil fun D σ H ⟨r, F, F0, B, S, q⟩ => q σ F H (Same.refl F) S
theorem seq_use {K : PySem.W.Frag} {D : Ends} {σ : L2.St} {H : Hp} (h : tS K ec W (sSeq a b) D σ H) : tSeq (tS K ec W a) (tS K ec W b) D σ H := by
  obtain ⟨r, F, F0, B, S, q⟩ := h
  refine ⟨r, F, F0, B, S, ?_⟩
  have q' : Aft K ec W F0 B F (match a r with | some (.nx r1) => b r1 | o => o) D := q
  revert q'
  match a r with
  | none => exact fun z => z
  | some (.nx r1) => exact fun z σ' F' H' q S' => ⟨r1, F', F0, B, S', Aft.mono q z⟩
  | some (.bk r1) => exact fun z => z
  | some (.ct r1) => exact fun z => z
  | some (.rt d) => exact fun z => z
  | some (.er x r1) => exact fun z => z
  | some (.ro i r1) => exact fun z => z
  | some (.ri d r1) => exact fun z => z
  | some (.rl xs) => exact fun z => z
theorem dss_cons (h1 : DS X ec W st a) (h2 : DSs X ec W rest b) : DSs X ec W (st :: rest) (sSeq a b) := pssImp (pss_cons h1 h2) fun _ _ _ h => seq_use h
theorem dss_one (h : DS X ec W st a) : DSs X ec W [st] a := pss_one h
theorem ds_ret (h : DE X ec W e φ) : DS X ec W (.Return (some e) pos) (sRet φ) := psImp (ps_ret h) fun D σ H ⟨r, F, F0, B, S, q⟩ =>
  ⟨r, F, F0, B, S, (Aft.so S q).imp fun d F1 H1 _ g k v rv => k v F1 H1 (Same.refl _) (S.grow g).gr rv⟩
theorem ds_retL {a : EL} (h : DLi X ec W e a) : DS X ec W (.Return (some e) pos) (sRetL a) := psImp (ps_ret h) fun D σ H ⟨r, F, F0, B, S, q⟩ =>
  ⟨r, F, F0, B, S, (Aft.so S q).imp fun xs F1 H1 _ g k p vs hp rs => k p vs F1 _ (Same.refl _) ((S.grow g).gr.trans (Gr.own g.i hp _)) upd_same (g.i.free hp) ((S.grow g).gr.h.free hp) rs⟩
theorem ds_expr (h : DE X ec W e φ) (hs : swapsWith e none pos.line X.env = pure false := by rfl) : DS X ec W (.Expr e pos) (sExpr φ) := psImp (ps_expr h hs) fun D σ H ⟨r, F, F0, B, S, q⟩ =>
  ⟨r, F, F0, B, S, (Aft.so S q).imp fun d F1 H1 _ g k v rv => k σ F1 H1 (Same.refl _) (S.grow g)⟩
theorem ds_if (hc : DT X ec W c β) (ha : DSs X ec W sts a) (hb : DSs X ec W els b) : DS X ec W (.If c sts els pos) (sIf β a b) := psImp (ps_if hc ha hb) fun D σ H ⟨r, F, F0, B, S, q⟩ =>
  ⟨r, F, F0, B, S, (Aft.so S q).imp fun k F1 H1 _ g h1 => by
    cases k with
    | true => exact iteT ⟨r, F1, F0, B, S.grow g, h1⟩
    | false => exact iteF ⟨r, F1, F0, B, S.grow g, h1⟩⟩
theorem set_use {K : PySem.W.Frag} {i : Nat} {D : Ends} {σ : L2.St} {H : Hp} (h : tS K ec W (sSet i φ) D σ H) : tAsg (tD K ec W φ) (gName i) D σ H := by
  obtain ⟨r, F, F0, B, S, q⟩ := h
  exact ⟨r, F, F0, B, S, (Aft.so S q).imp fun d F1 H1 _ g k v rv => k _ F1 H1 (Same.refl _) ((S.grow g).set rv)⟩
theorem own_use {K : PySem.W.Frag} {i : Nat} {D : Ends} {σ : L2.St} {H : Hp} (h : tS K ec W (sOwn i ι) D σ H) : tAsg (tL K ec W ι) (gName i) D σ H := by
  obtain ⟨r, F, F0, B, S, q⟩ := h
  exact ⟨r, F, F0, B, S, (Aft.so S q).imp fun d F1 H1 _ g k p vs hp hv => k _ F1 _ (Same.refl _) ((S.grow g).setOwn hp hv)⟩
theorem ds_set {i : Nat} {x : Str} {pos' : Pos} (hN : X.N.Nodup) (hi : X.N[i]? = some x) (hx : Loc X.env.scope x) (he : DE X ec W e φ) (hs : swapsWith e (some (.Name x pos')) pos.line X.env = pure false := by rfl)
    (hf : X.fn x = true ∨ X.env.scope.names.lookup x = some .local := by first | exact .inl rfl | exact .inr rfl | assumption) : DS X ec W (.Assign [.Name x pos'] e pos) (sSet i φ) := psImp (ps_set hN hi hx he hs hf) fun _ _ _ h => set_use h
theorem ds_own {i : Nat} {x : Str} {pos' : Pos} (hN : X.N.Nodup) (hi : X.N[i]? = some x) (hx : Loc X.env.scope x) (he : DLi X ec W e ι) (hs : swapsWith e (some (.Name x pos')) pos.line X.env = pure false := by rfl)
    (hf : X.fn x = true ∨ X.env.scope.names.lookup x = some .local := by first | exact .inl rfl | exact .inr rfl | assumption) : DS X ec W (.Assign [.Name x pos'] e pos) (sOwn i ι) := psImp (ps_set hN hi hx he hs hf) fun _ _ _ h => own_use h
/-- a, b = e -/
theorem ds_put {g : Tg} (he : DE X ec W e φ) (hg : PG X tg (tgT X.K g)) (hs : swapsWithSole [tg] e pos.line X.env = pure false := by rfl) (hw : swappedStores [tg] e X.env = pure none := by rfl)
    (h1 : (assignEach [tg] X.env).map (·.2) = [assign tg X.env] := by rfl) : DS X ec W (.Assign [tg] e pos) (sPut g φ) := psImp (ps_asg he hg hs hw h1) fun D σ H ⟨r, F, F0, B, S, q⟩ => by
  refine ⟨r, F, F0, B, S, (Aft.so S q).imp fun d F1 H1 _ g1 k v rv => ?_⟩
  match ep : g.put d r with
  | none => rw [ep] at k; exact False.elim k
  | some r1 =>
    rw [ep] at k
    exact put_ok (S.grow g1) rv ep fun σ2 S2 _ => k σ2 F1 H1 (Same.refl _) S2
/-- own.append(x) -/
theorem ds_app {i : Nat} {x : Str} {xp apos cpos : Pos} (hN : X.N[i]? = some x) (hv : Vis X.env.scope x) (ha : DE X ec W e φ) (hd : (x == ("__debug__" : Str)) = false := by decide) (hcd : (x == ("__classdict__" : Str)) = false := by decide)
    (hs : swapsWith (.Call (.Attribute (.Name x xp) "append" apos) [e] [] cpos) none pos.line X.env = pure false := by rfl)
    (hbase : attributeBase (.Name x xp) "append" X.env (eval (.Name x xp) X.env) = eval (.Name x xp) X.env := by rfl)
    (hfew : ((backTo cpos (starEach [e] X.env)).all (fun x => !x.1) && (backToKw cpos (keywordEach [] X.env)).all (fun x => x.1.isSome)
      && decide ([e].length + ([] : List Keyword).length + (if ([] : List Keyword).isEmpty then 0 else 1) < 30)) = true := by rfl)
    (hline : (apos.endLine == cpos.line) = true := by rfl) (hst : starEach [e] X.env = (false, eval e X.env) :: starEach [] X.env := by rfl) (hplain : (backTo cpos (starEach [] X.env)).any (·.1) = false := by rfl) :
    DS X ec W (.Expr (.Call (.Attribute (.Name x xp) "append" apos) [e] [] cpos) pos) (sApp i φ) :=
  psImp (ps_expr (pe_bm PySem.F.plainAttrs_list PySem.F.slot_list_append PySem.F.type_list_append mt_append (pe_var hN hv hd hcd) (pa_cons ha pa_nil hst) hbase hfew hline hst hplain) hs) fun D σ H ⟨r, F, F0, B, S, q⟩ => by
    unfold sApp at q
    split at q
    · rename_i xs hi
      obtain ⟨y, h1, p, vs, rfl, h2, h3, h4, h5⟩ := S.ok i _ hi
      refine ⟨.ref p, h1, .inl ⟨rfl, _, .inl (.inl h2)⟩, r, F, F0, B, S, (Aft.so S q).imp fun d F1 H1 _ g k v rv => ?_⟩
      by_cases hl : xs.length < lim
      · rw [if_pos hl] at k
        refine ⟨p, vs, v, rfl, rfl, g.h _ _ h2, by rw [h5.length]; exact lim_lt hl, ?_⟩
        exact k σ F1 _ (Same.refl _) ((S.grow g).write hi h1 ((h5.mono g.f).append ⟨v, [], rfl, rv, rfl⟩))
      · rw [if_neg hl] at k
        exact False.elim k
    · rename_i p xs hi
      obtain ⟨y, h1, vs, rfl, h2, h3, h4, h5⟩ := S.ok i _ hi
      refine ⟨.ref p, h1, .inl ⟨rfl, _, .inl (.inl h2)⟩, r, F, F0, B, S, (Aft.so S q).imp fun d F1 H1 _ g k v rv => ?_⟩
      by_cases hl : xs.length < lim
      · rw [if_pos hl] at k
        refine ⟨p, vs, v, rfl, rfl, g.h _ _ h2, by rw [h5.length]; exact lim_lt hl, ?_⟩
        exact k σ F1 _ (Same.refl _) ((S.grow g).writeIo hi h1 ((h5.mono g.f).append ⟨v, [], rfl, rv, rfl⟩))
      · rw [if_neg hl] at k
        exact False.elim k
    · exact False.elim q
/-- own[k] = x -/
theorem ds_setix {i : Nat} {x : Str} {xp tp : Pos} {k : Expr} (hN : X.N[i]? = some x) (hv : Vis X.env.scope x) (hk : DX X ec W k ψ) (ha : DE X ec W e φ)
    (h : ∀ {te to ti : TE}, PE X e te → PE X (.Name x xp) to → PE X k ti → PS X (.Assign [.Subscript (.Name x xp) k tp] e pos) (tAsg te (gSub to ti rSetL))) (hd : (x == ("__debug__" : Str)) = false := by decide) (hcd : (x == ("__classdict__" : Str)) = false := by decide) :
    DS X ec W (.Assign [.Subscript (.Name x xp) k tp] e pos) (sSetIx i ψ φ) := psImp (h ha (pe_var hN hv hd hcd) hk) fun D σ H ⟨r, F, F0, B, S, q⟩ => by
  unfold sSetIx at q
  split at q
  · rename_i xs hi
    obtain ⟨y, h1, p, vs, rfl, h2, h3, h4, h5⟩ := S.ok i _ hi
    refine ⟨r, F, F0, B, S, (Aft.so S q).imp fun d F1 H1 _ g1 k1 v rv => ⟨.ref p, h1, r, F1, F0, B, S.grow g1, (Aft.so (S.grow g1) k1).imp fun j F2 H2 ej g2 k2 u ru => ?_⟩⟩
    split at k2
    · rename_i m
      split at k2
      · rename_i n hn
        have h5' := (h5.mono g1.f).mono g2.f
        refine ⟨p, vs, m, n, rfl, ru, g2.h _ _ (g1.h _ _ h2), by rw [h5'.length]; exact hn, ?_⟩
        exact k2 σ F2 _ (Same.refl _) (((S.grow g1).grow g2).write hi h1 (RepL.set (rv.mono g2.f) n h5'))
      · exact False.elim k2
    · exact False.elim k2
  · rename_i p xs hi
    obtain ⟨y, h1, vs, rfl, h2, h3, h4, h5⟩ := S.ok i _ hi
    refine ⟨r, F, F0, B, S, (Aft.so S q).imp fun d F1 H1 _ g1 k1 v rv => ⟨.ref p, h1, r, F1, F0, B, S.grow g1, (Aft.so (S.grow g1) k1).imp fun j F2 H2 ej g2 k2 u ru => ?_⟩⟩
    split at k2
    · rename_i m
      split at k2
      · rename_i n hn
        have h5' := (h5.mono g1.f).mono g2.f
        refine ⟨p, vs, m, n, rfl, ru, g2.h _ _ (g1.h _ _ h2), by rw [h5'.length]; exact hn, ?_⟩
        exact k2 σ F2 _ (Same.refl _) (((S.grow g1).grow g2).writeIo hi h1 (RepL.set (rv.mono g2.f) n h5'))
      · exact False.elim k2
    · exact False.elim k2
  · exact False.elim q
/-! ### loops -/
theorem loop_use {K : PySem.W.Frag} {g : Tg} {J : It} {F0 B : Hp} {D : Ends} {xs : List DL.D} {Fb : Hp} (hJ : IterOk K Fb Fb J xs) {σ : L2.St} {H : Hp} {r : Env} (S : SR K F0 B r σ H Fb) (h : Aft K ec W F0 B Fb (loopF g b xs r) D) :
    ∃ Wv : Nat → Nat → L2.St → Hp → Prop, (∃ m, Wv 0 m σ H) ∧ ∀ i m σ H, Wv i m σ H →
      (J.stop i H ∧ D.nx σ H) ∨ (J.go i H ∧ ∃ N : L2.St → Hp → Prop, (∀ σ' H', N σ' H' → ∃ m', m' < m ∧ Wv (i + 1) m' σ' H') ∧ ∀ x H', J.yld i H x H' → tgT K g x σ H' fun σ2 H2 => tS K ec W b { D with nx := N, ct := N, bk := D.nx } σ2 H2) := by
  obtain ⟨G, Y, w, hG, hY⟩ := hJ
  refine for_it w (fun i σ H => ∃ r F, i ≤ xs.length ∧ Same Fb F ∧ SR K F0 B r σ H F ∧ Aft K ec W F0 B F (loopF g b (xs.drop i) r) D) ⟨r, Fb, Nat.zero_le _, Same.refl _, S, h⟩ ?_ ?_ ?_
  · rintro i σ H _ ⟨r, F, _, sf, S, _⟩
    exact hG _ (sf.trans S.gr.i)
  · rintro i x σ H H' hi ⟨r, F, _, sf, S, h⟩ y
    obtain ⟨d, hd⟩ : ∃ d, xs[i]? = some d := ⟨xs[i], List.getElem?_eq_getElem hi⟩
    have hdrop : xs.drop i = d :: xs.drop (i + 1) := by
      rw [List.drop_eq_getElem_cons hi]
      congr 1
      have := List.getElem?_eq_getElem hi
      rw [hd] at this
      exact (Option.some.inj this).symm
    obtain ⟨F3, g3, r3⟩ := hY i d _ x H' F hd (sf.trans S.gr.i) sf S.gr.i y
    have S3 := S.grow g3
    rw [hdrop] at h
    unfold loopF at h
    split at h
    · exact False.elim h
    · rename_i r1 hput
      refine put_ok S3 r3 hput fun σ2 S4 _ => ⟨r1, F3, F0, B, S4, ?_⟩
      have sf3 := sf.trans g3.f
      have h3 := Aft.mono g3.f h
      revert h3
      match b r1 with
      | none => exact fun z => z
      | some (.nx r2) => exact fun z σ' F' H' q S' => ⟨r2, F', hi, sf3.trans q, S', Aft.mono q z⟩
      | some (.ct r2) => exact fun z σ' F' H' q S' => ⟨r2, F', hi, sf3.trans q, S', Aft.mono q z⟩
      | some (.bk r2) => exact fun z => z
      | some (.rt d) => exact fun z => z
      | some (.er e r2) => exact fun z => z
      | some (.ro i r2) => exact fun z => z
      | some (.ri d r2) => exact fun z => z
      | some (.rl xs) => exact fun z => z
  · rintro σ H ⟨r, F, _, sf, S, h⟩
    rw [List.drop_length] at h
    exact h σ F H (Same.refl _) S
theorem ds_for {g : Tg} (hp : PassesOwn (model X.prog X.w) X.A X.env X.xe) (hc : X.calm = true) (hi : DI X ec W tg iter ι) (hg : PG X tg (tgT X.K g)) (hb : DSs X ec W sts b) (hs : ∀ x, foldedSetIterable iter X.env x = pure x := by intro _; rfl) : DS X ec W (.For tg iter sts [] pos) (sFor ι g b) :=
  psImp (ps_for hp hc hi hg hb hs) fun D σ H ⟨r, F, F0, B, S, q⟩ => ⟨r, F, F0, B, S, (Aft.so S q).imp fun xs F1 H1 _ g1 k J hJ => loop_use hJ (S.grow g1) k⟩
end
/-! ### a def -/
theorem slots_rep {K : PySem.W.Frag} {F H : Hp} (e : Same F H) : ∀ {ds : List D} {vs : List V} (n : Nat), RepL K F ds vs → SR K F H (ds.map Slot.d ++ List.replicate n Slot.un) (vs.map some ++ List.replicate n none) H F := by
  intro ds vs n h
  have hl := h.length
  refine ⟨Gr.refl e, by rw [List.length_append, List.length_append, List.length_map, List.length_map, List.length_replicate, List.length_replicate, hl], fun i s q => ?_, fun i j s t y z a _ q _ _ _ f1 _ => ?_, ⟨[], fun u hu => absurd hu List.not_mem_nil, fun i xs q => ?_⟩⟩
  · by_cases c : i < ds.length
    · rw [List.getElem?_append_left (by rw [List.length_map]; exact c), List.getElem?_map] at q
      cases ed : ds[i]? with
      | none => rw [ed] at q; cases q
      | some d =>
        rw [ed] at q
        have es : s = .d d := (Option.some.inj q).symm
        subst es
        obtain ⟨v, h1, h2⟩ := h.get ed
        exact ⟨some v, by rw [List.getElem?_append_left (by rw [List.length_map, hl]; exact c), List.getElem?_map, h1]; rfl, v, rfl, h2⟩
    · have hlen : i < ds.length + n := by
        have := get_lt q
        rwa [List.length_append, List.length_map, List.length_replicate] at this
      rw [List.getElem?_append_right (by rw [List.length_map]; omega), List.getElem?_replicate] at q
      split at q
      · have es : s = .un := (Option.some.inj q).symm
        subst es
        refine ⟨none, ?_, trivial⟩
        rw [List.getElem?_append_right (by rw [List.length_map, hl]; omega), List.getElem?_replicate, if_pos (by rw [List.length_map, hl]; omega)]
      · cases q
  · by_cases c : i < ds.length
    · rw [List.getElem?_append_left (by rw [List.length_map]; exact c), List.getElem?_map] at q
      cases ed : ds[i]? with
      | none => rw [ed] at q; cases q
      | some d =>
        rw [ed] at q
        have es : s = .d d := (Option.some.inj q).symm
        subst es
        exact f1
    · rw [List.getElem?_append_right (by rw [List.length_map]; omega), List.getElem?_replicate] at q
      split at q
      · have es : s = .un := (Option.some.inj q).symm
        subst es
        exact f1
      · cases q
  · exfalso
    by_cases c : i < ds.length
    · rw [List.getElem?_append_left (by rw [List.length_map]; exact c), List.getElem?_map] at q
      cases ed : ds[i]? with
      | none => rw [ed] at q; cases q
      | some d =>
        rw [ed] at q
        cases q
    · rw [List.getElem?_append_right (by rw [List.length_map]; omega), List.getElem?_replicate] at q
      split at q
      · cases q
      · cases q
theorem fn_ok {P : Program} {w : World} {K : PySem.W.Frag} {mg : Str → Option Value} {base : Heap} {ec : EC} {x qual : Str} {st : Stmt} {f : Addr} {fd : FuncData} {N ps : List Str} {k n p : Nat} {b : SX} (F : Fun K x qual st f fd) (S : FnScope N ps (defScope st))
    (hn : N.length = n := by rfl) (hp : ps.length = p := by rfl)
    (body : ∀ (cdv : Value) (A : Around) (outer : List PySem.Env) (s : Shared) (H : Hp) (E : XK), Room k (A.deeper (envOfC qual (defScope st) s.heap.objs.size f cdv)) →
      DSs (cxOf (L2.CX P w) P w K mg base N qual (defScope st) f cdv A outer s H E) ec (fun c d _ H => E c d H) (defBody st) b) :
    FnOk P w K mg base (L2.CX P w) (k + 1) f fd ps (spD K ec p (runD n p b)) := by
  refine F.okX S (fun vs H Q E h => by rw [hp]; exact spD_len h) (fun cdv A outer s H vs Q E hr h => ⟨_, body cdv A outer s H E hr, ?_⟩)
  obtain ⟨ds, F, h1, sf, h2, h3⟩ := h
  refine ⟨slots n ds, F, F, H, ?_, ?_⟩
  · have e := slots_rep sf (n - ds.length) h2
    have e2 : L2.start N vs = vs.map some ++ List.replicate (n - ds.length) none := by
      unfold L2.start
      rw [hn, h2.length]
    rw [e2]
    exact e
  · unfold runD at h3
    rw [if_pos h1] at h3
    revert h3
    match b (slots n ds) with
    | none => exact fun z => z
    | some (.nx r) => exact fun z σ' F' H' sf S' => Thn.ok S'.gr.i (a := PyData.none) (Thn.grow S'.gr z) .non rfl
    | some (.rt d) => exact fun z v F' H' sf g rv => Thn.ok g.i (a := d) (Thn.grow g z) v rv
    | some (.bk r) => exact fun z => False.elim z
    | some (.ct r) => exact fun z => False.elim z
    | some (.er e r) => exact fun z dx σ' F' H' sf S' he => z dx F' H' S'.gr he
    | some (.ro i r) => exact fun z => False.elim z
    | some (.ri d r) => exact fun z => False.elim z
    | some (.rl xs) => exact fun z => False.elim z
/-- called with data ds it gives a new list of f ds, that nothing else knows -/
def spO (K : PySem.W.Frag) (ec : EC) (n : Nat) (f : List D → R (List D)) : Sp := fun vs H Q E => ∃ ds F, ds.length = n ∧ Same F H ∧ RepL K F ds vs ∧
  Thn K ec (fun c d _ H => E c d H) (f ds) [] F H fun xs F' H' => ∀ p us, H' p = some (.lst us) → F' p = none → H p = none → RepL K F' xs us → Q (.ref p) H'
theorem spO_len {K : PySem.W.Frag} {ec : EC} {n : Nat} {f : List D → R (List D)} {vs : List V} {H : Hp} {Q : VK} {E : XK} (h : spO K ec n f vs H Q E) : vs.length = n := by
  obtain ⟨ds, F, h1, _, h2, _⟩ := h
  rw [h2.length, h1]
theorem fn_okO {P : Program} {w : World} {K : PySem.W.Frag} {mg : Str → Option Value} {base : Heap} {ec : EC} {x qual : Str} {st : Stmt} {f : Addr} {fd : FuncData} {N ps : List Str} {k n p : Nat} {b : SX} (F : Fun K x qual st f fd) (S : FnScope N ps (defScope st))
    (hn : N.length = n := by rfl) (hp : ps.length = p := by rfl)
    (body : ∀ (cdv : Value) (A : Around) (outer : List PySem.Env) (s : Shared) (H : Hp) (E : XK), Room k (A.deeper (envOfC qual (defScope st) s.heap.objs.size f cdv)) →
      DSs (cxOf (L2.CX P w) P w K mg base N qual (defScope st) f cdv A outer s H E) ec (fun c d _ H => E c d H) (defBody st) b) :
    FnOk P w K mg base (L2.CX P w) (k + 1) f fd ps (spO K ec p (runO n p b)) := by
  refine F.okX S (fun vs H Q E h => by rw [hp]; exact spO_len h) (fun cdv A outer s H vs Q E hr h => ⟨_, body cdv A outer s H E hr, ?_⟩)
  obtain ⟨ds, F, h1, sf, h2, h3⟩ := h
  refine ⟨slots n ds, F, F, H, ?_, ?_⟩
  · have e := slots_rep sf (n - ds.length) h2
    have e2 : L2.start N vs = vs.map some ++ List.replicate (n - ds.length) none := by
      unfold L2.start
      rw [hn, h2.length]
    rw [e2]
    exact e
  · unfold runO at h3
    rw [if_pos h1] at h3
    revert h3
    match b (slots n ds) with
    | none => exact fun z => z
    | some (.nx r) => exact fun z => False.elim z
    | some (.rt d) => exact fun z => False.elim z
    | some (.bk r) => exact fun z => False.elim z
    | some (.ct r) => exact fun z => False.elim z
    | some (.er e r) => exact fun z dx σ' F' H' sf S' he => z dx F' H' S'.gr he
    | some (.ri d r) => exact fun z => False.elim z
    | some (.rl xs) =>
      intro z p us F' H' sf' g' h5 h6 h7 h8
      have z' : Thn K ec (fun c d _ H => E c d H) (ok xs) [] F H fun xs F' H' => ∀ p us, H' p = some (.lst us) → F' p = none → H p = none → RepL K F' xs us → Q (.ref p) H' := z
      exact z' F' H' g' p us h5 h6 h7 h8
    | some (.ro i r) =>
      intro z v σ' F' H' sf' S' hv
      dsimp only at z
      cases hi : r[i]? with
      | none => rw [hi] at z; exact False.elim z
      | some s =>
        cases s with
        | own xs =>
          rw [hi] at z
          obtain ⟨a, us, e, h4, h5, h6, h7⟩ := S'.slot hi hv
          cases e
          have z' : Thn K ec (fun c d _ H => E c d H) (ok xs) [] F H fun xs F' H' => ∀ p us, H' p = some (.lst us) → F' p = none → H p = none → RepL K F' xs us → Q (.ref p) H' := z
          exact z' F' H' S'.gr a us h4 h5 h6 h7
        | _ => rw [hi] at z; exact False.elim z
/-! ### a def that stands behind the top, and what it gives -/
structure DOk (P : Program) (w : World) (K : PySem.W.Frag) (mg : Str → Option Value) (base : Heap) (ec : EC) (x : Str) (ps : List Str) (k p : Nat) (g : List D → R D) : Prop where
  ex : ∃ (f : Addr) (fd : FuncData), mg x = some (.ref f) ∧ PySem.W.keepIn K (.ref f) = true ∧ Binds K fd ps [] ∧ FnOk P w K mg base (L2.CX P w) k f fd ps (spD K ec p g) ∧ ∃ oc od sl, K.lookup f = some ⟨oc, od, .func fd, sl⟩
/-- a def as the top has made it -/
theorem Fun.at {K : PySem.W.Frag} {x qual : Str} {st : Stmt} {f : Addr} {fd : FuncData} (F : Fun K x qual st f fd) : ∃ oc od sl, K.lookup f = some ⟨oc, od, .func fd, sl⟩ := by
  obtain ⟨oc, od, _, _, _, _, _, _, sl, _, h, _⟩ := F.ex
  exact ⟨oc, od, sl, h⟩
structure DAt (K : PySem.W.Frag) (mg : Str → Option Value) (x : Str) (st : Stmt) (ps : List Str) : Prop where
  ex : ∃ (f : Addr) (fd : FuncData), mg x = some (.ref f) ∧ Fun K x x st f fd ∧ Binds K fd ps []
theorem DAt.ok {P : Program} {w : World} {K : PySem.W.Frag} {mg : Str → Option Value} {base : Heap} {ec : EC} {x : Str} {st : Stmt} {N ps : List Str} {k n p : Nat} {b : SX} (D : DAt K mg x st ps) (S : FnScope N ps (defScope st))
    (hn : N.length = n := by rfl) (hp : ps.length = p := by rfl)
    (body : ∀ (f : Addr) (cdv : Value) (A : Around) (outer : List PySem.Env) (s : Shared) (H : Hp) (E : XK), Room k (A.deeper (envOfC x (defScope st) s.heap.objs.size f cdv)) →
      DSs (cxOf (L2.CX P w) P w K mg base N x (defScope st) f cdv A outer s H E) ec (fun c d _ H => E c d H) (defBody st) b) :
    DOk P w K mg base ec x ps (k + 1) p (runD n p b) := by
  obtain ⟨f, fd, h1, h2, h3⟩ := D.ex
  exact ⟨f, fd, h1, h2.kp, h3, fn_ok h2 S hn hp (body f), Fun.at h2⟩
/-- the same of a def that gives a list of its own -/
structure DOkO (P : Program) (w : World) (K : PySem.W.Frag) (mg : Str → Option Value) (base : Heap) (ec : EC) (x : Str) (ps : List Str) (k p : Nat) (g : List D → R (List D)) : Prop where
  ex : ∃ (f : Addr) (fd : FuncData), mg x = some (.ref f) ∧ PySem.W.keepIn K (.ref f) = true ∧ Binds K fd ps [] ∧ FnOk P w K mg base (L2.CX P w) k f fd ps (spO K ec p g)
theorem DAt.okO {P : Program} {w : World} {K : PySem.W.Frag} {mg : Str → Option Value} {base : Heap} {ec : EC} {x : Str} {st : Stmt} {N ps : List Str} {k n p : Nat} {b : SX} (D : DAt K mg x st ps) (S : FnScope N ps (defScope st))
    (hn : N.length = n := by rfl) (hp : ps.length = p := by rfl)
    (body : ∀ (f : Addr) (cdv : Value) (A : Around) (outer : List PySem.Env) (s : Shared) (H : Hp) (E : XK), Room k (A.deeper (envOfC x (defScope st) s.heap.objs.size f cdv)) →
      DSs (cxOf (L2.CX P w) P w K mg base N x (defScope st) f cdv A outer s H E) ec (fun c d _ H => E c d H) (defBody st) b) :
    DOkO P w K mg base ec x ps (k + 1) p (runO n p b) := by
  obtain ⟨f, fd, h1, h2, h3⟩ := D.ex
  exact ⟨f, fd, h1, h2.kp, h3, fn_okO h2 S hn hp (body f)⟩
section
variable {X : Cx} {ec : EC} {W : WX} {e : Expr} {es : List Expr} {pos p : Pos}
theorem dl_callO {j k n : Nat} {ps : List Str} {g : List D → R (List D)} {x : Str} {as : List EX} (G : DOkO X.prog X.w X.K X.mg X.base ec x ps j n g) (hr : Room k X.A) (tk : Takes X W) (hjk : j ≤ k) (hg : Gl X x) (ha : DA X ec W (e :: es) (vArgs as)) (hn : as.length = n := by rfl) (hdb : (x == ("__debug__" : Str)) = false := by decide)
    (he : starEach (e :: es) X.env = (false, eval e X.env) :: starEach es X.env := by rfl) (hpl : (backTo pos (starEach es X.env)).any (·.1) = false := by rfl) : DLi X ec W (.Call (.Name x p) (e :: es) [] pos) (lCall g as) := by
  obtain ⟨f, fd, h1, h2, h3, h4⟩ := G.ex
  refine peImp (pe_callS h4 (hr.mono hjk) hg h1 h2 h3 (fun σ => passAt tk σ) ha hdb he hpl) fun σ H Q ⟨r, F, F0, B, S, q⟩ =>
    ⟨r, F, F0, B, S, (Thn.bind q).imp fun ds F1 H1 ex g1 k1 vs rs => ⟨ds, F1, by rw [vArgs_len ex]; exact hn, g1.i, rs, ?_⟩⟩
  revert k1
  match g ds with
  | none => exact fun z => z
  | some (.error _) => exact fun z => z
  | some (.ok xs) =>
    intro z F' H' g' p us hp fp hp0 ru
    have z' : Thn X.K ec W (ok xs) σ F1 H1 fun xs F' H' => ∀ p vs, H' p = none → RepL X.K F' xs vs → Q (.ref p) (upd H' p (.lst vs)) := z
    have g2 : Gr F1 H1 F' (DL.del H' p) := by
      refine ⟨g'.f, fun b o q => ?_, fun b o q => ?_, g'.n⟩
      · rw [del_ne (ne_of_none q hp0)]
        exact g'.h b o q
      · rw [del_ne (ne_of_none q fp)]
        exact g'.i b o q
    have z2 := z' F' (DL.del H' p) g2 p us del_self ru
    rw [upd_del hp] at z2
    exact z2
end
section
variable {X : Cx} {ec : EC} {W : WX} {e : Expr} {es : List Expr} {pos p : Pos}
theorem de_callD {j k n : Nat} {ps : List Str} {g : List D → R D} {x : Str} {as : List EX} (G : DOk X.prog X.w X.K X.mg X.base ec x ps j n g) (hr : Room k X.A) (tk : Takes X W) (hjk : j ≤ k) (hg : Gl X x) (ha : DA X ec W (e :: es) (vArgs as)) (hn : as.length = n := by rfl) (hdb : (x == ("__debug__" : Str)) = false := by decide)
    (he : starEach (e :: es) X.env = (false, eval e X.env) :: starEach es X.env := by rfl) (hpl : (backTo pos (starEach es X.env)).any (·.1) = false := by rfl) : DE X ec W (.Call (.Name x p) (e :: es) [] pos) (vCall g as) := by
  obtain ⟨f, fd, h1, h2, h3, h4, _⟩ := G.ex
  exact de_call h4 (hr.mono hjk) hg h1 h2 h3 (fun σ => passAt tk σ) ha hn hdb he hpl
end
/-- the built-ins that the text uses by their names -/
structure Bl (mg : Str → Option Value) : Prop where
  len : mg "len" = none
  range : mg "range" = none
  isinstance : mg "isinstance" = none
  int : mg "int" = none
  bool : mg "bool" = none
  str : mg "str" = none
  list : mg "list" = none
  tuple : mg "tuple" = none
  dict : mg "dict" = none
  set : mg "set" = none
  min : mg "min" = none
  max : mg "max" = none
  sum : mg "sum" = none
  all : mg "all" = none
  any : mg "any" = none
  sorted : mg "sorted" = none
  enumerate : mg "enumerate" = none
  zip : mg "zip" = none
/-- names of builtins that no global hides -/
def bltB (K : PySem.W.Frag) (xs : List Str) : Bool := xs.all fun x => match PySem.W.nsIn K mainGlobals x with
  | some none => true
  | _ => false
theorem bltB_at {K : PySem.W.Frag} {xs : List Str} (h : bltB K xs = true) {x : Str} (hx : x ∈ xs) : PySem.W.nsIn K mainGlobals x = some none := by
  have := List.all_eq_true.mp h x hx
  revert this
  match PySem.W.nsIn K mainGlobals x with
  | some none => exact fun _ => rfl
  | none => exact fun z => nomatch z
  | some (some _) => exact fun z => nomatch z
/-! ### the law's own end -/
theorem ints_rep {K : PySem.W.Frag} {F : Hp} : ∀ (ns : List Int), RepL K F (ns.map PyData.int) (ns.map V.int)
  | [] => rfl
  | n :: ns => ⟨_, _, rfl, rfl, ints_rep ns⟩
/-- the promise where no error comes -/
def spOk (K : PySem.W.Frag) (n : Nat) (g : List D → R D) : Sp := fun vs H Q E => ∃ ds F d, ds.length = n ∧ Same F H ∧ RepL K F ds vs ∧ g ds = ok d ∧ ∀ v F' H', Gr F H F' H' → Rep K F' d v → Q v H'
theorem spOk_D {K : PySem.W.Frag} {ec : EC} {n : Nat} {g : List D → R D} {vs : List V} {H : Hp} {Q : VK} {E : XK} (h : spOk K n g vs H Q E) : spD K ec n g vs H Q E := by
  obtain ⟨ds, F, d, h1, h2, h3, h4, h5⟩ := h
  refine ⟨ds, F, h1, h2, h3, ?_⟩
  rw [h4]
  exact fun F' H' g' v rv => h5 v F' H' g' rv
theorem law_walk {l : PySem.W.OpenLaw} {q : Program} {loose : List Str} {XP : (Str → Option Value) → Heap → Prop} {YP : World → Heap → Prop} {d : DefRec} {K : Params → PySem.W.Frag} {n k : Nat} {x : Str} {g : List D → R D} (hn : l.most = some n) (hn2 : n ≤ sizeLine) (hdf : d.params.defaults = []) (hr : Room k callerA)
    (hg : ∀ ns : List Int, ns.length ≤ n → g [.list (ns.map PyData.int)] = ok (.bool true))
    (hY : ∀ (w : World) (h : Heap), YP w h → (K w.params).In h)
    (F : ∀ (w : World) (mg : Str → Option Value) (fa : Addr) (h : Heap), (K w.params).In h → h.Ns mainGlobals mg → mg d.name = some (.ref fa) →
      ∃ fd : FuncData, (∀ (s : Shared) (u : Value), BindsTo s fd ⟨[u], []⟩ [(x, u)]) ∧ ∀ base : Heap, (K w.params).In base → base.Ns mainGlobals mg → ∃ ec : EC, FnOk l.prog w (K w.params) mg base (L2.CX l.prog w) k fa fd [x] (spD (K w.params) ec 1 g)) :
    PySem.W.WalkO q loose XP YP l.row.toRowW d [] (fun f vs => PySem.call f vs) := by
  refine L2.walk_of (K := K) (CX := fun w => L2.CX l.prog w) (sp := fun w => spOk (K w.params) 1 g) (x := x) (k := k) hn hn2 hdf hr hY (fun w mg fa h h1 h2 h3 => ?_) (fun w H a ns h1 _ h2 => ?_) (fun w H s e s' h => ?_)
  · obtain ⟨fd, h4, h5⟩ := F w mg fa h h1 h2 h3
    refine ⟨fd, h4, fun base h6 h7 => ?_⟩
    obtain ⟨ec, h8⟩ := h5 base h6 h7
    exact h8.imp fun vs H Q E z => spOk_D z
  · exact ⟨[.list (ns.map PyData.int)], H, _, rfl, Same.refl H, ⟨_, _, rfl, ⟨a, _, rfl, h2, ints_rep ns⟩, rfl⟩, hg ns h1, fun v F' H' g' rv => rv⟩
  · obtain ⟨_, _, _, _, _, _, _, _, _, _, _, _, z⟩ := h
    exact z
end DL
/-! A set of tuples that hold ints and such tuples: how many there are. -/
namespace DL
open PySem PySem.Spec PyProof.Rows L2

mutual
def hD : D → Int
  | .int i => hashInt i
  | .tuple xs => reduceHash (Builtin.Tuple.tupleHashOf (hDs xs))
  | _ => 0
def hDs : List D → List Int
  | [] => []
  | x :: xs => hD x :: hDs xs
end
section
variable {P : Program} {w : World} {A : Around} {E : Value → Shared → Prop} {s : Shared}
/-- v is the datum d in the heap h -/
abbrev Is (h : Heap) (d : D) (v : Value) : Prop := ∃ as, Reads h v d as
abbrev IsAll (h : Heap) (ds : List D) (vs : List Value) : Prop := ∃ as, ReadsAll h vs ds as
theorem IsAll.cons {h : Heap} {d : D} {ds : List D} {vs : List Value} (x : IsAll h (d :: ds) vs) : ∃ v us, vs = v :: us ∧ Is h d v ∧ IsAll h ds us := by
  obtain ⟨as, r⟩ := x
  cases r with
  | cons r1 r2 => exact ⟨_, _, rfl, ⟨_, r1⟩, ⟨_, r2⟩⟩
theorem IsAll.nil {h : Heap} {vs : List Value} (x : IsAll h [] vs) : vs = [] := by
  obtain ⟨as, r⟩ := x
  cases r
  rfl
theorem Is.int {h : Heap} {i : Int} {v : Value} (x : Is h (.int i) v) : ∃ t, v = .int i t := by
  obtain ⟨as, r⟩ := x
  cases r with
  | int _ t => exact ⟨t, rfl⟩
theorem Is.tup {h : Heap} {ds : List D} {v : Value} (x : Is h (.tuple ds) v) : ∃ a o vs n, v = .ref a ∧ h.get? a = some o ∧ o.cls = .type "tuple" ∧ o.data = .seq vs n ∧ IsAll h ds vs.toList := by
  obtain ⟨as, r⟩ := x
  cases r with
  | tuple h1 h2 h3 h4 => exact ⟨_, _, _, _, rfl, h1, h2, h3, ⟨_, h4⟩⟩
theorem deepI_cases {n : Nat} {d : D} (h : deepI n d = true) : (∃ i, d = .int i) ∨ ∃ m xs, n = m + 1 ∧ d = .tuple xs ∧ ∀ x ∈ xs, deepI m x = true := by
  cases d with
  | int i => exact .inl ⟨i, rfl⟩
  | tuple xs =>
    cases n with
    | zero => cases h
    | succ m =>
      refine .inr ⟨m, xs, rfl, rfl, fun x hx => ?_⟩
      have h' : xs.all (deepI m) = true := h
      exact List.all_eq_true.mp h' x hx
  | _ => cases n <;> cases h
/-- a walk over the items of a tuple: nothing is found -/
theorem each_item {α : Type} {f : Value → Option α × PUnit → Sem (ForInStep (Option α × PUnit))} {ds : List D} {vs : Array Value} {p : D → Prop} (hp : ∀ d ∈ ds, p d) (hi : IsAll s.heap ds vs.toList)
    (step : ∀ (d : D) (v : Value) (Q : ForInStep (Option α × PUnit) → Shared → Prop), p d → Is s.heap d v → Q (.yield (none, ⟨⟩)) s → wpAny (model P w) A (f v (none, ⟨⟩)) Q E s) {Q : Option α × PUnit → Shared → Prop} (h : Q (none, ⟨⟩) s) :
    wpAny (model P w) A (forIn vs (none, ⟨⟩) f) Q E s := by
  rw [← Array.forIn_toList]
  refine wpAny_forIn_list _ (fun left r s' => r = (none, ⟨⟩) ∧ s' = s ∧ ∃ es, (∀ d ∈ es, p d) ∧ IsAll s.heap es left) _ ?_ ?_ _ _ ⟨rfl, rfl, ds, hp, hi⟩
  · rintro v left r s' ⟨rfl, rfl, es, h1, h2⟩
    cases es with
    | nil => exact absurd h2.nil (by simp)
    | cons d es =>
      obtain ⟨v', us, e, h3, h4⟩ := h2.cons
      cases e
      exact step d v _ (h1 d List.mem_cons_self) h3 ⟨rfl, rfl, es, fun x hx => h1 x (List.mem_cons_of_mem _ hx), h4⟩
  · rintro r s' ⟨rfl, rfl, _⟩
    exact h
theorem quiet_eq : ∀ (n : Nat) {d : D} {v : Value} {Q : Bool → Shared → Prop}, deepI n d = true → Is s.heap d v → ∀ f, n < f → Q true s → wpAny (model P w) A (eqIsQuiet f v) Q E s := by
  intro n
  induction n with
  | zero =>
    intro d v Q hd hv f hf hq
    rcases deepI_cases hd with ⟨i, rfl⟩ | ⟨m, xs, hm, _⟩
    · obtain ⟨t, rfl⟩ := hv.int
      cases f <;> exact wpAny_pure hq
    · cases hm
  | succ n ih =>
    intro d v Q hd hv f hf hq
    rcases deepI_cases hd with ⟨i, rfl⟩ | ⟨m, xs, hm, rfl, hx⟩
    · obtain ⟨t, rfl⟩ := hv.int
      cases f <;> exact wpAny_pure hq
    · obtain rfl : n = m := by omega
      obtain ⟨a, o, vs, k, rfl, h1, h2, h3, h4⟩ := hv.tup
      have hT : s.TypeIs (.ref a) "tuple" := ⟨o, h1, h2⟩
      cases f with
      | zero => omega
      | succ f =>
        unfold eqIsQuiet
        refine wpAny_bind (wpAny_specialOf hT F.slot_tuple_eq.lookup ?_)
        show wpAny _ _ (isInstance (.ref a) (.type "tuple") >>= _) _ _ s
        refine wpAny_bind (wpAny_isInstance hT isSubtype_tuple_tuple ?_)
        simp only [Bool.not_true, Bool.false_eq_true, if_false]
        show wpAny _ _ (seqItems? (.ref a) >>= _) _ _ s
        refine wpAny_bind (wpAny_seqItems h1 h3 ?_)
        refine wpAny_bind (each_item (p := fun d => deepI n d = true) hx h4 (fun d v Q' hd' hv' hq' => ?_) ?_)
        · refine wpAny_bind (ih hd' hv' f (by omega) ?_)
          simp only [Bool.not_true, Bool.false_eq_true, if_false]
          exact wpAny_pure hq'
        · exact wpAny_pure hq
theorem quiet_cls : ∀ (n : Nat) {d : D} {v : Value} {Q : Bool → Shared → Prop}, deepI n d = true → Is s.heap d v → ∀ f, n < f → Q false s → wpAny (model P w) A (ofAClassStatement f v) Q E s := by
  intro n
  induction n with
  | zero =>
    intro d v Q hd hv f hf hq
    rcases deepI_cases hd with ⟨i, rfl⟩ | ⟨m, xs, hm, _⟩
    · obtain ⟨t, rfl⟩ := hv.int
      cases f <;> exact wpAny_pure hq
    · cases hm
  | succ n ih =>
    intro d v Q hd hv f hf hq
    rcases deepI_cases hd with ⟨i, rfl⟩ | ⟨m, xs, hm, rfl, hx⟩
    · obtain ⟨t, rfl⟩ := hv.int
      cases f <;> exact wpAny_pure hq
    · obtain rfl : n = m := by omega
      obtain ⟨a, o, vs, k, rfl, h1, h2, h3, h4⟩ := hv.tup
      have hT : s.TypeIs (.ref a) "tuple" := ⟨o, h1, h2⟩
      cases f with
      | zero => omega
      | succ f =>
        unfold ofAClassStatement
        refine wpAny_bind (wpAny_typeOf hT ?_)
        dsimp only
        have e : (("tuple" : String) == "tuple") = true := by decide
        simp only [e, if_true, Bool.not_true, Bool.false_eq_true, if_false]
        try refine wpAny_bind (wpAny_pure ?_)
        try simp only [Bool.not_true, Bool.false_eq_true, if_false]
        show wpAny _ _ (seqItems? (.ref a) >>= _) _ _ s
        refine wpAny_bind (wpAny_seqItems h1 h3 (wpAny_bind ?_))
        refine each_item (p := fun d => deepI n d = true) hx h4 (fun d v Q' hd' hv' hq' => ?_) ?_
        · refine wpAny_bind (ih hd' hv' f (by omega) ?_)
          simp only [Bool.false_eq_true, if_false]
          exact wpAny_pure hq'
        · exact wpAny_pure hq
theorem by_value : ∀ (n : Nat) {d : D} {v : Value} {Q : Bool → Shared → Prop}, deepI n d = true → Is s.heap d v → ∀ f, n < f → Q true s → wpAny (model P w) A (hashByValue f v) Q E s := by
  intro n
  induction n with
  | zero =>
    intro d v Q hd hv f hf hq
    rcases deepI_cases hd with ⟨i, rfl⟩ | ⟨m, xs, hm, _⟩
    · obtain ⟨t, rfl⟩ := hv.int
      cases f <;> exact wpAny_pure hq
    · cases hm
  | succ n ih =>
    intro d v Q hd hv f hf hq
    rcases deepI_cases hd with ⟨i, rfl⟩ | ⟨m, xs, hm, rfl, hx⟩
    · obtain ⟨t, rfl⟩ := hv.int
      cases f <;> exact wpAny_pure hq
    · obtain rfl : n = m := by omega
      obtain ⟨a, o, vs, k, rfl, h1, h2, h3, h4⟩ := hv.tup
      have hT : s.TypeIs (.ref a) "tuple" := ⟨o, h1, h2⟩
      cases f with
      | zero => omega
      | succ f =>
        unfold hashByValue
        refine wpAny_bind (wpAny_specialOf hT F.slot_tuple_hash.lookup ?_)
        show wpAny _ _ (seqItems? (.ref a) >>= _) _ _ s
        refine wpAny_bind (wpAny_seqItems h1 h3 (wpAny_bind ?_))
        refine each_item (p := fun d => deepI n d = true) hx h4 (fun d v Q' hd' hv' hq' => ?_) ?_
        · refine wpAny_bind (ih hd' hv' f (by omega) ?_)
          simp only [Bool.not_true, Bool.false_eq_true, if_false]
          exact wpAny_pure hq'
        · exact wpAny_pure hq
/-- a search among such shows nothing -/
theorem unseen {d : D} {a : Addr} {ys : List Value} {Q : Bool → Shared → Prop} (hd : deepI 3 d = true) (hv : Is s.heap d (.ref a)) (hy : ∀ y ∈ ys, ∃ c b, y = .ref b ∧ deepI 3 c = true ∧ Is s.heap c y) (h : Q false s) : wpAny (model P w) A (searchCouldBeSeen (.ref a) ys) Q E s := by
  unfold searchCouldBeSeen
  refine wpAny_bind (wpAny_forIn_list _ (fun left r s' => r.1 = none ∧ s' = s ∧ ∀ y ∈ left, ∃ c b, y = .ref b ∧ deepI 3 c = true ∧ Is s.heap c y) _ ?_ ?_ _ _ ⟨rfl, rfl, hy⟩)
  · rintro y left r s' ⟨hr, rfl, hall⟩
    obtain ⟨c, b, rfl, h1, h2⟩ := hall y List.mem_cons_self
    have go : ∀ u ∈ left, ∃ c b, u = .ref b ∧ deepI 3 c = true ∧ Is s'.heap c u := fun u hu => hall u (List.mem_cons_of_mem _ hu)
    dsimp only
    by_cases hab : (a == b || (carriedByValue (.ref a) && carriedByValue (.ref b))) = true
    · exact wp_if_pos hab (wpAny_pure ⟨rfl, rfl, go⟩)
    · refine wp_if_neg hab ?_
      refine wpAny_bind (quiet_eq 3 hd hv 8 (by decide) ?_)
      simp only [Bool.not_true, Bool.false_eq_true, if_false]
      refine wpAny_bind (quiet_eq 3 h1 h2 8 (by decide) ?_)
      simp only [Bool.not_true, Bool.false_eq_true, if_false]
      refine wpAny_bind (quiet_cls 3 hd hv 8 (by decide) ?_)
      simp only [Bool.false_eq_true, if_false]
      refine wpAny_bind (quiet_cls 3 h1 h2 8 (by decide) ?_)
      simp only [Bool.false_eq_true, if_false]
      exact wpAny_pure ⟨rfl, rfl, go⟩
  · rintro ⟨r1, r2⟩ s' ⟨hr, rfl, _⟩
    simp only at hr
    subst hr
    exact wpAny_pure h
/-! ### the hash -/
theorem hash_of : ∀ (n : Nat) {d : D} {v : Value} {A : Around} {s : Shared} {Q : Int → Shared → Prop}, deepI n d = true → Is s.heap d v → A.units + 8 * n < cLine → (∀ tk, Q (hD d) { s with toks := tk }) → wpAny (model P w) A (pyHash v) Q E s := by
  intro n
  induction n with
  | zero =>
    intro d v A s Q hd hv hu hq
    rcases deepI_cases hd with ⟨i, rfl⟩ | ⟨m, xs, hm, _⟩
    · obtain ⟨t, rfl⟩ := hv.int
      exact wpAny_pyHash_int (hq _)
    · cases hm
  | succ n ih =>
    intro d v A s Q hd hv hu hq
    rcases deepI_cases hd with ⟨i, rfl⟩ | ⟨m, xs, hm, rfl, hx⟩
    · obtain ⟨t, rfl⟩ := hv.int
      exact wpAny_pyHash_int (hq _)
    · obtain rfl : n = m := by omega
      obtain ⟨a, o, vs, k, rfl, h1, h2, h3, h4⟩ := hv.tup
      have hT : s.TypeIs (.ref a) "tuple" := ⟨o, h1, h2⟩
      unfold pyHash
      first | unfold pyHashByItsType | skip
      first | refine wpAny_bind (wpAny_cRoomFor_or (.inr (by omega)) ?_) | skip
      refine wpAny_bind (wpAny_specialOf hT F.slot_tuple_hash.lookup ?_)
      show wpAny _ _ (if (some (Value.builtin "tuple.__hash__") == some Value.none) = true then _ else _) Q E s
      rw [if_neg (by rw [beq_builtin_none]; exact Bool.false_ne_true)]
      refine wpAny_bind (wpAny_specialOf hT F.slot_tuple_hash.lookup ?_)
      show wpAny _ _ (callSpecialIfBoundUnlessNone? (.ref a) "__hash__" _ >>= _) Q E s
      refine wpAny_bind (wpAny_callSpecialIfBoundUnlessNone?_slot hT F.slot_tuple_hash (wpAny_call_entry F.slot_tuple_hash hT F.entry_tuple_hash ?_ (F.args_tuple_hash_1 _)))
      show wpAny _ _ (Builtin.Tuple.tupleItemsOf (.ref a) >>= _) _ _ s
      refine wpAny_bind (wpAny_tupleItemsOf h1 h3 (wpAny_bind ?_))
      rw [← Array.forIn_toList]
      refine wpAny_forIn_list _ (fun left b s' => (∃ tk, s' = { s with toks := tk }) ∧ ∃ done es, (∀ d ∈ es, deepI n d = true) ∧ IsAll s.heap es left ∧ b.toList = done ∧ done ++ hDs es = hDs xs) _ ?_ ?_ _ _ ⟨⟨s.toks, rfl⟩, [], xs, hx, h4, rfl, rfl⟩
      · rintro y left b s' ⟨⟨tk, rfl⟩, done, es, g1, g2, g3, g4⟩
        cases es with
        | nil => exact absurd g2.nil (by simp)
        | cons d es =>
          obtain ⟨v', us, e, g5, g6⟩ := g2.cons
          cases e
          refine wpAny_bind (ih (s := { s with toks := tk }) (g1 d List.mem_cons_self) g5 (by show A.units + 1 + 8 * n < cLine; omega) fun tk' => ?_)
          first
            | exact wpAny_pure ⟨⟨tk', rfl⟩, done ++ [hD d], es, fun x hx => g1 x (List.mem_cons_of_mem _ hx), g6, by simp [g3], by rw [← g4]; simp [hDs]⟩
            | exact wpAny_bind (wpAny_pure (wpAny_pure ⟨⟨tk', rfl⟩, done ++ [hD d], es, fun x hx => g1 x (List.mem_cons_of_mem _ hx), g6, by simp [g3], by rw [← g4]; simp [hDs]⟩))
      · rintro b s' ⟨⟨tk, rfl⟩, done, es, g1, g2, g3, g4⟩
        cases es with
        | cons d es =>
          obtain ⟨_, _, e, _⟩ := g2.cons
          cases e
        | nil =>
          have g5 : b.toList = hDs xs := by
            rw [g3, ← g4]
            simp [hDs]
          show wpAny _ _ (retInt (Builtin.Tuple.tupleHashOf b.toList)) _ _ _
          rw [g5]
          refine wpAny_ret_mkInt ?_
          show wpAny _ _ (if (decide (-(2 : Int) ^ 63 ≤ Builtin.Tuple.tupleHashOf (hDs xs)) && decide (Builtin.Tuple.tupleHashOf (hDs xs) < 2 ^ 63)) = true then _ else _) Q E _
          have hq' : ∀ tk, Q (reduceHash (Builtin.Tuple.tupleHashOf (hDs xs))) { s with toks := tk } := hq
          unfold reduceHash at hq'
          split
          · rename_i hr
            rw [if_pos hr] at hq'
            exact wpAny_pure (hq' _)
          · rename_i hr
            rw [if_neg hr] at hq'
            exact wpAny_bind (wpAny_rule (wpAny_pure (hq' _)))
/-- == -/
theorem deepI_lay : ∀ (n : Nat) {d : D}, deepI n d = true → PyData.canLay0 d = true ∧ d.depth ≤ n := by
  intro n
  induction n with
  | zero =>
    intro d hd
    rcases deepI_cases hd with ⟨i, rfl⟩ | ⟨m, xs, hm, _⟩
    · exact ⟨by simp [PyData.canLay0], by simp [PyData.depth]⟩
    · cases hm
  | succ n ih =>
    intro d hd
    rcases deepI_cases hd with ⟨i, rfl⟩ | ⟨m, xs, hm, rfl, hx⟩
    · exact ⟨by simp [PyData.canLay0], by simp [PyData.depth]⟩
    · obtain rfl : n = m := by omega
      have all : ∀ l : List D, (∀ x ∈ l, deepI n x = true) → PyData.canLayAll0 l = true ∧ PyData.depthAll l ≤ n := by
        intro l
        induction l with
        | nil => intro _; exact ⟨by simp [PyData.canLayAll0], by simp [PyData.depthAll]⟩
        | cons x l ihl =>
          intro h
          have h1 := ih (h x List.mem_cons_self)
          have h2 := ihl fun y hy => h y (List.mem_cons_of_mem _ hy)
          exact ⟨by simp [PyData.canLayAll0, h1.1, h2.1], by simp only [PyData.depthAll]; omega⟩
      have h1 := all xs hx
      exact ⟨by simp only [PyData.canLay0]; exact h1.1, by simp only [PyData.depth]; omega⟩
theorem same_of {d e : D} {u v : Value} {Q : Bool → Shared → Prop} (hd : deepI 3 d = true) (he : deepI 3 e = true) (hu : Is s.heap d u) (hv : Is s.heap e v) (hr : A.units + 8 < cLine) (h : Q (PyData.eqv d e) s) : wpAny (model P w) A (eqBool u v) Q E s := by
  obtain ⟨as, r1⟩ := hu
  obtain ⟨bs, r2⟩ := hv
  have h1 := deepI_lay 3 hd
  have h2 := deepI_lay 3 he
  exact SeqAt.eqBoolOverData P w A E s u v d e as bs Q r1 r2 h1.1 h2.1 (by
    have : min d.depth e.depth ≤ d.depth := Nat.min_le_left _ _
    omega) h
end
/-- such data are equal just if they are the same -/
theorem eqv_same : ∀ (n : Nat) {d e : D}, deepI n d = true → deepI n e = true → (PyData.eqv d e = true ↔ d = e) := by
  intro n
  induction n with
  | zero =>
    intro d e hd he
    rcases deepI_cases hd with ⟨i, rfl⟩ | ⟨m, xs, hm, _⟩
    · rcases deepI_cases he with ⟨j, rfl⟩ | ⟨m, xs, hm, _⟩
      · simp [PyData.eqv]
      · cases hm
    · cases hm
  | succ n ih =>
    intro d e hd he
    rcases deepI_cases hd with ⟨i, rfl⟩ | ⟨m, xs, hm, rfl, hx⟩
    · rcases deepI_cases he with ⟨j, rfl⟩ | ⟨m, xs, hm, rfl, _⟩
      · simp [PyData.eqv]
      · simp [PyData.eqv]
    · rcases deepI_cases he with ⟨j, rfl⟩ | ⟨m2, ys, hm2, rfl, hy⟩
      · simp [PyData.eqv]
      · obtain rfl : n = m := by omega
        obtain rfl : n = m2 := by omega
        have all : ∀ l k : List D, (∀ x ∈ l, deepI n x = true) → (∀ x ∈ k, deepI n x = true) → (PyData.eqvAll l k = true ↔ l = k) := by
          intro l
          induction l with
          | nil =>
            intro k _ _
            cases k <;> simp [PyData.eqvAll]
          | cons x l ihl =>
            intro k h1 h2
            cases k with
            | nil => simp [PyData.eqvAll]
            | cons y k =>
              have a1 := ih (h1 x List.mem_cons_self) (h2 y List.mem_cons_self)
              have a2 := ihl k (fun z hz => h1 z (List.mem_cons_of_mem _ hz)) fun z hz => h2 z (List.mem_cons_of_mem _ hz)
              simp only [PyData.eqvAll, Bool.and_eq_true, a1, a2, List.cons.injEq]
        have h := all xs ys hx hy
        simp only [PyData.eqv, h, PyData.tuple.injEq]
end DL
/-! The set's table, over such tuples. -/
namespace DL
open PySem PySem.Spec PyProof.Rows L2

/-- at a stands the set of the tuples L, each once -/
structure GS (h0 h : Heap) (a : Addr) (L : List (Addr × D)) (en : Array (Int × Value)) (ep : Nat) (tb : SetTable) : Prop where
  ob : ∃ o, h.get? a = some o ∧ o.ExactSet ∧ o.data = .set en ep tb
  rows : en.toList = L.map fun p => (hD p.2, Value.ref p.1)
  tab : TabOk tb (L.map fun p => hD p.2)
  nd : (L.map (·.2)).Nodup
  elt0 : ∀ p ∈ L, deepI 3 p.2 = true ∧ Is h0 p.2 (.ref p.1)
  base : ∀ b o, h0.get? b = some o → h.get? b = some o
  new : h0.get? a = none
  plain : tb.plain = true
  room : L.length * 5 < tb.mask * 3
  few : L.length ≤ 60
/-- the c-th place that a search for the hash z looks at -/
abbrev stepN (tb : SetTable) (z : Int) (c : Nat) : SetTable.Probe := nth tb.mask (tb.probeStart z) c
section
variable {P : Program} {w : World} {A : Around} {E : Value → Shared → Prop} {s : Shared} {h0 : Heap} {a : Addr} {L : List (Addr × D)} {en : Array (Int × Value)} {ep : Nat} {tb : SetTable}
theorem GS.size {h : Heap} (R : GS h0 h a L en ep tb) : en.size = L.length := by
  rw [← Array.length_toList, R.rows, List.length_map]
theorem GS.placed {h : Heap} (R : GS h0 h a L en ep tb) : tb.place.size = L.length := by
  rw [R.tab.sz, List.length_map]
theorem GS.fits {h : Heap} (R : GS h0 h a L en ep tb) : tb.fits en.size = true := by
  have h1 := R.placed
  have h2 := R.size
  have h3 := R.room
  unfold SetTable.fits SetTable.fill
  rw [R.tab.dm, Bool.and_eq_true, beq_iff_eq, decide_eq_true_eq]
  show tb.place.size = en.size ∧ tb.place.size + 0 ≤ tb.mask
  omega
theorem GS.entry {h : Heap} (R : GS h0 h a L en ep tb) {i : Nat} {p : Addr × D} (e : L[i]? = some p) : en[i]? = some (hD p.2, Value.ref p.1) := by
  rw [← Array.getElem?_toList, R.rows, List.getElem?_map, e]
  rfl
theorem GS.elt {h : Heap} (R : GS h0 h a L en ep tb) : ∀ p ∈ L, deepI 3 p.2 = true ∧ Is h p.2 (.ref p.1) := fun p hp => by
  obtain ⟨h1, as, h2⟩ := R.elt0 p hp
  exact ⟨h1, as, Reads.keeps R.base h2⟩
theorem GS.whole {h : Heap} (R : GS h0 h a L en ep tb) : ¬ tb.gaveWay = true := by
  unfold SetTable.gaveWay
  rw [mask_odd R.tab.mok]
  decide
theorem step_dummy (tb : SetTable) (z : Int) (c : Nat) : (stepN tb z c).dummy = none := by
  have go : ∀ (n : Nat) (p : SetTable.Probe), p.dummy = none → (nth tb.mask p n).dummy = none := by
    intro n
    induction n with
    | zero => exact fun p h => h
    | succ n ih =>
      refine fun p h => ih (adv tb.mask p) ?_
      unfold adv
      split <;> exact h
  exact go c _ rfl
/-- one look of the search, from the c-th place on: the first entry of this hash before the empty place K, or K -/
theorem look {h : Heap} (R : GS h0 h a L en ep tb) (z : Int) {K c : Nat} (hKf : K < 10 * SetTable.turns tb.mask) (hK : way tb.mask z K ∉ tb.place.toList) (hKb : ∀ j, j < K → way tb.mask z j ∈ tb.place.toList) (hc : c ≤ K) :
    (∃ (m i : Nat) (p : Addr × D), c ≤ m ∧ m < K ∧ L[i]? = some p ∧ hD p.2 = z ∧ tb.place.toList[i]? = some (way tb.mask z m) ∧
      (∀ (m' i' : Nat) (p' : Addr × D), c ≤ m' → m' < m → L[i']? = some p' → tb.place.toList[i']? = some (way tb.mask z m') → hD p'.2 ≠ z) ∧
      tb.probe (fun i => (en[i]?.map (·.1)).getD 0) z (stepN tb z c) = some (.candidate (way tb.mask z m) i (stepN tb z (m + 1)))) ∨
    ((∀ (m' i' : Nat) (p' : Addr × D), c ≤ m' → m' < K → L[i']? = some p' → tb.place.toList[i']? = some (way tb.mask z m') → hD p'.2 ≠ z) ∧
      tb.probe (fun i => (en[i]?.map (·.1)).getD 0) z (stepN tb z c) = some (.empty (way tb.mask z K) none)) := by
  have on : ∀ q, nth tb.mask (stepN tb z c) q = stepN tb z (c + q) := fun q => (nth_add tb.mask c _ q).symm
  have onj : ∀ q, (nth tb.mask (stepN tb z c) q).j = way tb.mask z (c + q) := fun q => congrArg SetTable.Probe.j (on q)
  have hash : ∀ {i : Nat} {p : Addr × D}, L[i]? = some p → (en[i]?.map (·.1)).getD 0 = hD p.2 := fun e => by rw [R.entry e]; rfl
  have there : ∀ {i j : Nat}, tb.place.toList[i]? = some j → ∃ p, L[i]? = some p := fun {i j} e => by
    have h1 := (List.getElem?_eq_some_iff.mp e).1
    rw [Array.length_toList, R.placed] at h1
    exact ⟨_, List.getElem?_eq_getElem h1⟩
  have got := go_spec tb R.tab.ris R.tab.dm (fun i => (en[i]?.map (·.1)).getD 0) z (10 * SetTable.turns tb.mask) (K - c) (stepN tb z c) (step_dummy tb z c) (by omega)
    (fun q hq => by rw [onj]; exact hKb _ (by omega)) (by rw [onj, Nat.add_sub_cancel' hc]; exact hK)
  rcases got with ⟨q, i, h1, h2, h3, h4, h5⟩ | ⟨h4, h5⟩
  · rw [onj] at h2
    obtain ⟨p, hp⟩ := there h2
    refine .inl ⟨c + q, i, p, Nat.le_add_right c q, by omega, hp, (hash hp).symm.trans h3, h2, fun m' i' p' g1 g2 g3 g4 g5 => ?_, ?_⟩
    · refine h4 (m' - c) i' (by omega) ?_ ((hash g3).trans g5)
      rw [onj, Nat.add_sub_cancel' g1]
      exact g4
    · have e : stepN tb z (c + q + 1) = nth tb.mask (stepN tb z c) (q + 1) := (on (q + 1)).symm
      rw [e, ← onj q]
      exact h5
  · refine .inr ⟨fun m' i' p' g1 g2 g3 g4 g5 => ?_, ?_⟩
    · refine h4 (m' - c) i' (by omega) ?_ ((hash g3).trans g5)
      rw [onj, Nat.add_sub_cancel' g1]
      exact g4
    · rw [onj, Nat.add_sub_cancel' hc] at h5
      exact h5
/-- the search for the tuple k, which stands at x -/
theorem seek (R : GS h0 s.heap a L en ep tb) {x : Addr} {k : D} (hk : deepI 3 k = true) (hx : Is s.heap k (.ref x)) (hu : A.units + 8 < cLine) {K : Nat} (hKf : K < 10 * SetTable.turns tb.mask)
    (hK : way tb.mask (hD k) K ∉ tb.place.toList) (hKb : ∀ j, j < K → way tb.mask (hD k) j ∈ tb.place.toList) {Q : SetFound → Shared → Prop}
    (hin : k ∈ L.map (·.2) → Q (.there none) s) (hout : k ∉ L.map (·.2) → Q (.free (way tb.mask (hD k) K) false) s) :
    ∀ (f c : Nat) (st : Option SetTable.Probe), st.getD (tb.probeStart (hD k)) = stepN tb (hD k) c → c ≤ K → K < f + c →
      (∀ (i : Nat) (p : Addr × D), L[i]? = some p → p.2 = k → ∃ m, c ≤ m ∧ m < K ∧ tb.place.toList[i]? = some (way tb.mask (hD k) m)) → wpAny (model P w) A (setSearchFrom a (.ref x) (hD k) true f st) Q E s := by
  obtain ⟨o, ho, hex, hd⟩ := R.ob
  intro f
  induction f with
  | zero => exact fun c st _ h1 h2 => by omega
  | succ f ih =>
    intro c st hst hc hf hre
    rw [setSearchFrom_succ]
    refine wpAny_bind (wpAny_setState_of ho hd R.fits ?_)
    dsimp only
    refine wp_if_neg R.whole ?_
    try refine wpAny_bind (wpAny_pure ?_)
    rw [hst]
    rcases look R (hD k) hKf hK hKb hc with ⟨m, i, p, h1, h2, h3, h4, h5, h6, h7⟩ | ⟨h6, h7⟩
    · rw [h7]
      dsimp only
      have hp := R.elt p (List.mem_of_getElem? h3)
      have body : wpAny (model P w) A (searchRest a (.ref x) (hD k) true f en tb (way tb.mask (hD k) m) i (stepN tb (hD k) (m + 1))) Q E s := by
        unfold searchRest
        rw [R.entry h3]
        dsimp only
        refine wpAny_bind (wpAny_holding (same_of hp.1 hk hp.2 hx hu ?_))
        refine wpAny_bind (wpAny_setState_of ho hd R.fits ?_)
        dsimp only
        by_cases e : p.2 = k
        · have e' : PyData.eqv p.2 k = true := (eqv_same 3 hp.1 hk).mpr e
          exact wp_if_pos (by simp [e']) (wpAny_pure (hin (List.mem_map.mpr ⟨p, List.mem_of_getElem? h3, e⟩)))
        · have e' : PyData.eqv p.2 k = false := by
            cases q : PyData.eqv p.2 k with
            | false => rfl
            | true => exact absurd ((eqv_same 3 hp.1 hk).mp q) e
          refine wp_if_neg (by simp [e']) ?_
          try refine wpAny_bind (wpAny_pure ?_)
          rw [sameMem]
          dsimp only
          have live : tb.slot (way tb.mask (hD k) m) = .live i := slot_live R.tab.ris h5
          simp only [if_true, live, R.entry h3]
          refine wpAny_bind (wpAny_isSame_ref_self (wpAny_bind (wpAny_pure ?_)))
          simp only [if_true]
          refine wp_if_neg (by simp [e']) (ih (m + 1) _ rfl h2 (by omega) fun i0 p0 g1 g2 => ?_)
          obtain ⟨m0, g3, g4, g5⟩ := hre i0 p0 g1 g2
          refine ⟨m0, ?_, g4, g5⟩
          rcases Nat.lt_trichotomy m0 m with y | y | y
          · exact absurd (by rw [g2]) (h6 m0 i0 p0 g3 y g1 g5)
          · exfalso
            rw [y] at g5
            have l2 := slot_live R.tab.ris g5
            rw [live] at l2
            injection l2 with l2
            rw [← l2, h3] at g1
            exact e (by rw [Option.some.inj g1]; exact g2)
          · exact y
      by_cases hl : tb.led = true
      · refine wp_if_neg (by simp [hl]) ?_
        try refine wpAny_bind (wpAny_pure ?_)
        exact body
      · refine wp_if_pos (by simp [hl]) (wpAny_bind (unseen hk hx (fun y hy => ?_) ?_))
        · obtain ⟨e, he, ee⟩ := List.mem_map.mp hy
          have he1 : e ∈ en ∧ e.1 = hD k := by simpa using he
          have he2 : e ∈ en.toList := by simpa using he1.1
          rw [R.rows] at he2
          obtain ⟨p2, hp2, e2⟩ := List.mem_map.mp he2
          refine ⟨p2.2, p2.1, by rw [← ee, ← e2], (R.elt p2 hp2).1, ?_⟩
          rw [← ee, ← e2]
          exact (R.elt p2 hp2).2
        · refine wp_if_neg (by decide) ?_
          try refine wpAny_bind (wpAny_pure ?_)
          exact body
    · rw [h7]
      dsimp only
      refine wpAny_pure (hout fun hm => ?_)
      obtain ⟨p0, g0, e0⟩ := List.mem_map.mp hm
      obtain ⟨i0, g1⟩ := List.mem_iff_getElem?.mp g0
      obtain ⟨m0, g3, g4, g5⟩ := hre i0 p0 g1 e0
      exact h6 m0 i0 p0 g3 g4 g1 g5 (by rw [e0])
theorem found (R : GS h0 s.heap a L en ep tb) {x : Addr} {k : D} (hk : deepI 3 k = true) (hx : Is s.heap k (.ref x)) (hu : A.units + 8 < cLine) {Q : SetFound → Shared → Prop} (hin : k ∈ L.map (·.2) → Q (.there none) s)
    (hout : ∀ K, k ∉ L.map (·.2) → way tb.mask (hD k) K ∉ tb.place.toList → (∀ j, j < K → way tb.mask (hD k) j ∈ tb.place.toList) → Q (.free (way tb.mask (hD k) K) false) s) : wpAny (model P w) A (setSearch a (.ref x) (hD k) true) Q E s := by
  have hr := R.room
  obtain ⟨K, hKf, hK, hKb⟩ := R.tab.first (by rw [List.length_map]; omega) (hD k)
  have few : 10 * SetTable.turns tb.mask ≤ 1420 := by
    unfold SetTable.turns
    rcases R.tab.mok with e | e | e <;> omega
  unfold setSearch
  refine seek R hk hx hu hKf hK hKb hin (fun hn => hout K hn hK hKb) 100000 0 none rfl (Nat.zero_le _) (by omega) fun i p hp e => ?_
  have hi : i < tb.place.toList.length := by
    have h1 := (List.getElem?_eq_some_iff.mp hp).1
    rw [Array.length_toList, R.placed]
    exact h1
  have hj := List.getElem?_eq_getElem hi
  obtain ⟨m, h1, h2⟩ := R.tab.before (h := hD k) (i := i) hK (by rw [List.getElem?_map, hp, ← e]; rfl) hj
  exact ⟨m, Nat.zero_le _, h1, by rw [hj, h2]⟩

/-! ### the table laid anew, and one element more -/
abbrev rw1 (p : Addr × D) : Int × Value := (hD p.2, Value.ref p.1)
/-- the rows that are picked by their numbers -/
theorem pick_rows {L : List (Addr × D)} {en : Array (Int × Value)} (hr : en.toList = L.map rw1) {nums : Array Nat} (hp : nums.toList.Perm (List.range L.length)) :
    ∃ M : List (Addr × D), (nums.filterMap (en[·]?)).toList = M.map rw1 ∧ M.Perm L ∧ M.map (fun p => hD p.2) = nums.toList.map fun i => (en.map (·.1)).getD i 0 := by
  have at_ : ∀ i, en[i]? = (L[i]?).map rw1 := fun i => by rw [← Array.getElem?_toList, hr, List.getElem?_map]
  refine ⟨nums.toList.filterMap (L[·]?), ?_, ?_, ?_⟩
  · rw [Array.toList_filterMap, List.map_filterMap]
    exact congrArg (fun f => List.filterMap f nums.toList) (funext at_)
  · have h1 := hp.filterMap (L[·]?)
    have h2 : ∀ (M : List (Addr × D)), (List.range M.length).filterMap (M[·]?) = M := by
      intro M
      have h3 : ∀ n, n ≤ M.length → (List.range n).filterMap (M[·]?) = M.take n := by
        intro n
        induction n with
        | zero => exact fun _ => rfl
        | succ n ih =>
          intro hn
          rw [List.range_succ, List.filterMap_append, ih (Nat.le_of_succ_le hn), List.take_succ, List.getElem?_eq_getElem hn, List.filterMap_cons_some (List.getElem?_eq_getElem hn)]
          rfl
      rw [h3 _ (Nat.le_refl _), List.take_length]
    rw [h2] at h1
    exact h1
  · have h1 : ∀ l : List Nat, (∀ i ∈ l, i < L.length) → (l.filterMap (L[·]?)).map (fun p => hD p.2) = l.map fun i => (en.map (·.1)).getD i 0 := by
      intro l
      induction l with
      | nil => exact fun _ => rfl
      | cons i l ih =>
        intro hl
        have hi := hl i List.mem_cons_self
        have e1 : (en.map (·.1)).getD i 0 = hD (L[i]).2 := by
          have e2 : (en.map (·.1))[i]? = some (hD (L[i]).2) := by
            rw [Array.getElem?_map, at_, List.getElem?_eq_getElem hi]
            rfl
          rw [Array.getD_eq_getD_getElem?, e2]
          rfl
        rw [List.filterMap_cons_some (List.getElem?_eq_getElem hi), List.map_cons, List.map_cons, ih fun j hj => hl j (List.mem_cons_of_mem _ hj), e1]
    exact h1 _ fun i hi => List.mem_range.mp (hp.mem_iff.mp hi)
theorem rows_len {L : List (Addr × D)} {en : Array (Int × Value)} (hr : en.toList = L.map rw1) : en.size = L.length := by
  rw [← Array.length_toList, hr, List.length_map]
theorem off_base {h : Heap} (hb : ∀ b o, h0.get? b = some o → h.get? b = some o) (hn : h0.get? a = none) {h' : Heap} (sb : Heap.SameBut a h h') : ∀ b o, h0.get? b = some o → h'.get? b = some o := fun b o e => by
  rw [sb.2 b fun z => by rw [z, hn] at e; cases e]
  exact hb b o e
/-- laid anew, larger -/
theorem relay {o : Obj} (ho : s.heap.get? a = some o) (hex : o.ExactSet) (hd : o.data = .set en ep tb) (hr : en.toList = L.map rw1) (hsz : tb.place.size = en.size) (hdm : tb.dummies = #[]) (hfl : en.size ≤ tb.mask)
    (nd : (L.map (·.2)).Nodup) (elt : ∀ p ∈ L, deepI 3 p.2 = true ∧ Is h0 p.2 (.ref p.1)) (hb : ∀ b o, h0.get? b = some o → s.heap.get? b = some o) (hn : h0.get? a = none) (pl : tb.plain = true) (few : L.length ≤ 60)
    {goal M : Nat} (hw : SetTable.sizeAbove goal - 1 = M) (hM : MaskOk M) (hw2 : SetTable.sizeAbove goal ≤ 128) (hfit : L.length * 5 < M * 3) {Q : Unit → Shared → Prop}
    (hQ : ∀ h' L' en' ep' tb', Heap.SameBut a s.heap h' → GS h0 h' a L' en' ep' tb' → L'.Perm L → Q () { s with heap := h' }) : wpAny (model P w) A (setRelay a goal) Q E s := by
  have hsl := rows_len hr
  have fit : tb.fits en.size = true := by
    unfold SetTable.fits SetTable.fill
    rw [hdm, Bool.and_eq_true, beq_iff_eq, decide_eq_true_eq]
    show tb.place.size = en.size ∧ tb.place.size + 0 ≤ tb.mask
    omega
  obtain ⟨tb', nums, e, hp, T, em, _, ep', _⟩ := relaid_ok tb (hs := en.map (·.1)) (wanted := goal) hw hM (by rw [Array.size_map, hsl]; omega)
  rw [Array.size_map, hsl] at hp
  obtain ⟨N, r1, r2, r3⟩ := pick_rows hr hp
  rw [← r3] at T
  have hs2 : (nums.filterMap (en[·]?)).size = en.size := by rw [rows_len r1, r2.length_eq, hsl]
  rw [setRelay_eq]
  refine wpAny_bind (wpAny_setState_of ho hd fit ?_)
  dsimp only
  refine wp_if_neg (by rw [sizeLine_eq]; omega) ?_
  try refine wpAny_bind (wpAny_pure ?_)
  rw [e]
  dsimp only
  refine wpAny_bind (wp_if_neg (by rw [hs2]; simp) ?_)
  try refine wpAny_bind (wpAny_pure ?_)
  refine wpAny_pure ?_
  dsimp only
  refine wpAny_storeSet_of ho hd ?_ (by rw [hs2, hsl, sizeLine_eq]; omega)
  have sb : Heap.SameBut a s.heap (s.heap.update a (Obj.putSet (nums.filterMap (en[·]?)) tb')) := Heap.SameBut.update ..
  refine hQ _ N _ (ep + 1) tb' sb ⟨⟨_, store_at ho hd, ⟨hex.1, hex.2.1, hex.2.2⟩, rfl⟩, r1, T, (r2.map (·.2)).nodup_iff.mpr nd, fun p hpm => elt p (r2.mem_iff.mp hpm), off_base hb hn sb, hn, by rw [ep']; exact pl, ?_, by rw [r2.length_eq]; exact few⟩ r2
  rw [r2.length_eq, em]
  exact hfit
/-- one element more, where it isn't there yet -/
theorem grow (R : GS h0 s.heap a L en ep tb) {x : Addr} {k : D} (hk : deepI 3 k = true) (hx : Is h0 k (.ref x)) (hu : A.units + 8 < cLine) (few : L.length < 60) {Q : Bool → Shared → Prop}
    (hQ : ∀ b h' L' en' ep' tb', Heap.SameBut a s.heap h' → GS h0 h' a L' en' ep' tb' → (k ∈ L.map (·.2) → L' = L) → (k ∉ L.map (·.2) → L'.Perm ((x, k) :: L)) → Q b { s with heap := h' }) :
    wpAny (model P w) A (setAddHashed a (.ref x) (hD k)) Q E s := by
  obtain ⟨o, ho, hex, hd⟩ := R.ob
  have hsl := R.size
  have hroom := R.room
  have hx' : Is s.heap k (.ref x) := hx.imp fun as r => Reads.keeps R.base r
  unfold setAddHashed
  refine wpAny_holding ?_
  rw [show (100000 : Nat) = 99999 + 1 from rfl, setAddHashedIn_succ]
  refine wpAny_bind (wpAny_setState_of ho hd R.fits ?_)
  dsimp only
  refine wp_if_neg (by simp [byScan, Value.scannable]) ?_
  try refine wpAny_bind (wpAny_pure ?_)
  refine wpAny_bind (found R hk hx' hu (fun hm => ?_) fun K hm hK hb => ?_)
  · dsimp only
    exact wpAny_pure (hQ false s.heap L en ep tb (Heap.SameBut.refl a s.heap) R (fun _ => rfl) fun z => absurd hm z)
  dsimp only
  refine wpAny_bind (wpAny_setState_of ho hd R.fits ?_)
  dsimp only
  obtain ⟨q1, q2, q3, q4, q5, q6, q7, q8, q9⟩ := R.tab.put hK hb
  have pl1 : (tb.put (way tb.mask (hD k) K)).1.plain = true := by rw [q6]; exact R.plain
  generalize hpt : tb.put (way tb.mask (hD k) K) = pt at q1 q3 q4 q5 q6 q7 q8 q9 pl1 ⊢
  obtain ⟨t1, p⟩ := pt
  dsimp only at q1 q3 q4 q5 q6 q7 q8 q9 pl1 ⊢
  subst q1
  first
    | (refine wpAny_bind ?_; refine wp_if_pos pl1 ?_; refine by_value 3 hk hx' 8 (by decide) ?_)
    | refine wp_if_pos pl1 (wpAny_bind (by_value 3 hk hx' 8 (by decide) ?_))
  simp only [if_true]
  generalize hpp : SetTable.below tb.place (way tb.mask (hD k) K) = p at q2 q3 ⊢
  have hin : (SetTable.insertAt en p (hD k, Value.ref x)).toList = (L.take p ++ (x, k) :: L.drop p).map rw1 := by
    rw [SetTable.toList_insertAt, R.rows, List.map_append, List.map_cons, List.map_take, List.map_drop]
  have pm := L2.put_perm L p (x, k)
  have hlen : (L.take p ++ (x, k) :: L.drop p).length = L.length + 1 := pm.length_eq
  have hhs : (L.take p ++ (x, k) :: L.drop p).map (fun p => hD p.2) = (L.map fun p => hD p.2).take p ++ hD k :: (L.map fun p => hD p.2).drop p := by
    rw [List.map_append, List.map_cons, List.map_take, List.map_drop]
  rw [← hhs] at q3
  have nd1 : ((L.take p ++ (x, k) :: L.drop p).map (·.2)).Nodup := by
    refine (pm.map (·.2)).nodup_iff.mpr ?_
    rw [List.map_cons]
    exact List.nodup_cons.mpr ⟨hm, R.nd⟩
  have hes := rows_len hin
  rw [hlen] at hes
  have elt1 : ∀ q ∈ L.take p ++ (x, k) :: L.drop p, deepI 3 q.2 = true ∧ Is h0 q.2 (.ref q.1) := fun q hq => by
    rcases List.mem_cons.mp (pm.mem_iff.mp hq) with e | hq
    · rw [e]; exact ⟨hk, hx⟩
    · exact R.elt0 q hq
  generalize SetTable.insertAt en p (hD k, Value.ref x) = en1 at hin hes ⊢
  generalize L.take p ++ (x, k) :: L.drop p = L1 at pm hlen q3 nd1 hin elt1
  refine wpAny_bind (wpAny_storeSet_of ho hd ?_ (by rw [hes, sizeLine_eq]; omega))
  have sb : Heap.SameBut a s.heap (s.heap.update a (Obj.putSet en1 t1)) := Heap.SameBut.update ..
  have ho1 := store_at (es' := en1) (t' := t1) ho hd
  have hb1 := off_base R.base R.new sb
  generalize s.heap.update a (Obj.putSet en1 t1) = h1 at sb ho1 hb1 ⊢
  have full : t1.tooFull = decide ((L.length + 1) * 5 ≥ tb.mask * 3) := by
    unfold SetTable.tooFull
    rw [q9, q4, List.length_map]
  by_cases hf : t1.tooFull = true
  · first
      | (refine wpAny_bind ?_; refine wp_if_pos (by simp [hf]) ?_)
      | (refine wp_if_pos (by simp [hf]) ?_; refine wpAny_bind ?_)
    have hfull : (L.length + 1) * 5 ≥ tb.mask * 3 := by rw [full, decide_eq_true_eq] at hf; exact hf
    rw [hsl]
    have hsz1 : t1.place.size = en1.size := by
      have h := q3.sz
      rw [List.length_map, hlen] at h
      rw [h, hes]
    have two : (tb.mask = 7 ∧ L.length = 4) ∨ (tb.mask = 31 ∧ L.length = 18) := by
      rcases R.tab.mok with e | e | e <;> rw [e] at hfull hroom
      · exact .inl ⟨e, by omega⟩
      · exact .inr ⟨e, by omega⟩
      · omega
    have go : ∀ M, SetTable.sizeAbove (SetTable.grown (L.length + 1)) - 1 = M → MaskOk M → SetTable.sizeAbove (SetTable.grown (L.length + 1)) ≤ 128 → (L.length + 1) * 5 < M * 3 →
        wpAny (model P w) A (setRelay a (SetTable.grown (L.length + 1))) (fun _ s' => wpAny (model P w) A (pure true) Q E s') E { s with heap := h1 } := fun M y1 y2 y3 y4 => by
      refine relay (s := { s with heap := h1 }) ho1 ⟨hex.1, hex.2.1, hex.2.2⟩ rfl hin hsz1 q3.dm (by rw [hes, q4]; rcases two with ⟨e, e2⟩ | ⟨e, e2⟩ <;> omega) nd1 elt1 hb1 R.new pl1 (by rw [hlen]; exact few) y1 y2 y3 (by rw [hlen]; exact y4) ?_
      exact fun h2 L2 en2 ep2 tb2 sb2 R2 pm2 => wpAny_pure (hQ true h2 L2 en2 ep2 tb2 (sb.trans sb2) R2 (fun z => absurd z hm) fun _ => pm2.trans pm)
    rcases two with ⟨_, e2⟩ | ⟨_, e2⟩
    · exact go 31 (by rw [e2, size_20]) (.inr (.inl rfl)) (by rw [e2, size_20]; decide) (by omega)
    · exact go 127 (by rw [e2, size_76]) (.inr (.inr rfl)) (by rw [e2, size_76]; decide) (by omega)
  · first
      | refine wp_if_neg (by simp [hf]) ?_
      | (refine wpAny_bind ?_; refine wp_if_neg (by simp [hf]) ?_; refine wpAny_pure ?_)
    refine wpAny_pure (hQ true h1 L1 en1 (ep + 1) t1 sb ⟨⟨_, ho1, ⟨hex.1, hex.2.1, hex.2.2⟩, rfl⟩, hin, q3, nd1, elt1, hb1, R.new, pl1, ?_, by rw [hlen]; exact few⟩ (fun z => absurd z hm) fun _ => pm)
    rw [full, decide_eq_true_eq] at hf
    rw [hlen, q4]
    omega
/-! ### a tuple or a list that is walked: what the set has got -/
structure Got (ks : List (Addr × D)) (i : Nat) (L : List (Addr × D)) : Prop where
  sub : ∀ p ∈ L, p ∈ ks.take i
  all : ∀ p ∈ ks.take i, p.2 ∈ L.map (·.2)
  len : L.length ≤ i
theorem Got.start (ks : List (Addr × D)) : Got ks 0 [] := ⟨fun p h => (nomatch h), fun p h => (by simp at h), Nat.le_refl _⟩
theorem Got.next {ks L L' : List (Addr × D)} {i : Nat} {x : Addr × D} (g : Got ks i L) (h : ks[i]? = some x) (h1 : x.2 ∈ L.map (·.2) → L' = L) (h2 : x.2 ∉ L.map (·.2) → L'.Perm (x :: L)) : Got ks (i + 1) L' := by
  have e : ks.take (i + 1) = ks.take i ++ [x] := by
    rw [List.take_succ, h]
    rfl
  by_cases c : x.2 ∈ L.map (·.2)
  · rw [h1 c]
    refine ⟨fun p hp => by rw [e]; exact List.mem_append_left _ (g.sub p hp), fun p hp => ?_, Nat.le_succ_of_le g.len⟩
    rw [e] at hp
    rcases List.mem_append.mp hp with z | z
    · exact g.all p z
    · rw [List.mem_singleton.mp z]; exact c
  · have pm := h2 c
    refine ⟨fun p hp => ?_, fun p hp => ?_, by rw [pm.length_eq]; exact Nat.succ_le_succ g.len⟩
    · rw [e]
      rcases List.mem_cons.mp (pm.mem_iff.mp hp) with z | z
      · rw [z]; exact List.mem_append_right _ (List.mem_singleton.mpr rfl)
      · exact List.mem_append_left _ (g.sub p z)
    · rw [(pm.map (·.2)).mem_iff, List.map_cons]
      rw [e] at hp
      rcases List.mem_append.mp hp with z | z
      · exact List.mem_cons_of_mem _ (g.all p z)
      · rw [List.mem_singleton.mp z]; exact List.mem_cons_self
/-- how many -/
theorem unlike_mem : ∀ (xs seen : List D), (∀ z ∈ seen, deepI 3 z = true) → (∀ z ∈ xs, deepI 3 z = true) → seen.Nodup → (unlike seen xs).Nodup ∧ ∀ z, z ∈ unlike seen xs ↔ z ∈ seen ∨ z ∈ xs
  | [], seen, _, _, h => ⟨h, fun z => ⟨.inl, fun y => y.elim id fun y => (nomatch y)⟩⟩
  | x :: xs, seen, h1, h2, h => by
    have hx := h2 x List.mem_cons_self
    have h2' : ∀ z ∈ xs, deepI 3 z = true := fun z hz => h2 z (List.mem_cons_of_mem _ hz)
    have key : (seen.any fun z => PyData.eqv z x) = true ↔ x ∈ seen := by
      rw [List.any_eq_true]
      exact ⟨fun ⟨z, hz, e⟩ => ((eqv_same 3 (h1 z hz) hx).mp e) ▸ hz, fun hm => ⟨x, hm, (eqv_same 3 hx hx).mpr rfl⟩⟩
    unfold unlike
    split
    · rename_i c
      have hm := key.mp c
      obtain ⟨g1, g2⟩ := unlike_mem xs seen h1 h2' h
      exact ⟨g1, fun z => (g2 z).trans ⟨fun y => y.imp id (List.mem_cons_of_mem _), fun y => y.elim .inl fun y => (List.mem_cons.mp y).elim (fun e => .inl (e ▸ hm)) .inr⟩⟩
    · rename_i c
      have hm : x ∉ seen := fun y => c (key.mpr y)
      have h1' : ∀ z ∈ seen ++ [x], deepI 3 z = true := fun z hz => (List.mem_append.mp hz).elim (h1 z) fun y => by rw [List.mem_singleton.mp y]; exact hx
      have h' : (seen ++ [x]).Nodup := by
        rw [List.nodup_append]
        exact ⟨h, List.nodup_cons.mpr ⟨fun y => (nomatch y), List.nodup_nil⟩, fun z hz y hy e => hm (by rw [List.mem_singleton.mp hy] at e; exact e ▸ hz)⟩
      obtain ⟨g1, g2⟩ := unlike_mem xs (seen ++ [x]) h1' h2' h'
      refine ⟨g1, fun z => (g2 z).trans ?_⟩
      rw [List.mem_append, List.mem_singleton, List.mem_cons, or_assoc]
theorem Got.count {ks L : List (Addr × D)} (g : Got ks ks.length L) (nd : (L.map (·.2)).Nodup) (hk : ∀ p ∈ ks, deepI 3 p.2 = true) : L.length = (unlike [] (ks.map (·.2))).length := by
  obtain ⟨h1, h2⟩ := unlike_mem (ks.map (·.2)) [] (fun z hz => (nomatch hz)) (fun z hz => by obtain ⟨p, hp, e⟩ := List.mem_map.mp hz; rw [← e]; exact hk p hp) List.nodup_nil
  rw [← List.length_map (·.2)]
  refine ((List.perm_ext_iff_of_nodup nd h1).mpr fun z => ?_).length_eq
  rw [h2]
  have ga := g.all
  have gs := g.sub
  rw [List.take_length] at ga gs
  constructor
  · intro hz
    obtain ⟨p, hp, e⟩ := List.mem_map.mp hz
    exact .inr (List.mem_map.mpr ⟨p, gs p hp, e⟩)
  · rintro (hz | hz)
    · exact nomatch hz
    · obtain ⟨p, hp, e⟩ := List.mem_map.mp hz
      rw [← e]
      exact ga p hp
/-! ### set.update's loop -/
section
variable {P : Program} {w : World} {A : Around} {E : Value → Shared → Prop}
theorem GS.keep {h0 h h' : Heap} {a : Addr} {L : List (Addr × D)} {en : Array (Int × Value)} {ep : Nat} {tb : SetTable} (R : GS h0 h a L en ep tb) (ha : ∀ o, h.get? a = some o → h'.get? a = some o) (hb : ∀ b o, h0.get? b = some o → h'.get? b = some o) : GS h0 h' a L en ep tb := by
  obtain ⟨o, ho, r⟩ := R.ob
  exact ⟨⟨o, ha o ho, r⟩, R.rows, R.tab, R.nd, R.elt0, hb, R.new, R.plain, R.room, R.few⟩
theorem GS.fresh {h0 h : Heap} {a : Addr} {b : Bool} (ho : h.get? a = some { cls := .type "set", dict := none, data := .set #[] 0 (.fresh 0 0 b) }) (hb : ∀ b o, h0.get? b = some o → h.get? b = some o) (hn : h0.get? a = none) : GS h0 h a [] #[] 0 (.fresh 0 0 b) :=
  ⟨⟨_, ho, ⟨rfl, rfl, rfl⟩, rfl⟩, rfl, ⟨List.Pairwise.nil, rfl, rfl, .inl rfl, fun x hx => (nomatch hx), fun i h j hi => (by simp at hi)⟩, List.nodup_nil, fun p hp => (nomatch hp), hb, hn, rfl, (show 0 * 5 < 7 * 3 by decide), Nat.zero_le _⟩
theorem fill {I : Addr} {fp wr : List Addr} {G : Array GenState → Array GenState → Prop} {n : Nat} {Pv : Nat → Value → Prop} {St : Nat → Shared → Prop} {Z : Result → Shared → Prop}
    (W : WalksS P w A.in1 I fp wr G n Pv St) (S : Addr) (off : S ∉ fp) (ks : List (Addr × D)) (hn : n = ks.length) (few : ks.length ≤ 60) (hval : ∀ i v, Pv i v → ∃ p, ks[i]? = some p ∧ v = .ref p.1)
    (h0 : Heap) (hk : ∀ p ∈ ks, deepI 3 p.2 = true ∧ Is h0 p.2 (.ref p.1)) (hS0 : h0.get? S = none) (hw0 : ∀ b ∈ wr, h0.get? b = none) (hu : A.in1.units + 24 < cLine) :
    ∀ (m i : Nat) (s : Shared), n - i = m → i ≤ n → St i s → (∃ L en ep tb, GS h0 s.heap S L en ep tb ∧ Got ks i L) →
      (∀ s' L en ep tb, Moved (S :: wr) G s s' → GS h0 s'.heap S L en ep tb → Got ks n L → Z (.ok (.ret .none)) s') →
      codeAny (model P w) A (.builtin "set.update.loop" ⟨[.ref S, .ref I], []⟩) Z s := by
  have hSw : S ∉ wr := fun h => off (W.sub _ h)
  have wider : ∀ b ∈ wr, b ∈ S :: wr := fun b hb => List.mem_cons_of_mem _ hb
  have still : ∀ {s s' : Shared}, Moved wr G s s' → (∀ b o, h0.get? b = some o → s.heap.get? b = some o) → ∀ b o, h0.get? b = some o → s'.heap.get? b = some o := fun hm kp b o e =>
    hm.heap b o (fun hb => by rw [hw0 b hb] at e; cases e) (kp b o e)
  intro m
  induction m with
  | zero =>
    intro i s hm hi hst ⟨L, en, ep, tb, R, g⟩ hZ
    obtain rfl : i = n := by omega
    refine codeAny_builtin F.entry_set_update_loop ?_
    rw [Around.under_plainId F.plain_set_update_loop _]
    show wpAny _ A.in1 (pyNext (.ref I) >>= _) _ _ s
    refine wpAny_bind (W.done s _ _ hst fun s' mv => ?_)
    show wpAny _ A.in1 (ret Value.none) _ _ s'
    exact wpAny_pure (hZ s' L en ep tb (mv.mono wider) (R.keep (fun o e => mv.heap S o hSw e) (still mv R.base)) g)
  | succ m ih =>
    intro i s hm hi hst ⟨L, en, ep, tb, R, g⟩ hZ
    have hlt : i < n := by omega
    refine codeAny_builtin F.entry_set_update_loop ?_
    rw [Around.under_plainId F.plain_set_update_loop _]
    show wpAny _ A.in1 (pyNext (.ref I) >>= _) _ _ s
    refine wpAny_bind (W.item i s _ _ hlt hst fun v s' hP hst' mv => ?_)
    obtain ⟨p, hp, rfl⟩ := hval i v hP
    have R1 : GS h0 s'.heap S L en ep tb := R.keep (fun o e => mv.heap S o hSw e) (still mv R.base)
    obtain ⟨d1, d2⟩ := hk p (List.mem_of_getElem? hp)
    show wpAny _ A.in1 (holding [Value.ref p.1] (setAdd S (.ref p.1)) >>= _) _ _ s'
    refine wpAny_bind (wpAny_holding ?_)
    unfold setAdd
    refine wpAny_holding (wpAny_bind (wpAny_with_toks (Nat.le_refl s'.toks) (hash_of 3 d1 (d2.imp fun as r => Reads.keeps R1.base r) (by omega) fun tk htk => ?_)))
    refine grow (s := { s' with toks := tk }) R1 d1 d2 (by omega) (by have := g.len; omega) fun b h' L' en' ep' tb' sb R2 c1 c2 => ?_
    refine wpAny_pure ⟨plainId_quiet F.plain_set_update_loop _, ih (i + 1) _ (by omega) hlt (W.frame _ s' _ _ hst' htk fun b hb o e => ?_) ⟨L', en', ep', tb', R2, g.next hp c1 c2⟩ fun s'' L2 en2 ep2 tb2 mv2 R3 g2 => ?_⟩
    · rw [sb.2 b (fun h : b = S => off (by rw [← h]; exact hb))]; exact e
    · refine hZ s'' L2 en2 ep2 tb2 (Moved.trans W.gtrans ((mv.mono wider).then_heap htk fun b o hb e => ?_) mv2) R3 g2
      rw [sb.2 b (fun h : b = S => hb (by rw [h]; exact List.mem_cons_self))]; exact e

set_option maxHeartbeats 3200000 in
/-- set(..) of a tuple -/
theorem set_tuple {s : Shared} {l : Addr} {items : Array Value} (ks : List (Addr × D)) {Q : Value → Shared → Prop} (hh : A.handled = none) (hl : s.heap.IsTuple l items) (hit : items.toList = ks.map fun p => Value.ref p.1)
    (hk : ∀ p ∈ ks, deepI 3 p.2 = true ∧ Is s.heap p.2 (.ref p.1)) (few : ks.length ≤ 60) (hu : A.units + 60 < cLine)
    (h : ∀ (h' : Heap) (tk : Nat) L en ep tb, GS s.heap h' s.heap.objs.size L en ep tb → Got ks ks.length L → Q (.ref s.heap.objs.size) { s with heap := h', toks := tk }) : wpAny (model P w) A (call (.type "set") [.ref l]) Q E s := by
  have hisz : items.size = ks.length := by
    have q := congrArg List.length hit
    rw [Array.length_toList, List.length_map] at q
    exact q
  obtain ⟨c, tl, hmro⟩ := F.called_set.mro
  have hmade := F.called_set.made
  have hsub := F.called_set.sub
  refine wpAny_call (codeAny_of_tree ?_)
  show wpAny _ _ (callAny (.type "set") _) _ _ _
  refine wpAny_pure ⟨Code.quiet_builtin _ (by decide +kernel), codeAny_builtin F.entry_type_call ?_⟩
  rw [Around.under_plain (weight_type_call_type "set" [.ref l] []) rfl]
  have h1 := F.called_set.notType
  have h2 := F.called_set.canCreate
  have hct := F.typeCall_set_1 (.ref l)
  repeat (any_goals (first | assumption | wp_step))
  refine codeAny_mono (code_set_led1 (.ref l) (E := E) (Q₁ := fun obj s1 => obj = .ref s.heap.objs.size ∧ s1 = { s with heap := s.heap.push { cls := .type "set", dict := none, data := .set #[] 0 (.fresh 0 0 (!w.params.followText "set-order")) } }) ⟨rfl, rfl⟩) fun r s1 hr => ?_
  cases r with
  | error e => exact hr
  | ok fl =>
    cases fl with
    | ret obj =>
      obtain ⟨rfl, rfl⟩ := hr
      have hS : (s.heap.push { cls := .type "set", dict := none, data := .set #[] 0 (.fresh 0 0 (!w.params.followText "set-order")) }).get? s.heap.objs.size = some { cls := .type "set", dict := none, data := .set #[] 0 (.fresh 0 0 (!w.params.followText "set-order")) } := Heap.get?_push_size _ rfl
      have hT : Shared.TypeIs { s with heap := s.heap.push { cls := .type "set", dict := none, data := .set #[] 0 (.fresh 0 0 (!w.params.followText "set-order")) } } (.ref s.heap.objs.size) "set" := ⟨_, hS, rfl⟩
      have hli := F.called_set.init.lookup
      have hbi := F.called_set.init.bind (.ref s.heap.objs.size)
      repeat (any_goals (first | assumption | wp_step))
      refine codeAny_mono (codeAny_call_builtin (R := wants (fun r s2 => r = .none ∧ ∃ h' tk L en ep tb, s2 = { s with heap := h', toks := tk } ∧ GS s.heap h' s.heap.objs.size L en ep tb ∧ Got ks ks.length L) E) F.called_set.init.plain F.entry_set_init (check_set_init_1 hT ?_)) fun r2 s2 hr2 => ?_
      · obtain ⟨ol, hol, hcl, nl, hdl⟩ := hl
        obtain ⟨ocls, odict, odata, oslots⟩ := ol
        simp only at hcl hdl
        subst hcl; subst hdl
        have hol' : (s.heap.push { cls := .type "set", dict := none, data := .set #[] 0 (.fresh 0 0 (!w.params.followText "set-order")) }).get? l = some { cls := .type "tuple", dict := odict, data := .seq items nl, slots := oslots } := Heap.get?_push_of_some _ hol
        have hsls := F.sub_tuple_set
        have hslf := F.sub_tuple_frozenset
        have hne : (Value.type "tuple" == Value.type "dict") = false := by decide
        have hl1 : (s.heap.push { cls := .type "set", dict := none, data := .set #[] 0 (.fresh 0 0 (!w.params.followText "set-order")) }).IsTuple l items := ⟨_, hol', rfl, nl, rfl⟩
        unfold Builtin.«set.__init__» noKeywords Builtin.Frozenset.updateFrom
        generalize hPI : pyIter = PI
        wp_walk
        subst hPI
        refine wpAny_pyIter_tuple hl1 ?_
        refine wpAny_bind (wpAny_runValue ?_)
        have hlS : l < s.heap.objs.size := Heap.lt_size hol
        have hh3 : A.in1.in1.in1.handled = none := by simp [hh]
        have hz1 : (s.heap.push { cls := .type "set", dict := none, data := .set #[] 0 (.fresh 0 0 (!w.params.followText "set-order")) }).objs.size = s.heap.objs.size + 1 := Heap.size_push ..
        have hneI : l ≠ (s.heap.push { cls := .type "set", dict := none, data := .set #[] 0 (.fresh 0 0 (!w.params.followText "set-order")) }).objs.size := by
          rw [Heap.size_push]; exact Nat.ne_of_lt (Nat.lt_succ_of_lt hlS)
        have off : s.heap.objs.size ∉ [(s.heap.push { cls := .type "set", dict := none, data := .set #[] 0 (.fresh 0 0 (!w.params.followText "set-order")) }).objs.size, l] := by
          rw [Heap.size_push]; simp only [List.mem_cons, List.mem_singleton, List.not_mem_nil, or_false, not_or]
          exact ⟨Nat.ne_of_lt (Nat.lt_succ_self _), Nat.ne_of_gt hlS⟩
        have hval : ∀ (i : Nat) (v : Value), items[i]? = some v → ∃ p, ks[i]? = some p ∧ v = .ref p.1 := fun i v hv => by
          have q : items.toList[i]? = some v := by rw [Array.getElem?_toList]; exact hv
          rw [hit, List.getElem?_map] at q
          cases hq : ks[i]? with
          | none => rw [hq] at q; cases q
          | some p =>
            rw [hq] at q
            exact ⟨p, rfl, (Option.some.inj q).symm⟩
        have past : ∀ b, s.heap.objs.size ≤ b → s.heap.get? b = none := fun b hb => by
          cases q : s.heap.get? b with
          | none => rfl
          | some o => exact absurd (Nat.lt_of_lt_of_le (Heap.lt_size q) hb) (Nat.lt_irrefl _)
        refine fill ((Walks.tuple hh3 _ l hneI items).toS) s.heap.objs.size
          off ks hisz few hval s.heap hk (past _ (Nat.le_refl _)) (fun b hb => past b (by
            rw [List.mem_singleton.mp hb, Heap.size_push]
            exact Nat.le_succ _)) (by simp only [Around.in1_units]; omega) (items.size - 0) 0 _ (by omega) (Nat.zero_le _)
          ⟨⟨_, Heap.get?_push_size _ rfl, rfl, rfl⟩, (hl1.push _)⟩ ⟨[], #[], 0, _, GS.fresh (Heap.get?_push_of_some _ hS) (fun b o e => Heap.get?_push_of_some _ (Heap.get?_push_of_some _ e)) (past _ (Nat.le_refl _)), Got.start ks⟩ ?_
        intro s' L en ep tb hm R g
        obtain ⟨h', g2, d', tk', os'⟩ := s'
        have eg : g2 = s.gens := hm.gens
        have ed : d' = s.drawn := hm.drawn
        have eo : os' = s.os := hm.os
        subst eg; subst ed; subst eo
        show wpAny _ _ _ _ _ _
        refine wpAny_pure ?_
        show wpAny _ _ (ret Value.none) _ _ _
        rw [hisz] at g
        exact wpAny_pure ⟨rfl, h', tk', L, en, ep, tb, rfl, R, g⟩
      · cases r2 with
        | error e => exact hr2
        | ok fl2 =>
          cases fl2 with
          | ret r =>
            obtain ⟨rfl, h', tk, L, en, ep, tb, rfl, R, g⟩ := hr2
            repeat (any_goals (first | assumption | wp_step))
            exact h _ _ _ _ _ _ R g
          | _ => exact hr2.elim
    | _ => exact hr.elim

set_option maxHeartbeats 3200000 in
/-- set(..) of a list -/
theorem set_list {s : Shared} {l : Addr} {items : Array Value} (ks : List (Addr × D)) {Q : Value → Shared → Prop} (hh : A.handled = none) (hl : s.heap.IsList l items) (hit : items.toList = ks.map fun p => Value.ref p.1)
    (hk : ∀ p ∈ ks, deepI 3 p.2 = true ∧ Is s.heap p.2 (.ref p.1)) (few : ks.length ≤ 60) (hu : A.units + 60 < cLine)
    (h : ∀ (h' : Heap) (tk : Nat) L en ep tb, GS s.heap h' s.heap.objs.size L en ep tb → Got ks ks.length L → Q (.ref s.heap.objs.size) { s with heap := h', toks := tk }) : wpAny (model P w) A (call (.type "set") [.ref l]) Q E s := by
  have hisz : items.size = ks.length := by
    have q := congrArg List.length hit
    rw [Array.length_toList, List.length_map] at q
    exact q
  obtain ⟨c, tl, hmro⟩ := F.called_set.mro
  have hmade := F.called_set.made
  have hsub := F.called_set.sub
  refine wpAny_call (codeAny_of_tree ?_)
  show wpAny _ _ (callAny (.type "set") _) _ _ _
  refine wpAny_pure ⟨Code.quiet_builtin _ (by decide +kernel), codeAny_builtin F.entry_type_call ?_⟩
  rw [Around.under_plain (weight_type_call_type "set" [.ref l] []) rfl]
  have h1 := F.called_set.notType
  have h2 := F.called_set.canCreate
  have hct := F.typeCall_set_1 (.ref l)
  repeat (any_goals (first | assumption | wp_step))
  refine codeAny_mono (code_set_led1 (.ref l) (E := E) (Q₁ := fun obj s1 => obj = .ref s.heap.objs.size ∧ s1 = { s with heap := s.heap.push { cls := .type "set", dict := none, data := .set #[] 0 (.fresh 0 0 (!w.params.followText "set-order")) } }) ⟨rfl, rfl⟩) fun r s1 hr => ?_
  cases r with
  | error e => exact hr
  | ok fl =>
    cases fl with
    | ret obj =>
      obtain ⟨rfl, rfl⟩ := hr
      have hS : (s.heap.push { cls := .type "set", dict := none, data := .set #[] 0 (.fresh 0 0 (!w.params.followText "set-order")) }).get? s.heap.objs.size = some { cls := .type "set", dict := none, data := .set #[] 0 (.fresh 0 0 (!w.params.followText "set-order")) } := Heap.get?_push_size _ rfl
      have hT : Shared.TypeIs { s with heap := s.heap.push { cls := .type "set", dict := none, data := .set #[] 0 (.fresh 0 0 (!w.params.followText "set-order")) } } (.ref s.heap.objs.size) "set" := ⟨_, hS, rfl⟩
      have hli := F.called_set.init.lookup
      have hbi := F.called_set.init.bind (.ref s.heap.objs.size)
      repeat (any_goals (first | assumption | wp_step))
      refine codeAny_mono (codeAny_call_builtin (R := wants (fun r s2 => r = .none ∧ ∃ h' tk L en ep tb, s2 = { s with heap := h', toks := tk } ∧ GS s.heap h' s.heap.objs.size L en ep tb ∧ Got ks ks.length L) E) F.called_set.init.plain F.entry_set_init (check_set_init_1 hT ?_)) fun r2 s2 hr2 => ?_
      · obtain ⟨ol, hol, hcl, nl, hdl⟩ := hl
        obtain ⟨ocls, odict, odata, oslots⟩ := ol
        simp only at hcl hdl
        subst hcl; subst hdl
        have hol' : (s.heap.push { cls := .type "set", dict := none, data := .set #[] 0 (.fresh 0 0 (!w.params.followText "set-order")) }).get? l = some { cls := .type "list", dict := odict, data := .seq items nl, slots := oslots } := Heap.get?_push_of_some _ hol
        have hsls := F.sub_list_set
        have hslf := F.sub_list_frozenset
        have hne : (Value.type "list" == Value.type "dict") = false := by decide
        have hl1 : (s.heap.push { cls := .type "set", dict := none, data := .set #[] 0 (.fresh 0 0 (!w.params.followText "set-order")) }).IsList l items := ⟨_, hol', rfl, nl, rfl⟩
        unfold Builtin.«set.__init__» noKeywords Builtin.Frozenset.updateFrom
        generalize hPI : pyIter = PI
        wp_walk
        subst hPI
        refine wpAny_pyIter_list hl1 ?_
        refine wpAny_bind (wpAny_runValue ?_)
        have hlS : l < s.heap.objs.size := Heap.lt_size hol
        have hh3 : A.in1.in1.in1.handled = none := by simp [hh]
        have hz1 : (s.heap.push { cls := .type "set", dict := none, data := .set #[] 0 (.fresh 0 0 (!w.params.followText "set-order")) }).objs.size = s.heap.objs.size + 1 := Heap.size_push ..
        have hneI : l ≠ (s.heap.push { cls := .type "set", dict := none, data := .set #[] 0 (.fresh 0 0 (!w.params.followText "set-order")) }).objs.size := by
          rw [Heap.size_push]; exact Nat.ne_of_lt (Nat.lt_succ_of_lt hlS)
        have off : s.heap.objs.size ∉ [(s.heap.push { cls := .type "set", dict := none, data := .set #[] 0 (.fresh 0 0 (!w.params.followText "set-order")) }).objs.size, l] := by
          rw [Heap.size_push]; simp only [List.mem_cons, List.mem_singleton, List.not_mem_nil, or_false, not_or]
          exact ⟨Nat.ne_of_lt (Nat.lt_succ_self _), Nat.ne_of_gt hlS⟩
        have hval : ∀ (i : Nat) (v : Value), items[i]? = some v → ∃ p, ks[i]? = some p ∧ v = .ref p.1 := fun i v hv => by
          have q : items.toList[i]? = some v := by rw [Array.getElem?_toList]; exact hv
          rw [hit, List.getElem?_map] at q
          cases hq : ks[i]? with
          | none => rw [hq] at q; cases q
          | some p =>
            rw [hq] at q
            exact ⟨p, rfl, (Option.some.inj q).symm⟩
        have past : ∀ b, s.heap.objs.size ≤ b → s.heap.get? b = none := fun b hb => by
          cases q : s.heap.get? b with
          | none => rfl
          | some o => exact absurd (Nat.lt_of_lt_of_le (Heap.lt_size q) hb) (Nat.lt_irrefl _)
        refine fill ((Walks.list hh3 _ l hneI items).toS) s.heap.objs.size
          off ks hisz few hval s.heap hk (past _ (Nat.le_refl _)) (fun b hb => past b (by
            rw [List.mem_singleton.mp hb, Heap.size_push]
            exact Nat.le_succ _)) (by simp only [Around.in1_units]; omega) (items.size - 0) 0 _ (by omega) (Nat.zero_le _)
          ⟨⟨_, Heap.get?_push_size _ rfl, rfl, rfl⟩, (hl1.push _)⟩ ⟨[], #[], 0, _, GS.fresh (Heap.get?_push_of_some _ hS) (fun b o e => Heap.get?_push_of_some _ (Heap.get?_push_of_some _ e)) (past _ (Nat.le_refl _)), Got.start ks⟩ ?_
        intro s' L en ep tb hm R g
        obtain ⟨h', g2, d', tk', os'⟩ := s'
        have eg : g2 = s.gens := hm.gens
        have ed : d' = s.drawn := hm.drawn
        have eo : os' = s.os := hm.os
        subst eg; subst ed; subst eo
        show wpAny _ _ _ _ _ _
        refine wpAny_pure ?_
        show wpAny _ _ (ret Value.none) _ _ _
        rw [hisz] at g
        exact wpAny_pure ⟨rfl, h', tk', L, en, ep, tb, rfl, R, g⟩
      · cases r2 with
        | error e => exact hr2
        | ok fl2 =>
          cases fl2 with
          | ret r =>
            obtain ⟨rfl, h', tk, L, en, ep, tb, rfl, R, g⟩ := hr2
            repeat (any_goals (first | assumption | wp_step))
            exact h _ _ _ _ _ _ R g
          | _ => exact hr2.elim
    | _ => exact hr.elim
end
end
end DL
/-! Further rules. -/
namespace DL
open PySem PySem.Spec PyProof.Rows L2

theorem hu65 {k : Nat} {A : Around} {env : PySem.Env} (hr : Room k (A.deeper env)) : (A.deeper env).units + 65 < cLine := by
  have := hr.un
  omega
/-- the law's def is the one that the top has made -/
theorem law_same {P : Program} {w : World} {K : PySem.W.Frag} {mg : Str → Option Value} {base : Heap} {ec : EC} {x : Str} {ps : List Str} {k p : Nat} {g : List D → R D} {fa : Addr} {oc : Value} {od : Option Addr} {fd : FuncData} {sl : Array (Option Value)}
    (G : DOk P w K mg base ec x ps k p g) (lo : K.lookup fa = some ⟨oc, od, .func fd, sl⟩) (e : mg x = some (.ref fa)) : FnOk P w K mg base (L2.CX P w) k fa fd ps (spD K ec p g) := by
  obtain ⟨f, fd2, h1, h2, h3, h4, oc2, od2, sl2, h5⟩ := G.ex
  rw [h1] at e
  have e' : f = fa := by simpa using e
  subst e'
  rw [h5] at lo
  have e2 : fd2 = fd := by
    have := Option.some.inj lo
    simp only [Obj.mk.injEq, Data.func.injEq] at this
    exact this.2.2.1
  subst e2
  exact h4
section
variable {X : Cx} {ec : EC} {W : WX} {e b tg : Expr} {pos p p2 q : Pos} {φ ψ : EX}
theorem de_globI {x : Str} {i : Int} (hg : Gl X x) (hm : ∃ t, X.mg x = some (.int i t)) (hdb : (x == ("__debug__" : Str)) = false := by decide) : DE X ec W (.Name x pos) (vC (.int i)) := by
  obtain ⟨t, h⟩ := hm
  exact de_glob (v := .int i) hg h ⟨_, rfl⟩ rfl hdb
/-! ### len(set(..)) -/
theorem pairs_of {h : Heap} : ∀ {ds : List D} {its : List Value}, (∀ d ∈ ds, (match d with | .tuple _ => true | _ => false) = true ∧ deepI 3 d = true) → IsAll h ds its →
    ∃ ks : List (Addr × D), its = ks.map (fun p => Value.ref p.1) ∧ ks.map (·.2) = ds ∧ ∀ p ∈ ks, deepI 3 p.2 = true ∧ Is h p.2 (.ref p.1)
  | [], its, _, hi => ⟨[], by rw [hi.nil]; rfl, rfl, fun p hp => (nomatch hp)⟩
  | d :: ds, its, hd, hi => by
    obtain ⟨v, us, rfl, h1, h2⟩ := hi.cons
    obtain ⟨ks, e1, e2, e3⟩ := pairs_of (fun x hx => hd x (List.mem_cons_of_mem _ hx)) h2
    obtain ⟨t1, t2⟩ := hd d List.mem_cons_self
    cases d with
    | tuple xs =>
      obtain ⟨a, o, vs, n, rfl, r⟩ := h1.tup
      refine ⟨(a, .tuple xs) :: ks, by rw [e1]; rfl, by rw [← e2]; rfl, fun p hp => ?_⟩
      rcases List.mem_cons.mp hp with e | hp
      · rw [e]; exact ⟨t2, h1⟩
      · exact e3 p hp
    | _ => cases t1
theorem lay_all : ∀ {ds : List D}, (∀ d ∈ ds, deepI 3 d = true) → PyData.canLayAll0 ds = true
  | [], _ => rfl
  | d :: ds, h => by
    unfold PyData.canLayAll0
    rw [(deepI_lay 3 (h d List.mem_cons_self)).1, lay_all fun x hx => h x (List.mem_cons_of_mem _ hx)]
    rfl
theorem de_lenset (hu : X.A.units + 65 < cLine) (hg : Gl X "len") (hm : X.mg "len" = none) (hg2 : Gl X "set") (hm2 : X.mg "set" = none) (ha : DX X ec W e φ) (hc : X.calm = true := by rfl)
    (na : starEach [e] X.env = (false, eval e X.env) :: starEach [] X.env := by rfl) : DE X ec W (.Call (.Name "len" p) [.Call (.Name "set" p2) [e] [] q] [] pos) (v1 dLenSet φ) := by
  refine ⟨fun pins s σ H Q I h => ?_⟩
  obtain ⟨r, F, F0, B, S, h⟩ := h
  refine Call_ (ld_blt I hg hm boot_len ?_)
  refine PyProof.Rows.callWith_builtin1 (PyProof.Rows.args_cons ?_ rfl) rfl rfl
  refine Call_ (ld_blt I hg2 hm2 boot_set ?_)
  refine PyProof.Rows.callWith_type1 (PyProof.Rows.args_cons (thn (ha.run pins s σ H (fun x H1 => ∃ d F1 ds, Same F1 H1 ∧ RepX X.K F1 H1 d x ∧ seqOf d = some ds ∧ (∀ z ∈ ds, (match z with | .tuple _ => true | _ => false) = true ∧ deepI 3 z = true) ∧ ds.length ≤ 40 ∧ Q (.int ((unlike [] ds).length : Nat)) H1) I
    ⟨r, F, F0, B, S, (Thn.bind h).imp fun d F1 H1 _ g k v rv => ?_⟩) fun v s1 ⟨x, H1, I1, r1, q1⟩ => PyProof.Rows.args_nil ?_) na) na rfl
  · obtain ⟨y, ey, k⟩ := Thn.po k
    unfold dLenSet at ey
    split at ey
    · rename_i ds hs
      split at ey
      · rename_i c
        cases ey
        rw [Bool.and_eq_true, List.all_eq_true, decide_eq_true_eq] at c
        exact ⟨d, F1, ds, g.i, rv, hs, fun z hz => by have := c.1 z hz; rw [Bool.and_eq_true] at this; exact this, c.2, k F1 H1 (Gr.refl g.i) _ rfl⟩
      · cases ey
    · cases ey
  · obtain ⟨d, F1, ds, sm, rx, hs, hd, hn, q1⟩ := q1
    have lay := lay_all fun z hz => (hd z hz).2
    have fin : ∀ (its : List Value) (ks : List (Addr × D)) (h' : Heap) (tk : Nat) (L : List (Addr × D)) (en : Array (Int × Value)) (ep : Nat) (tb : SetTable), ks.map (·.2) = ds → (∀ p ∈ ks, deepI 3 p.2 = true ∧ Is s1.heap p.2 (.ref p.1)) →
        GS s1.heap h' s1.heap.objs.size L en ep tb → Got ks ks.length L → wpAny (model X.prog X.w) (X.A) (call (.builtin "len") [.ref s1.heap.objs.size]) (EP X pins σ Q) X.xe { s1 with heap := h', toks := tk } := by
      intro its ks h' tk L en ep tb e2 hk R g
      obtain ⟨o, ho, hex, hdt⟩ := R.ob
      have hc1 := g.count R.nd fun p hp => (hk p hp).1
      rw [e2] at hc1
      have hsz := R.size
      have I2 : Inv X pins σ H1 { s1 with heap := h', toks := tk } := I1.kept R.base
      exact call_len_set ho hex hdt R.fits (by have := R.few; omega) ⟨.int ((unlike [] ds).length : Nat), H1, I2.tok _, ⟨_, by rw [← hc1, hsz]⟩, q1⟩
    cases d with
    | list ds' =>
      cases hs
      obtain ⟨a, vs, rfl, h1, h2⟩ := rx
      cases r1
      obtain ⟨its, rv, pl, hz⟩ := I1.list h1
      obtain ⟨as, ra⟩ := Dp.readsAll I1 ds vs its ((h2.mono sm).dp lay) rv
      obtain ⟨ks, e1, e2, e3⟩ := pairs_of hd ⟨as, ra⟩
      have hl : ks.length = ds.length := by rw [← e2, List.length_map]
      refine set_list ks (I1.ok.hd hc) pl.isList (by simpa using e1) e3 (by omega) (by omega) fun h' tk L en ep tb R g => PyProof.Rows.args_nil ?_
      exact fin its ks h' tk L en ep tb e2 e3 R g
    | tuple ds' =>
      cases hs
      obtain ⟨a, vs, rfl, h1, h2⟩ := rx
      cases r1
      obtain ⟨its, rv, ⟨o, ho, hcl, n, hdt⟩, hz⟩ := I1.tuple (tupT sm h1)
      obtain ⟨as, ra⟩ := Dp.readsAll I1 ds vs its ((h2.mono sm).dp lay) rv
      obtain ⟨ks, e1, e2, e3⟩ := pairs_of hd ⟨as, ra⟩
      have hl : ks.length = ds.length := by rw [← e2, List.length_map]
      refine set_tuple ks (I1.ok.hd hc) ⟨o, ho, hcl, n, hdt⟩ (by simpa using e1) e3 (by omega) (by omega) fun h' tk L en ep tb R g => PyProof.Rows.args_nil ?_
      exact fin its ks h' tk L en ep tb e2 e3 R g
    | _ => cases hs
end
end DL
/-! A list so many times. -/
namespace DL
open PySem PySem.Spec PyProof.Rows L2
end DL
/-! Expressions that change own lists: calls of defs that change the lists that they are passed. -/
namespace DL
open PySem PySem.Spec PyProof.Rows L2

/-- what is wanted of x, reckoned at the slots σ; the entry's part and heap F0, B -/
def ThnS {α : Type} (K : PySem.W.Frag) (ec : EC) (W : WX) (x : RS α) (σ : L2.St) (F0 B F : Hp) (P : α → Env → Hp → Hp → Prop) : Prop := match x with
  | none => False
  | some (.error e, r) => ∀ dx F' H', Same F F' → SR K F0 B r σ H' F' → ErrOk K F' H' e dx → W (.ref (ec e.cls)) dx σ H'
  | some (.ok a, r) => ∀ F' H', Same F F' → SR K F0 B r σ H' F' → P a r F' H'
section
variable {α β : Type} {K : PySem.W.Frag} {ec : EC} {W : WX} {σ : L2.St} {F0 B F F1 H : Hp} {r : Env} {P P' : α → Env → Hp → Hp → Prop}
theorem ThnS.mono {x : RS α} (g : Same F F1) (h : ThnS K ec W x σ F0 B F P) : ThnS K ec W x σ F0 B F1 P := by
  match x with
  | none => exact h
  | some (.error e, r) => exact fun dx F' H' g' => h dx F' H' (g.trans g')
  | some (.ok a, r) => exact fun F' H' g' => h F' H' (g.trans g')
theorem ThnS.imp {x : RS α} (h : ThnS K ec W x σ F0 B F P) (f : ∀ a r F' H', x = some (.ok a, r) → Same F F' → SR K F0 B r σ H' F' → P a r F' H' → P' a r F' H') : ThnS K ec W x σ F0 B F P' := by
  match x with
  | none => exact h
  | some (.error e, r) => exact h
  | some (.ok a, r) => exact fun F' H' g' S => f a r F' H' rfl g' S (h F' H' g' S)
theorem ThnS.bind {x : RS β} {f : β → Env → RS α} (h : ThnS K ec W (sb x f) σ F0 B F P) : ThnS K ec W x σ F0 B F (fun a r F' H' => ThnS K ec W (f a r) σ F0 B F' P) := by
  match x with
  | none => exact h
  | some (.error e, r) => exact h
  | some (.ok a, r) => exact fun F' H' g' S => ThnS.mono g' (show ThnS K ec W (f a r) σ F0 B F P from h)
theorem ThnS.ok {a : α} (S : SR K F0 B r σ H F) (h : ThnS K ec W (okS a r) σ F0 B F P) : P a r F H := h F H (Same.refl _) S
theorem ThnS.up {x : R α} (S : SR K F0 B r σ H F) (h : ThnS K ec W (up r x) σ F0 B F P) : Thn K ec W x σ F H fun a F' H' => P a r F' H' := by
  match x with
  | none => exact h
  | some (.error e) => exact fun dx F' H' g he => h dx F' H' g.f (S.grow g) he
  | some (.ok a) => exact fun F' H' g => h F' H' g.f (S.grow g)
end
def tDs (K : PySem.W.Frag) (ec : EC) (W : WX) (a : ES D) : TE := fun σ H Q => ∃ r F F0 B, SR K F0 B r σ H F ∧ ThnS K ec W (a r) σ F0 B F fun d _ F' H' => ∀ v, Rep K F' d v → Q v H'
def tTs (K : PySem.W.Frag) (ec : EC) (W : WX) (a : ES Bool) : TT := fun σ H Q => ∃ r F F0 B, SR K F0 B r σ H F ∧ ThnS K ec W (a r) σ F0 B F fun b _ _ H' => Q b H'
def tLs (K : PySem.W.Frag) (ec : EC) (W : WX) (a : ES (List D)) : TE := fun σ H Q => ∃ r F F0 B, SR K F0 B r σ H F ∧ ThnS K ec W (a r) σ F0 B F fun xs _ F' H' => ∀ p vs, H' p = none → RepL K F' xs vs → Q (.ref p) (upd H' p (.lst vs))
def tAss (K : PySem.W.Frag) (ec : EC) (W : WX) (a : ES (List D)) : TA := fun σ H Q => ∃ r F F0 B, SR K F0 B r σ H F ∧ ThnS K ec W (a r) σ F0 B F fun ds _ F' H' => ∀ vs, RepL K F' ds vs → Q vs H'
abbrev DEs (X : Cx) (ec : EC) (W : WX) (e : Expr) (a : ES D) : Prop := PE X e (tDs X.K ec W a)
abbrev DBs (X : Cx) (ec : EC) (W : WX) (e : Expr) (a : ES Bool) : Prop := PE X e (tDs X.K ec W (wB a))
abbrev DTs (X : Cx) (ec : EC) (W : WX) (e : Expr) (a : ES Bool) : Prop := PT X e (tTs X.K ec W a)
abbrev DWs (X : Cx) (ec : EC) (W : WX) (e : Expr) (a : ES Bool) : Prop := PW X e (tTs X.K ec W a)
abbrev DLs (X : Cx) (ec : EC) (W : WX) (e : Expr) (a : ES (List D)) : Prop := PE X e (tLs X.K ec W a)
abbrev DAs (X : Cx) (ec : EC) (W : WX) (es : List Expr) (a : ES (List D)) : Prop := PA X es (tAss X.K ec W a)
section
variable {X : Cx} {ec : EC} {W : WX} {e b c : Expr} {es rest : List Expr} {pos p : Pos} {φ : EX} {α : EB} {ι : EL} {f1 f2 : ES D} {t1 t2 : ES Bool} {l1 : ES (List D)}
/-! ### what changes nothing -/
theorem des_up (h : DE X ec W e φ) : DEs X ec W e (uX φ) := peImp h fun σ H Q ⟨r, F, F0, B, S, q⟩ => ⟨r, F, F0, B, S, q.up S⟩
/-! ### conversions -/
/-- a new list becomes a datum -/
theorem des_l (h : DLs X ec W e l1) : DEs X ec W e (wL l1) := peImp h fun σ H Q ⟨r, F, F0, B, S, q⟩ =>
  ⟨r, F, F0, B, S, (ThnS.bind q).imp fun xs r1 F1 H1 _ sf S1 k p vs hp hv => by
    have g' := Gr.new S1.sub hp (.lst vs)
    exact k _ _ g'.f (S1.grow g') (.ref p) ⟨p, vs, rfl, .inl (.inl upd_same), hv.mono g'.f⟩⟩
theorem boolOfS {K : PySem.W.Frag} {σ : L2.St} {F0 B F : Hp} {P : Bool → Env → Hp → Hp → Prop} {x : RS D} (q : ThnS K ec W (sb x fun d r => up r (po (dTr d))) σ F0 B F P) : ThnS K ec W x σ F0 B F fun d r F' H' => ∃ k, d = .bool k ∧ P k r F' H' := by
  match x with
  | none => exact q
  | some (.error _, _) => exact q
  | some (.ok d, r) =>
    intro F' H' g S
    cases d with
    | bool k => exact ⟨k, rfl, (show ThnS K ec W (okS k r) σ F0 B F P from q) F' H' g S⟩
    | _ => exact False.elim q
theorem DEs.test (h : DEs X ec W e f1) (he : ∀ whole, isTrue e X.env whole = (do let v ← whole; standAt e.pos; holding [v] (truthy v)) := by intro _; rfl) : DTs X ec W e (wTr f1) :=
  ptImp (pt_val h he) fun σ H Q ⟨r, F, F0, B, S, q⟩ => by
    refine ⟨r, F, F0, B, S, (boolOfS q).imp fun d r1 F1 H1 _ g1 S1 ⟨k, e, h1⟩ v rv => ?_⟩
    subst e
    exact ⟨k, rv, h1⟩
theorem DEs.tr (h : DEs X ec W e f1) : DBs X ec W e (wTr f1) := peImp h fun σ H Q ⟨r, F, F0, B, S, q⟩ => by
  have q' : ThnS X.K ec W (sb (f1 r) fun d r => up r (po (dTr d))) σ F0 B F fun k r' F' H' => ∀ v, Rep X.K F' (.bool k) v → Q v H' := by
    have q0 : ThnS X.K ec W (sb (sb (f1 r) fun d r => up r (po (dTr d))) fun b r1 => okS (PyData.bool b) r1) σ F0 B F fun d _ F' H' => ∀ v, Rep X.K F' d v → Q v H' := q
    exact (ThnS.bind q0).imp fun k r' F' H' _ _ S' z => ThnS.ok S' z
  refine ⟨r, F, F0, B, S, (boolOfS q').imp fun d r1 F1 H1 _ g1 S1 ⟨k, e, h1⟩ v rv => ?_⟩
  subst e
  exact h1 v rv
theorem DBs.test (h : DBs X ec W e t1) (he : ∀ whole, isTrue e X.env whole = (do let v ← whole; standAt e.pos; holding [v] (truthy v)) := by intro _; rfl) : DTs X ec W e t1 :=
  ptImp (pt_val h he) fun σ H Q ⟨r, F, F0, B, S, q⟩ => by
    refine ⟨r, F, F0, B, S, ?_⟩
    have q' : ThnS X.K ec W (t1 r) σ F0 B F fun b _ _ H' => Q b H' := q
    revert q'
    show _ → ThnS _ _ _ (sb (t1 r) fun b r1 => okS (PyData.bool b) r1) _ _ _ _ _
    match t1 r with
    | none => exact fun z => z
    | some (.error _, _) => exact fun z => z
    | some (.ok k, r1) => exact fun z F' H' g S v rv => ⟨k, rv, z F' H' g S⟩
theorem DWs.t (h : DWs X ec W e t1) : DTs X ec W e t1 := PW.pt h
/-! ### operators -/
theorem des_op {op : Operator} {t : R2} {f : D → D → Option D} (ho : OpR X (binaryOp op) t) (hs : Op2 X.K f t) (ha : DEs X ec W e f1) (hb : DEs X ec W b f2) : DEs X ec W (.BinOp e op b pos) (DL.w2 f f1 f2) :=
  peImp (pe_op ho ha hb) fun _ _ _ h => by
    obtain ⟨r, F, F0, B, S, q⟩ := h
    refine ⟨r, F, F0, B, S, (ThnS.bind q).imp fun x r1 F1 H1 _ s1 S1 h1 v rv => ⟨r1, F1, F0, B, S1, (ThnS.bind h1).imp fun y r2 F2 H2 _ s2 S2 h2 u ru => ?_⟩⟩
    obtain ⟨d, ed, k⟩ := (h2.up S2).po
    exact hs x y d F2 H2 v u _ ed S2.sub ((rv.mono s2).x S2.sub) (ru.x S2.sub) fun w F' H' g' rw' => k F' H' g' w rw'
/-! ### arguments, displays, built-ins, calls of other defs -/
theorem das_nil : DAs X ec W [] (wArgs []) := paImp pa_nil fun σ H Q ⟨r, F, F0, B, S, q⟩ => ThnS.ok S q [] rfl
theorem das_cons {as : List (ES D)} (ha : DEs X ec W e f1) (hr : DAs X ec W es (wArgs as)) (hs : starEach (e :: es) X.env = (false, eval e X.env) :: starEach es X.env := by rfl) : DAs X ec W (e :: es) (wArgs (f1 :: as)) :=
  paImp (pa_cons ha hr hs) fun σ H Q ⟨r, F, F0, B, S, q⟩ =>
    ⟨r, F, F0, B, S, (ThnS.bind q).imp fun x r1 F1 H1 _ g1 S1 h1 v rv => ⟨r1, F1, F0, B, S1, (ThnS.bind h1).imp fun xs r2 F2 H2 _ g2 S2 h2 vs rs =>
      ThnS.ok S2 h2 (v :: vs) ⟨v, vs, rfl, rv.mono g2, rs⟩⟩⟩
theorem wArgs_len {as : List (ES D)} {r r' : Env} {xs : List D} (h : wArgs as r = some (.ok xs, r')) : xs.length = as.length := by
  induction as generalizing xs r r' with
  | nil =>
    have h' : okS ([] : List D) r = some (.ok xs, r') := h
    unfold okS at h'
    have e : xs = [] := by simpa using (congrArg (fun z : Option (Except Err (List D) × Env) => z.map (·.1)) h').symm
    subst e; rfl
  | cons a as ih =>
    obtain ⟨x, r1, h1, h2⟩ := sb_eq_ok (f := fun x r1 => sb (wArgs as r1) fun xs r2 => okS (x :: xs) r2) h
    obtain ⟨ys, r2, h3, h4⟩ := sb_eq_ok h2
    unfold okS at h4
    have e : xs = x :: ys := by simpa using (congrArg (fun z : Option (Except Err (List D) × Env) => z.map (·.1)) h4).symm
    subst e
    rw [List.length_cons, List.length_cons, ih h3]
theorem des_tup {as : List (ES D)} {x1} (h : DAs X ec W es (wArgs as)) (hl : as.length ≤ sizeLine := by decide) : DEs X ec W (.Tuple es x1 pos) (wTup as) := peImp (pe_tup h) fun σ H Q ⟨r, F, F0, B, S, q⟩ =>
  ⟨r, F, F0, B, S, (ThnS.bind q).imp fun xs r1 F1 H1 ex g1 S1 h1 vs rs => ⟨by rw [rs.length, wArgs_len ex]; exact hl, fun p hp => by
    have g' := Gr.new S1.sub hp (.tup vs)
    exact h1 _ _ g'.f (S1.grow g') (.ref p) ⟨p, vs, rfl, upd_same, rs.mono g'.f⟩⟩⟩
def tA1s (K : PySem.W.Frag) (ec : EC) (W : WX) (a : ES D) : TA := fun σ H Q => ∃ r F F0 B, SR K F0 B r σ H F ∧ ThnS K ec W (a r) σ F0 B F fun d _ F' H' => ∀ v, Rep K F' d v → Q [v] H'
theorem pa1s (ha : DEs X ec W e f1) (hs : starEach [e] X.env = (false, eval e X.env) :: starEach [] X.env := by rfl) : PA X [e] (tA1s X.K ec W f1) := paImp (pa_cons ha pa_nil hs) fun σ H Q ⟨r, F, F0, B, S, q⟩ => ⟨r, F, F0, B, S, q⟩
section
variable {x : Str} {id T : String} {t : RV}
theorem s1_use {K : PySem.W.Frag} {f : D → Option D} (hs : B1 K f t) {σ : L2.St} {H : Hp} {Q : VK} (h : tDs K ec W (DL.w1 f f1) σ H Q) : tCB t (tA1s K ec W f1) σ H Q := by
  obtain ⟨r, F, F0, B, S, q⟩ := h
  refine ⟨r, F, F0, B, S, (ThnS.bind q).imp fun x r1 F1 H1 _ g1 S1 h1 v rv => ?_⟩
  obtain ⟨d, ed, k⟩ := (h1.up S1).po
  exact hs x d F1 H1 v Q ed S1.sub (rv.x S1.sub) fun w F' H' g' rw' => k F' H' g' w rw'
theorem des_t1 {f : D → Option D} (hc : CallR X (.type T) t) (hs : B1 X.K f t) (hg : Gl X x) (hm : X.mg x = none) (ha : DEs X ec W e f1) (hv : bootBuiltins x = some (.type T)) (hn : x ≠ "__name__" := by decide) (hdb : (x == ("__debug__" : Str)) = false := by decide)
    (he : starEach [e] X.env = (false, eval e X.env) :: starEach [] X.env := by rfl) : DEs X ec W (.Call (.Name x p) [e] [] pos) (DL.w1 f f1) := peImp (pe_callTy hc hg hm hv (pa1s ha he) hn hdb he (by rfl)) fun _ _ _ h => s1_use hs h
end
end
/-! ### the own lists of all names -/
def Feet (r : Env) (σ : L2.St) (H : Hp) (a : Addr) : Prop := ∃ (i : Nat) (s : Slot) (y : Option V), r[i]? = some s ∧ σ[i]? = some y ∧ Foot H s y a
open Classical in
noncomputable def bas (r : Env) (σ : L2.St) (H : Hp) : Hp := fun a => if Feet r σ H a then none else H a
section
variable {K : PySem.W.Frag} {F0 B : Hp} {r r' : Env} {σ σ' : L2.St} {H F H' F' : Hp} {a : Addr} {o : HO}
theorem bas_in (h : Feet r σ H a) : bas r σ H a = none := if_pos h
theorem bas_out (h : ¬ Feet r σ H a) : bas r σ H a = H a := if_neg h
theorem bas_some {u : HO} (h : bas r σ H a = some u) : ¬ Feet r σ H a ∧ H a = some u := by
  by_cases c : Feet r σ H a
  · rw [bas_in c] at h; cases h
  · rw [bas_out c] at h; exact ⟨c, h⟩
theorem SR.feet (S : SR K F0 B r σ H F) (f : Feet r σ H a) : ∃ u, H a = some u ∧ F a = none ∧ B a = none ∧ ∀ vs, u ≠ .tup vs := by
  obtain ⟨i, s, y, h1, h2, h3⟩ := f
  exact foot_ok (S.slot h1 h2) h3
theorem SR.rebase (S : SR K F0 B r σ H F) : SR K F (bas r σ H) r σ H F := by
  refine ⟨⟨Same.refl _, fun b x q => (bas_some q).2, S.sub, fun b _ q _ => q⟩, S.len, fun i s e => ?_, S.sep, S.tag⟩
  obtain ⟨y, h1, h2⟩ := S.ok i s e
  refine ⟨y, h1, ?_⟩
  have ff : ∀ b, Foot H s y b → bas r σ H b = none := fun b f => bas_in ⟨i, s, y, e, h1, f⟩
  cases s with
  | un => exact trivial
  | d x => exact h2
  | tg x => exact h2
  | ex c g => exact h2
  | rg n => exact h2
  | own xs =>
    obtain ⟨b, vs, q, k1, k2, _, k4⟩ := h2
    exact ⟨b, vs, q, k1, k2, ff b q, k4⟩
  | dct xs =>
    obtain ⟨b, vs, q, k1, k2, _, k4⟩ := h2
    exact ⟨b, vs, q, k1, k2, ff b q, k4⟩
  | io b xs =>
    obtain ⟨vs, q, k1, k2, _, k4⟩ := h2
    exact ⟨vs, q, k1, k2, ff b q, k4⟩
  | nest xss =>
    obtain ⟨b, vs, q, k1, k2, _, k4, k5⟩ := h2
    refine ⟨b, vs, q, k1, k2, ff b ⟨b, vs, q, k1, .inl rfl⟩, k4, ?_⟩
    have fn : ∀ c, V.ref c ∈ vs → bas r σ H c = none := fun c m => ff c ⟨b, vs, q, k1, .inr m⟩
    clear ff h1 q k1 k4 e
    induction xss generalizing vs with
    | nil => exact k5
    | cons xs xss ih =>
      obtain ⟨c, us, w, e1, e2, e3, _, e5, e6, e7⟩ := k5
      exact ⟨c, us, w, e1, e2, e3, fn c (by rw [e1]; exact List.mem_cons_self), e5, e6, ih w e7 fun d m => fn d (by rw [e1]; exact List.mem_cons_of_mem _ m)⟩
/-- a slot's own lists seen from another entry -/
theorem SlotOk.base {B' : Hp} : ∀ {s : Slot} {y : Option V}, (∀ a, Foot H s y a → B' a = none) → SlotOk K B H F s y → SlotOk K B' H F s y
  | .un, _, _, _ => trivial
  | .d _, _, _, h => h
  | .tg _, _, _, h => h
  | .ex _ _, _, _, h => h
  | .rg _, _, _, h => h
  | .own xs, _, k, ⟨a, vs, q, h1, h2, _, h4⟩ => ⟨a, vs, q, h1, h2, k a q, h4⟩
  | .dct xs, _, k, ⟨a, vs, q, h1, h2, _, h4⟩ => ⟨a, vs, q, h1, h2, k a q, h4⟩
  | .io a xs, _, k, ⟨vs, q, h1, h2, _, h4⟩ => ⟨vs, q, h1, h2, k a q, h4⟩
  | .nest xss, _, k, ⟨a, vs, q, h1, h2, _, h4, h5⟩ => by
    refine ⟨a, vs, q, h1, h2, k a ⟨a, vs, q, h1, .inl rfl⟩, h4, ?_⟩
    have fn : ∀ c, V.ref c ∈ vs → B' c = none := fun c m => k c ⟨a, vs, q, h1, .inr m⟩
    clear k q h1 h4
    induction xss generalizing vs with
    | nil => exact h5
    | cons xs xss ih =>
      obtain ⟨c, us, w, e1, e2, e3, _, e5, e6, e7⟩ := h5
      exact ⟨c, us, w, e1, e2, e3, fn c (by rw [e1]; exact List.mem_cons_self), e5, e6, ih w e7 fun d m => fn d (by rw [e1]; exact List.mem_cons_of_mem _ m)⟩
theorem SR.unbase {σ2 : L2.St} (S : SR K F0 B r σ H F) (S' : SR K F (bas r σ H) r' σ2 H' F') : SR K F0 B r' σ2 H' F' := by
  have hB : ∀ b, bas r σ H b = none → B b = none := fun b q => by
    by_cases c : Feet r σ H b
    · obtain ⟨_, _, _, h, _⟩ := S.feet c
      exact h
    · rw [bas_out c] at q
      exact S.gr.h.free q
  refine ⟨⟨S.gr.f.trans S'.gr.f, fun b x q => ?_, S'.sub, fun b hb q t => ?_⟩, S'.len, fun i s e => ?_, S'.sep, S'.tag⟩
  · have nf : ¬ Feet r σ H b := fun c => by
      obtain ⟨_, _, _, h, _⟩ := S.feet c
      rw [h] at q; cases q
    exact S'.gr.h b x (by rw [bas_out nf]; exact S.gr.h b x q)
  · have nf : ¬ Feet r σ H b := fun c => by
      obtain ⟨_, _, _, h, _⟩ := S.feet c
      exact hb h
    refine S'.gr.n b ?_ (S.gr.n b hb q t) fun vs e => ?_
    · rw [bas_out nf]
      cases e : B b with
      | none => exact absurd e hb
      | some u => rw [S.gr.h b u e]; exact fun z => nomatch z
    · rw [bas_out nf] at e
      cases e2 : B b with
      | none => exact hb e2
      | some u =>
        rw [S.gr.h b u e2] at e
        cases e
        exact t vs e2
  · obtain ⟨y, h1, h2⟩ := S'.ok i s e
    exact ⟨y, h1, h2.base fun b f => by
      obtain ⟨_, _, _, h, _⟩ := foot_ok h2 f
      exact hB b h⟩
/-- what no slot owns may be changed -/
theorem SR.other (S : SR K F0 B r σ H F) (nf : ¬ Feet r σ H a) (fa : F a = none) (ba : B a = none) (hH : ∀ b, b ≠ a → H' b = H b) : SR K F0 B r σ H' F := by
  have fr : ∀ {i : Nat} {s : Slot} {y : Option V}, r[i]? = some s → σ[i]? = some y → ∀ b, Foot H s y b → H' b = H b := fun e1 e2 b f => hH b fun z => nf (by rw [← z]; exact ⟨_, _, _, e1, e2, f⟩)
  refine ⟨⟨S.gr.f, fun b x q => ?_, fun b x q => ?_, S.gr.n⟩, S.len, fun i s e => ?_, fun i j s t y z b hij e1 e2 e3 e4 f1 f2 => ?_, S.tag⟩
  · rw [hH b (ne_of_none q ba)]; exact S.gr.h b x q
  · rw [hH b (ne_of_none q fa)]; exact S.sub b x q
  · obtain ⟨y, h1, h2⟩ := S.ok i s e
    exact ⟨y, h1, h2.frame (Same.refl _) fun b f => ⟨fr e h1 b f, by obtain ⟨_, _, k, _⟩ := foot_ok h2 f; exact k⟩⟩
  · exact S.sep i j s t y z b hij e1 e2 e3 e4 (f1.back (S.slot e1 e3) (fr e1 e3)) (f2.back (S.slot e2 e4) (fr e2 e4))
theorem SR.feet_other (S : SR K F0 B r σ H F) (nf : ¬ Feet r σ H a) (hH : ∀ b, b ≠ a → H' b = H b) {c : Addr} (f : Feet r σ H' c) : Feet r σ H c := by
  obtain ⟨i, s, y, e1, e2, f⟩ := f
  exact ⟨i, s, y, e1, e2, f.back (S.slot e1 e2) fun b g => hH b fun z => nf (by rw [← z]; exact ⟨i, s, y, e1, e2, g⟩)⟩
theorem SR.feet_grow (S : SR K F0 B r σ H F) (g : Gr F H F' H') {c : Addr} (f : Feet r σ H' c) : Feet r σ H c := by
  obtain ⟨i, s, y, e1, e2, f⟩ := f
  exact ⟨i, s, y, e1, e2, f.back (S.slot e1 e2) fun b k => (g.foot (S.slot e1 e2) b k).1⟩
end
end DL
/-! Comprehensions whose items change own lists; calls of defs that change lists. -/
namespace DL
open PySem PySem.Spec PyProof.Rows L2

/-! ### what is walked -/
def tIs (K : PySem.W.Frag) (ec : EC) (W : WX) (a : ES (List D)) : TI := fun σ H R => ∃ r F F0 B, SR K F0 B r σ H F ∧ ThnS K ec W (a r) σ F0 B F fun xs _ F' H' => ∀ J, IterOk K F' F' J xs → R J H'
abbrev DIs (X : Cx) (ec : EC) (W : WX) (tg e : Expr) (a : ES (List D)) : Prop := PI X tg e (tIs X.K ec W a)
section
variable {X : Cx} {ec : EC} {W : WX} {tg e b : Expr} {pos p : Pos} {f1 f2 : ES D} {ι : EL}
theorem dis_up (h : DI X ec W tg e ι) : DIs X ec W tg e (uX ι) := piImp h fun σ H Q ⟨r, F, F0, B, S, q⟩ => ⟨r, F, F0, B, S, q.up S⟩
end
/-! ### comprehensions -/
theorem noErS_ok {α : Type} {x : RS α} {a : α} {r : Env} (h : noErS x = some (.ok a, r)) : x = some (.ok a, r) := by
  unfold noErS at h
  split at h
  · exact h
  · cases h
theorem unSlots_get : ∀ (vs : List Nat) (r : Env) (j : Nat), (unSlots vs r)[j]? = if j ∈ vs then (if j < r.length then some .un else none) else r[j]?
  | [], r, j => by simp [unSlots]
  | v :: vs, r, j => by
    have ih := unSlots_get vs r j
    have hl : ∀ vs : List Nat, (unSlots vs r).length = r.length := fun vs => by
      induction vs with
      | nil => rfl
      | cons v vs ih => show ((unSlots vs r).set v .un).length = _; rw [List.length_set, ih]
    show ((unSlots vs r).set v .un)[j]? = _
    by_cases c : j = v
    · subst c
      rw [if_pos List.mem_cons_self]
      by_cases hj : j < r.length
      · rw [if_pos hj, List.getElem?_set_self (by rw [hl]; exact hj)]
      · rw [if_neg hj]
        exact List.getElem?_eq_none (by rw [List.length_set, hl]; omega)
    · rw [List.getElem?_set_ne (Ne.symm c), ih]
      by_cases hm : j ∈ vs
      · rw [if_pos hm, if_pos (List.mem_cons_of_mem _ hm)]
      · rw [if_neg hm, if_neg (fun z => (List.mem_cons.mp z).elim c hm)]
section
variable {K : PySem.W.Frag} {F0 B : Hp} {r : Env} {σ : L2.St} {H F : Hp}
/-- names that are forgotten may have any value -/
theorem SR.unwipe {vs : List Nat} (S : SR K F0 B r (L2.wipe σ vs) H F) (hu : ∀ i ∈ vs, ∀ s, r[i]? = some s → s = .un) : SR K F0 B r σ H F := by
  have nin : ∀ {i : Nat} {s : Slot} {y : Option V} {a : Addr}, r[i]? = some s → Foot H s y a → i ∉ vs := fun e f m => by
    rw [hu _ m _ e] at f; exact f
  have same : ∀ {i : Nat}, i ∉ vs → (L2.wipe σ vs)[i]? = σ[i]? := fun h => by rw [wipe_get, if_neg h]
  refine ⟨S.gr, by rw [S.len, wipe_length], fun i s e => ?_, fun i j s t y z a hij e1 e2 e3 e4 f1 f2 => ?_, ?_⟩
  · by_cases m : i ∈ vs
    · have hs := hu i m s e
      subst hs
      have hl := get_lt e
      rw [S.len, wipe_length] at hl
      exact ⟨σ[i], List.getElem?_eq_getElem hl, trivial⟩
    · obtain ⟨y, h1, h2⟩ := S.ok i s e
      rw [same m] at h1
      exact ⟨y, h1, h2⟩
  · exact S.sep i j s t y z a hij e1 e2 (by rw [same (nin e1 f1)]; exact e3) (by rw [same (nin e2 f2)]; exact e4) f1 f2
  · obtain ⟨us, h1, h2⟩ := S.tag
    refine ⟨us, h1, fun i xs e => ?_⟩
    have m : i ∉ vs := fun m => by cases hu i m _ e
    obtain ⟨a, h3, h4⟩ := h2 i xs e
    rw [same m] at h3
    exact ⟨a, h3, h4⟩
end
theorem unSlots_idem (vs : List Nat) (r : Env) : unSlots vs (unSlots vs r) = unSlots vs r := by
  apply List.ext_getElem?
  intro j
  have hl : (unSlots vs r).length = r.length := by
    induction vs with
    | nil => rfl
    | cons v vs ih => show ((unSlots vs r).set v .un).length = _; rw [List.length_set, ih]
  rw [unSlots_get vs (unSlots vs r), hl, unSlots_get vs r]
  by_cases c : j ∈ vs
  · rw [if_pos c, if_pos c]
  · rw [if_neg c, if_neg c]
theorem lcs_use {K : PySem.W.Frag} {ec : EC} {W : WX} {ι : ES (List D)} {g : Tg} {β : EB} {φ : ES D} {vs : List Nat} (hvs : vs = g.slots) {σ : L2.St} {H : Hp} {Q : VK} (h : tLs K ec W (wComp ι g β φ) σ H Q) :
    tLc (tIs K ec W ι) (tgT K g) (tT K ec W0 β) (tDs K ec W0 φ) vs σ H Q := by
  subst hvs
  obtain ⟨r, F, F0, B, S, q⟩ := h
  refine ⟨r, F, F0, B, S, (ThnS.bind q).imp fun xs r0 F1 H1 _ sf1 S1 h1 J hJ D hD => ?_⟩
  by_cases hlim : xs.length ≤ lim
  · rw [if_pos hlim] at h1
    match ec1 : noErS (compLS g β φ xs (unSlots g.slots r0)) with
    | none => rw [ec1] at h1; exact False.elim h1
    | some (.error _, _) =>
      exfalso
      unfold noErS at ec1
      split at ec1
      · cases ec1
      · cases ec1
    | some (.ok ys, rE) =>
      rw [ec1] at h1
      have hc : compLS g β φ xs (unSlots g.slots r0) = some (.ok ys, rE) := noErS_ok ec1
      have Sw := SR.wipe g.slots S1
      obtain ⟨G, Y, w, hG, hY⟩ := hJ
      have goD := Gr.own S1.sub hD (.lst [])
      have hBD : B D = none := S1.gr.h.free hD
      have nf0 : ¬ Feet (unSlots g.slots r0) (L2.wipe σ g.slots) (upd H1 D (.lst [])) D := fun f => by
        obtain ⟨_, k, _⟩ := Sw.feet (Sw.feet_grow goD f)
        rw [hD] at k; cases k
      refine lc_it w (fun i Hc => ∃ done rest us F2 rc, i ≤ xs.length ∧ compLS g β φ (xs.drop i) rc = some (.ok rest, rE) ∧ done ++ rest = ys ∧ done.length ≤ i ∧ Hc D = some (.lst us) ∧ F2 D = none ∧ RepL K F2 done us ∧ Same F1 F2 ∧ SR K F0 B rc (L2.wipe σ g.slots) Hc F2 ∧ ¬ Feet rc (L2.wipe σ g.slots) Hc D ∧ unSlots g.slots rc = rc)
        ⟨[], ys, [], F1, unSlots g.slots r0, Nat.zero_le _, hc, rfl, Nat.le_refl _, upd_same, S1.sub.free hD, rfl, Same.refl _, Sw.grow goD, nf0, unSlots_idem _ _⟩ ?_ ?_ ?_
      · rintro i Hc hi ⟨done, rest, us, F2, rc, _, _, _, _, _, _, _, sf, S2, _⟩
        exact hG _ (sf.trans S2.sub)
      · rintro i x Hc H' hi ⟨done, rest, us, F2, rc, _, er, ed, hl, hcD, fD, hu, sf, S2, nf, _⟩ y
        obtain ⟨d, hd⟩ : ∃ d, xs[i]? = some d := ⟨xs[i], List.getElem?_eq_getElem hi⟩
        have hdrop : xs.drop i = d :: xs.drop (i + 1) := by
          rw [List.drop_eq_getElem_cons hi]
          congr 1
          have := List.getElem?_eq_getElem hi
          rw [hd] at this
          exact (Option.some.inj this).symm
        obtain ⟨F3, g3, r3⟩ := hY i d _ x H' F2 hd (sf.trans S2.sub) sf S2.sub y
        have S2b := S2.rebase
        have bD : bas rc (L2.wipe σ g.slots) Hc D = some (.lst us) := by rw [bas_out nf]; exact hcD
        have S3 := S2b.grow g3
        rw [hdrop] at er
        unfold compLS at er
        split at er
        · cases er
        · rename_i r1 hput
          have er' : (sb (up r1 (β r1)) fun k r1 => if k = true then sb (φ r1) fun y r2 => sb (compLS g β φ (xs.drop (i + 1)) (unSlots g.slots r2)) fun ys r3 => okS (y :: ys) r3 else compLS g β φ (xs.drop (i + 1)) (unSlots g.slots r1)) = some (.ok rest, rE) := er
          obtain ⟨k, r1', ek, er1⟩ := sb_eq_ok er'
          have ek2 : r1' = r1 ∧ β r1 = ok k := by
            unfold up at ek
            split at ek
            · cases ek
            · cases ek
            · rename_i a' e'
              cases ek
              exact ⟨rfl, e'⟩
          obtain ⟨e2, ek3⟩ := ek2
          subst e2
          refine put_ok S3 r3 hput fun σ2 S4 hw => ⟨by rw [hw, wipe_wipe], ⟨r1', F3, F2, bas rc (L2.wipe σ g.slots) Hc, S4, Thn.ok0 ek3 fun F4 H4 g4 => ?_⟩⟩
          have S5 := S4.grow g4
          -- behind the turn
          have fin : ∀ (r2 : Env) (F5 H5 : Hp) (done' : List DL.D) (rest' : List DL.D) (us' : List V), Same F4 F5 → SR K F2 (bas rc (L2.wipe σ g.slots) Hc) r2 σ2 H5 F5 → compLS g β φ (xs.drop (i + 1)) (unSlots g.slots r2) = some (.ok rest', rE) → done' ++ rest' = ys → done'.length ≤ i + 1 → RepL K F5 done' us' → ∀ Hn : Hp, (∀ b, b ≠ D → Hn b = H5 b) → Hn D = some (.lst us') →
              ∃ done rest us F2 rc, i + 1 ≤ xs.length ∧ compLS g β φ (xs.drop (i + 1)) rc = some (.ok rest, rE) ∧ done ++ rest = ys ∧ done.length ≤ i + 1 ∧ Hn D = some (.lst us) ∧ F2 D = none ∧ RepL K F2 done us ∧ Same F1 F2 ∧ SR K F0 B rc (L2.wipe σ g.slots) Hn F2 ∧ ¬ Feet rc (L2.wipe σ g.slots) Hn D ∧ unSlots g.slots rc = rc := by
            intro r2 F5 H5 done' rest' us' sf5 S6 e1 e3 e4 e5 Hn hn1 hn2
            have S7 := SR.wipe g.slots S6
            have hw2 : L2.wipe σ2 g.slots = L2.wipe σ g.slots := by rw [hw, wipe_wipe]
            rw [hw2] at S7
            have S8 := S2.unbase S7
            have f5D : F5 D = none := S7.gr.n D (by rw [bD]; exact fun z => nomatch z) fD fun vs e => by rw [bD] at e; cases e
            have nf5 : ¬ Feet (unSlots g.slots r2) (L2.wipe σ g.slots) H5 D := fun f => by
              obtain ⟨_, _, _, k, _⟩ := S7.feet f
              rw [bD] at k; cases k
            exact ⟨done', rest', us', F5, unSlots g.slots r2, hi, e1, e3, e4, hn2, f5D, e5, ((sf.trans g3.f).trans g4.f).trans sf5, S8.other nf5 f5D hBD hn1, fun f => nf5 (S8.feet_other nf5 hn1 f), unSlots_idem _ _⟩
          cases k with
          | true =>
            rw [if_pos rfl] at er1
            obtain ⟨z, r2, ez, er2⟩ := sb_eq_ok er1
            obtain ⟨rest', r4, er3, er4⟩ := sb_eq_ok er2
            have e5 : rest = z :: rest' ∧ r4 = rE := by
              unfold okS at er4
              cases er4
              exact ⟨rfl, rfl⟩
            obtain ⟨e5, e6⟩ := e5
            subst e6
            refine iteT ⟨r1', F4, F2, _, S5, ?_⟩
            rw [ez]
            intro F5 H5 sf5 S6 v rv
            have h5D : H5 D = some (.lst us) := S6.gr.h _ _ bD
            refine ⟨us, h5D, ?_, ?_⟩
            · rw [hu.length]
              exact Nat.lt_of_lt_of_le (Nat.lt_of_le_of_lt hl hi) (lim_line hlim)
            · exact fin r2 F5 H5 (done ++ [z]) rest' (us ++ [v]) sf5 S6 er3 (by rw [← ed, e5]; simp) (by rw [List.length_append]; simpa using hl) ((hu.mono ((g3.f.trans g4.f).trans sf5)).append ⟨v, [], rfl, rv, rfl⟩) _ (fun b c => upd_ne c) upd_same
          | false =>
            rw [if_neg (by simp)] at er1
            have h4D : H4 D = some (.lst us) := S5.gr.h _ _ bD
            exact iteF (fin r1' F4 H4 done rest us (Same.refl _) S5 er1 ed (Nat.le_succ_of_le hl) (hu.mono (g3.f.trans g4.f)) H4 (fun _ _ => rfl) h4D)
      · rintro Hc ⟨done, rest, us, F2, rc, _, er, ed, hl, hcD, fD, hu, sf, S2, nf, hrc⟩
        rw [List.drop_length] at er
        have e5 : rest = [] ∧ rc = rE := by
          have e6 : okS ([] : List DL.D) rc = some (.ok rest, rE) := er
          unfold okS at e6
          cases e6
          exact ⟨rfl, rfl⟩
        obtain ⟨e5, e6⟩ := e5
        subst e6
        rw [e5, List.append_nil] at ed
        subst ed
        have S9 : SR K F0 B rc (L2.wipe σ g.slots) (DL.del Hc D) F2 := S2.other nf fD hBD fun b c => del_ne c
        have S10 := S9.unwipe fun i hi s e => by
          rw [← hrc, unSlots_get, if_pos hi] at e
          split at e
          · exact (Option.some.inj e).symm
          · cases e
        have z := h1 F2 (DL.del Hc D) sf S10 D us del_self hu
        rw [upd_del hcD] at z
        exact z
  · rw [if_neg hlim] at h1
    exact False.elim h1
section
variable {X : Cx} {ec : EC} {W : WX} {elt tg iter : Expr} {ifs : List Expr} {scope : Scope} {own : List (Str × Nat)} {pos : Pos} {ι : ES (List D)} {g : Tg} {β : EB} {φ : ES D}
theorem dls_comp (hc : X.calm = true) (hN : X.N.Nodup) (hi : DIs X ec W tg iter ι) (ok : BlkOk X.N X.env.scope scope own) (hv : own.map (·.2) = g.slots)
    (hg : ∀ (s : Shared) (H : Hp) (C : Addr) (cl : List (Str × Addr)) (fp : List Addr), PG (X.blk s H scope (compEnvC scope cl C X.env) fp) tg (tgT X.K g)) (ht : ∀ (s : Shared) (H : Hp) (C : Addr) (cl : List (Str × Addr)) (fp : List Addr), PTs (X.blk s H scope (compEnvC scope cl C X.env) fp) ifs (tT X.K ec W0 β))
    (he : ∀ (s : Shared) (H : Hp) (C : Addr) (cl : List (Str × Addr)) (fp : List Addr), DEs (X.blk s H scope (compEnvC scope cl C X.env) fp) ec W0 elt φ) (hs : ∀ x, foldedSetIterable iter X.env x = pure x := by intro _; rfl) :
    DLs X ec W (.ListComp elt [⟨tg, iter, ifs, 0⟩] scope pos) (wComp ι g β φ) := peImp (pe_lc hc hN hi ok hg ht he hs) fun _ _ _ h => lcs_use hv h
end
/-! ### calls of defs that change lists -/
section
variable {K : PySem.W.Frag} {F0 B : Hp} {r r2 : Env} {σ : L2.St} {H F H' F' : Hp}
theorem SR.io_at (S : SR K F0 B r σ H F) {i : Nat} {xs : List D} (h : ioXs r i = some xs) : ∃ (s : Slot) (a : Addr) (vs : List V), r[i]? = some s ∧ σ[i]? = some (some (.ref a)) ∧ H a = some (.lst vs) ∧ F a = none ∧ B a = none ∧ RepL K F xs vs ∧ (s = .own xs ∨ s = .io a xs) := by
  unfold ioXs at h
  split at h
  · rename_i ys e
    cases h
    obtain ⟨y, h1, a, vs, rfl, h2, h3, h4, h5⟩ := S.ok i _ e
    exact ⟨_, a, vs, e, h1, h2, h3, h4, h5, .inl rfl⟩
  · rename_i b ys e
    cases h
    obtain ⟨y, h1, vs, rfl, h2, h3, h4, h5⟩ := S.ok i _ e
    exact ⟨_, b, vs, e, h1, h2, h3, h4, h5, .inr rfl⟩
  · cases h
theorem foot_own {s : Slot} {xs : List D} {a b : Addr} {y : Option V} (h : s = .own xs ∨ s = .io a xs) : Foot H s y b ↔ y = some (.ref b) := by
  rcases h with rfl | rfl <;> exact Iff.rfl
/-- the address of a list that is passed -/
def adr (σ : L2.St) (i : Nat) : Addr := match σ[i]? with
  | some (some (.ref a)) => a
  | _ => 0
theorem adr_of {i : Nat} {a : Addr} (h : σ[i]? = some (some (.ref a))) : adr σ i = a := by unfold adr; rw [h]
def ioIx : List AV → List Nat
  | [] => []
  | .io i :: bs => i :: ioIx bs
  | .d _ :: bs => ioIx bs
def RepI (K : PySem.W.Frag) (σ : L2.St) (F : Hp) : List AV → List V → Prop
  | [], vs => vs = []
  | .io i :: bs, vs => ∃ a w, vs = .ref a :: w ∧ σ[i]? = some (some (.ref a)) ∧ RepI K σ F bs w
  | .d x :: bs, vs => ∃ v w, vs = v :: w ∧ Rep K F x v ∧ RepI K σ F bs w
theorem RepI.mono (e : Same F F') : ∀ {bs : List AV} {vs : List V}, RepI K σ F bs vs → RepI K σ F' bs vs
  | [], _, h => h
  | .io _ :: _, _, ⟨a, w, q, h1, h2⟩ => ⟨a, w, q, h1, RepI.mono e h2⟩
  | .d _ :: _, _, ⟨v, w, q, h1, h2⟩ => ⟨v, w, q, h1.mono e, RepI.mono e h2⟩
/-- the heap without the lists that are passed -/
def wo (H : Hp) (as : List Addr) : Hp := fun b => if b ∈ as then none else H b
theorem wo_in {as : List Addr} {b : Addr} (h : b ∈ as) : wo H as b = none := if_pos h
theorem wo_out {as : List Addr} {b : Addr} (h : b ∉ as) : wo H as b = H b := if_neg h
theorem wo_same {as : List Addr} : Same (wo H as) H := fun b x q => by
  by_cases c : b ∈ as
  · rw [wo_in c] at q; cases q
  · rw [wo_out c] at q; exact q
def ads (σ : L2.St) (bs : List AV) : List Addr := (ioIx bs).map (adr σ)
def IoEnd (K : PySem.W.Frag) (F H : Hp) : List Slot → List (List D) → Prop
  | [], _ => True
  | .io a _ :: ss, ls => ∃ l ls', ls = l :: ls' ∧ (∃ us, H a = some (.lst us) ∧ F a = none ∧ RepL K F l us) ∧ IoEnd K F H ss ls'
  | .d _ :: ss, ls => IoEnd K F H ss ls
  | _ :: _, _ => False
theorem mkS_len : ∀ {bs : List AV} {ad : Nat → Addr} {ss : List Slot}, mkS r ad bs = some ss → ss.length = bs.length
  | [], _, ss, h => by cases h; rfl
  | .d x :: bs, ad, ss, h => by
    have h' : (mkS r ad bs).map (.d x :: ·) = some ss := h
    cases e : mkS r ad bs with
    | none => rw [e] at h'; cases h'
    | some tt =>
      rw [e] at h'
      cases h'
      rw [List.length_cons, List.length_cons, mkS_len e]
  | .io i :: bs, ad, ss, h => by
    unfold mkS at h
    split at h
    · cases e : mkS r ad bs with
      | none => rw [e] at h; cases h
      | some tt =>
        rw [e] at h
        cases h
        rw [List.length_cons, List.length_cons, mkS_len e]
    · cases h
/-- the callee's names -/
theorem mkS_ok (S : SR K F0 B r σ H F) {A : List Addr} : ∀ {bs : List AV} {vs : List V} {ss : List Slot}, (∀ i ∈ ioIx bs, adr σ i ∈ A) → RepI K σ F bs vs → mkS r (adr σ) bs = some ss → ∀ (k : Nat) (s : Slot), ss[k]? = some s →
    ∃ v, vs[k]? = some v ∧ SlotOk K (wo H A) H F s (some v) ∧ ((∃ x, s = .d x) ∨ ∃ i a xs, bs[k]? = some (.io i) ∧ s = .io a xs ∧ v = .ref a ∧ σ[i]? = some (some (.ref a)) ∧ ∃ t, r[i]? = some t ∧ (t = .own xs ∨ t = .io a xs))
  | [], vs, ss, _, _, h, k, s, hs => by cases h; cases hs
  | .d x :: bs, vs, ss, hA, ⟨v, w, q, h1, h2⟩, h, k, s, hs => by
    have h' : (mkS r (adr σ) bs).map (.d x :: ·) = some ss := h
    cases e : mkS r (adr σ) bs with
    | none => rw [e] at h'; cases h'
    | some tt =>
      rw [e] at h'
      cases h'
      subst q
      cases k with
      | zero =>
        cases hs
        exact ⟨v, rfl, ⟨v, rfl, h1⟩, .inl ⟨x, rfl⟩⟩
      | succ k =>
        obtain ⟨u, k1, k2, k3⟩ := mkS_ok (bs := bs) S hA h2 e k s (by simpa using hs)
        exact ⟨u, by simpa using k1, k2, by simpa using k3⟩
  | .io i :: bs, vs, ss, hA, ⟨a, w, q, h1, h2⟩, h, k, s, hs => by
    unfold mkS at h
    split at h
    · rename_i xs ex
      cases e : mkS r (adr σ) bs with
      | none => rw [e] at h; cases h
      | some tt =>
        rw [e] at h
        cases h
        subst q
        cases k with
        | zero =>
          obtain ⟨t, a', us, k1, k2, k3, k4, k5, k6, k7⟩ := S.io_at ex
          rw [h1] at k2
          cases k2
          cases hs
          rw [adr_of h1]
          exact ⟨.ref a, rfl, ⟨us, rfl, k3, k4, wo_in (by have := hA i List.mem_cons_self; rwa [adr_of h1] at this), k6⟩, .inr ⟨i, a, xs, rfl, rfl, rfl, h1, t, k1, k7⟩⟩
        | succ k =>
          obtain ⟨u, k1, k2, k3⟩ := mkS_ok (bs := bs) S (fun j hj => hA j (List.mem_cons_of_mem _ hj)) h2 e k s (by simpa using hs)
          exact ⟨u, by simpa using k1, k2, by simpa using k3⟩
    · cases h
theorem mkS_sr (S : SR K F0 B r σ H F) {bs : List AV} {vs : List V} {ss : List Slot} (R : RepI K σ F bs vs) (h : mkS r (adr σ) bs = some ss) (nd : (ioIx bs).Nodup) {A : List Addr} (hA : ∀ i ∈ ioIx bs, adr σ i ∈ A) : SR K F (wo H A) ss (vs.map some) H F := by
  have hv : vs.length = bs.length := by
    clear h
    induction bs generalizing vs with
    | nil => have h' : vs = [] := R; rw [h']; rfl
    | cons b bs ih =>
      cases b with
      | io i =>
        obtain ⟨a, w, q, _, h2⟩ := R
        rw [q, List.length_cons, List.length_cons, ih h2 (List.nodup_cons.mp nd).2 fun j hj => hA j (List.mem_cons_of_mem _ hj)]
      | d x =>
        obtain ⟨a, w, q, _, h2⟩ := R
        rw [q, List.length_cons, List.length_cons, ih h2 nd hA]
  have io_inj : ∀ {bs : List AV} {k l i : Nat}, (ioIx bs).Nodup → bs[k]? = some (.io i) → bs[l]? = some (.io i) → k = l := fun {bs} => by
    have mem : ∀ {bs : List AV} {k i : Nat}, bs[k]? = some (.io i) → i ∈ ioIx bs := fun {bs} => by
      induction bs with
      | nil => intro k i e; cases e
      | cons b bs ih =>
        intro k i e
        cases k with
        | zero =>
          cases e
          exact List.mem_cons_self
        | succ k =>
          have m := ih (k := k) (i := i) (by simpa using e)
          cases b with
          | io j => exact List.mem_cons_of_mem _ m
          | d x => exact m
    induction bs with
    | nil => intro k l i _ e; cases e
    | cons b bs ih =>
      intro k l i hn e1 e2
      cases k with
      | zero =>
        cases e1
        cases l with
        | zero => rfl
        | succ l => exact absurd (mem (k := l) (by simpa using e2)) (List.nodup_cons.mp hn).1
      | succ k =>
        cases l with
        | zero =>
          cases e2
          exact absurd (mem (k := k) (by simpa using e1)) (List.nodup_cons.mp hn).1
        | succ l =>
          have hn' : (ioIx bs).Nodup := by
            cases b with
            | io j => exact (List.nodup_cons.mp hn).2
            | d x => exact hn
          rw [ih hn' (k := k) (l := l) (i := i) (by simpa using e1) (by simpa using e2)]
  refine ⟨⟨Same.refl _, wo_same, S.sub, fun b _ q _ => q⟩, by rw [List.length_map, hv, mkS_len h], fun k s e => ?_, fun k l s t y z b hkl e1 e2 e3 e4 f1 f2 => ?_, ⟨[], fun u hu => absurd hu List.not_mem_nil, fun k xs e => ?_⟩⟩
  · obtain ⟨v, h1, h2, _⟩ := mkS_ok S hA R h k s e
    exact ⟨some v, by rw [List.getElem?_map, h1]; rfl, h2⟩
  · obtain ⟨v, h1, _, h2⟩ := mkS_ok S hA R h k s e1
    obtain ⟨u, h3, _, h4⟩ := mkS_ok S hA R h l t e2
    rcases h2 with ⟨x, rfl⟩ | ⟨i, a, xs, k1, rfl, rfl, k2, t1, k3, k4⟩
    · exact f1
    rcases h4 with ⟨x, rfl⟩ | ⟨j, c, ys, l1, rfl, rfl, l2, t2, l3, l4⟩
    · exact f2
    rw [List.getElem?_map, h1] at e3
    rw [List.getElem?_map, h3] at e4
    have q1 : y = some (.ref b) := f1
    have q2 : z = some (.ref b) := f2
    subst q1 q2
    cases e3
    cases e4
    refine S.sep i j t1 t2 _ _ b (fun c => ?_) k3 l3 k2 l2 ((foot_own k4).mpr rfl) ((foot_own l4).mpr rfl)
    subst c
    exact hkl (io_inj nd k1 l1)
  · obtain ⟨v, _, _, h2⟩ := mkS_ok S hA R h k _ e
    rcases h2 with ⟨x, q⟩ | ⟨i, a, xs, _, q, _⟩
    · cases q
    · cases q
/-- the names behind a call -/
theorem putB_get : ∀ {bs : List AV} {vs : List V} {ss : List Slot} {ls : List (List D)} {r r2 : Env} {rr : Env}, (∀ j s, j ∈ ioIx bs → r[j]? = some s → rr[j]? = some s) → RepI K σ F bs vs → mkS rr (adr σ) bs = some ss → IoEnd K F' H' ss ls → (ioIx bs).Nodup → putB bs ls r = some r2 →
    r2.length = r.length ∧ ∀ j s, r2[j]? = some s → (j ∈ ioIx bs ∧ ∃ s0 l us, r[j]? = some s0 ∧ s = reslot s0 l ∧ H' (adr σ j) = some (.lst us) ∧ F' (adr σ j) = none ∧ RepL K F' l us) ∨ (j ∉ ioIx bs ∧ r[j]? = some s)
  | [], vs, ss, ls, r, r2, rr, _, _, _, _, _, h => by
    cases ls with
    | nil =>
      cases h
      exact ⟨rfl, fun j s e => .inr ⟨List.not_mem_nil, e⟩⟩
    | cons l ls => cases h
  | .d x :: bs, vs, ss, ls, r, r2, rr, hr, ⟨v, w, q, h1, h2⟩, hm, hi, nd, h => by
    have h' : (mkS rr (adr σ) bs).map (.d x :: ·) = some ss := hm
    cases e : mkS rr (adr σ) bs with
    | none => rw [e] at h'; cases h'
    | some tt =>
      rw [e] at h'
      cases h'
      exact putB_get (bs := bs) hr h2 e (show IoEnd K F' H' tt ls from hi) nd (show putB bs ls r = some r2 by cases ls <;> exact h)
  | .io i :: bs, vs, ss, ls, r, r2, rr, hr, ⟨a, w, q, h1, h2⟩, hm, hi, nd, h => by
    unfold mkS at hm
    split at hm
    · rename_i xs ex
      cases e : mkS rr (adr σ) bs with
      | none => rw [e] at hm; cases hm
      | some tt =>
        rw [e] at hm
        cases hm
        obtain ⟨l, ls', rfl, ⟨us, i1, i2, i3⟩, i4⟩ := hi
        have h'' : putB bs ls' (ioSet r i l) = some r2 := h
        obtain ⟨ni, nd'⟩ := List.nodup_cons.mp nd
        have gs : ∀ j, j ≠ i → (ioSet r i l)[j]? = r[j]? := fun j c => by
          unfold ioSet
          split
          · exact List.getElem?_set_ne (Ne.symm c)
          · rfl
        obtain ⟨hl, hg⟩ := putB_get (bs := bs) (r := ioSet r i l) (rr := rr) (fun j s hj e => hr j s (List.mem_cons_of_mem _ hj) (by rw [gs j fun c => ni (by rw [← c]; exact hj)] at e; exact e)) h2 e i4 nd' h''
        refine ⟨hl.trans (by unfold ioSet; split <;> simp), fun j s ej => ?_⟩
        rcases hg j s ej with ⟨m, s0, l0, us0, k1, k2, k3⟩ | ⟨m, k⟩
        · exact .inl ⟨List.mem_cons_of_mem _ m, s0, l0, us0, by rw [gs j fun c => ni (by rw [← c]; exact m)] at k1; exact k1, k2, k3⟩
        · by_cases c : j = i
          · subst c
            unfold ioSet at k
            split at k
            · rename_i s0 e0
              rw [List.getElem?_set_self (get_lt e0)] at k
              cases k
              rw [adr_of h1] at i1 i2
              exact .inl ⟨List.mem_cons_self, s0, l, us, e0, rfl, by rw [adr_of h1]; exact i1, by rw [adr_of h1]; exact i2, i3⟩
            · rename_i e0
              rw [e0] at k; cases k
          · rw [gs j c] at k
            exact .inr ⟨fun z => (List.mem_cons.mp z).elim c m, k⟩
    · cases hm
theorem call_io (S : SR K F0 B r σ H F) {bs : List AV} {vs : List V} {ss : List Slot} {ls : List (List D)} (R : RepI K σ F bs vs) (h : mkS r (adr σ) bs = some ss) (nd : (ioIx bs).Nodup) {A : List Addr} (hA : ∀ b ∈ A, (∃ i ∈ ioIx bs, b = adr σ i) ∨ (¬ Feet r σ H b ∧ B b = none))
    (g : Gr F (wo H A) F' H') (ie : IoEnd K F' H' ss ls) (hp : putB bs ls r = some r2) : SR K F0 B r2 σ H' F' := by
  obtain ⟨hl, hg⟩ := putB_get (fun _ _ _ e => e) R h ie nd hp
  -- the lists that are passed are own ones
  have io : ∀ {i : Nat}, i ∈ ioIx bs → ∃ s a xs, r[i]? = some s ∧ σ[i]? = some (some (.ref a)) ∧ (s = .own xs ∨ s = .io a xs) ∧ B a = none := fun {i} m => by
    have : ∃ xs, ioXs r i = some xs := by
      clear ie hp hg hl g hA R nd
      induction bs generalizing ss with
      | nil => cases m
      | cons b bs ih =>
        cases b with
        | d x =>
          have h' : (mkS r (adr σ) bs).map (.d x :: ·) = some ss := h
          cases e : mkS r (adr σ) bs with
          | none => rw [e] at h'; cases h'
          | some tt => exact ih e m
        | io j =>
          unfold mkS at h
          split at h
          · rename_i xs ex
            cases e : mkS r (adr σ) bs with
            | none => rw [e] at h; cases h
            | some tt =>
              rcases List.mem_cons.mp m with c | c
              · rw [c]; exact ⟨xs, ex⟩
              · exact ih e c
          · cases h
    obtain ⟨xs, ex⟩ := this
    obtain ⟨s, a, us, k1, k2, _, _, k5, _, k7⟩ := S.io_at ex
    exact ⟨s, a, xs, k1, k2, k7, k5⟩
  have A_B : ∀ b ∈ A, B b = none := fun b m => by
    rcases hA b m with ⟨i, hi, rfl⟩ | ⟨_, k⟩
    · obtain ⟨s, a, xs, _, k2, _, k4⟩ := io hi
      rw [adr_of k2]; exact k4
    · exact k
  -- the lists of the other names
  have fr : ∀ {j : Nat} {s : Slot} {y : Option V}, j ∉ ioIx bs → r[j]? = some s → σ[j]? = some y → ∀ b, Foot H s y b → H' b = H b ∧ F' b = none := fun {j s y} nj e1 e2 b f => by
    have nA : b ∉ A := fun m => by
      rcases hA b m with ⟨i, hi, rfl⟩ | ⟨k, _⟩
      · obtain ⟨s', a, xs, k1, k2, k3, _⟩ := io hi
        rw [adr_of k2] at f
        exact S.sep j i s s' y _ a (fun c => nj (by rw [c]; exact hi)) e1 k1 e2 k2 f ((foot_own k3).mpr rfl)
      · exact k ⟨j, s, y, e1, e2, f⟩
    obtain ⟨u, k1, k2, _, k4⟩ := S.feet ⟨j, s, y, e1, e2, f⟩
    have k5 : wo H A b = some u := by rw [wo_out nA]; exact k1
    exact ⟨by rw [k1]; exact g.h b u k5, g.n b (by rw [k5]; exact fun z => nomatch z) k2 fun vs e => k4 vs (Option.some.inj (k5.symm.trans e))⟩
  refine ⟨⟨S.gr.f.trans g.f, fun b x q => ?_, g.i, fun b hb q t => ?_⟩, by rw [hl]; exact S.len, fun j s e => ?_, fun i j s t y z b hij e1 e2 e3 e4 f1 f2 => ?_, ?_⟩
  · have nA : b ∉ A := fun m => by rw [A_B b m] at q; cases q
    exact g.h b x (by rw [wo_out nA]; exact S.gr.h b x q)
  · have nA : b ∉ A := fun m => hb (A_B b m)
    cases eb : B b with
    | none => exact absurd eb hb
    | some u =>
      have k5 : wo H A b = some u := by rw [wo_out nA]; exact S.gr.h b u eb
      exact g.n b (by rw [k5]; exact fun z => nomatch z) (S.gr.n b hb q t) fun vs e => t vs (eb.trans (k5.symm.trans e))
  · rcases hg j s e with ⟨m, s0, l, us, k1, rfl, k3, k4, k5⟩ | ⟨m, k⟩
    · obtain ⟨s', a, xs, l1, l2, l3, l4⟩ := io m
      rw [k1] at l1
      cases l1
      rw [adr_of l2] at k3 k4
      refine ⟨_, l2, ?_⟩
      rcases l3 with rfl | rfl
      · exact ⟨a, us, rfl, k3, k4, l4, k5⟩
      · exact ⟨us, rfl, k3, k4, l4, k5⟩
    · obtain ⟨y, h1, h2⟩ := S.ok j s k
      exact ⟨y, h1, h2.frame g.f (fr m k h1)⟩
  · have back : ∀ {j : Nat} {s : Slot} {y : Option V}, r2[j]? = some s → σ[j]? = some y → Foot H' s y b → ∃ s0, r[j]? = some s0 ∧ Foot H s0 y b := fun {j s y} e1 e2 f => by
      rcases hg j s e1 with ⟨m, s0, l, us, k1, rfl, _⟩ | ⟨m, k⟩
      · obtain ⟨s', a, xs, l1, l2, l3, _⟩ := io m
        rw [k1] at l1
        cases l1
        refine ⟨s0, k1, (foot_own l3).mpr ?_⟩
        rcases l3 with rfl | rfl
        · exact f
        · exact f
      · exact ⟨s, k, f.back (S.slot k e2) fun c fc => (fr m k e2 c fc).1⟩
    obtain ⟨s0, k1, k2⟩ := back e1 e3 f1
    obtain ⟨t0, k3, k4⟩ := back e2 e4 f2
    exact S.sep i j s0 t0 y z b hij k1 k3 e3 e4 k2 k4
  · obtain ⟨us, h1, h2⟩ := S.tag
    refine ⟨us, h1, fun j xs e => ?_⟩
    rcases hg j _ e with ⟨m, s0, l, us', k1, k2, _⟩ | ⟨m, k⟩
    · obtain ⟨s', a, xs', l1, l2, l3, _⟩ := io m
      rw [k1] at l1
      cases l1
      rcases l3 with rfl | rfl
      · cases k2
      · cases k2
    · obtain ⟨a, k1, k2⟩ := h2 j xs k
      exact ⟨a, k1, g.f.seq k2⟩
end
/-! ### the promise of a def that changes lists -/
def spIo (K : PySem.W.Frag) (ec : EC) (n : Nat) (g : List Slot → RI) : Sp := fun vs H Q E => ∃ ss F B, ss.length = n ∧ vs.length = n ∧ SR K F B ss (vs.map some) H F ∧ (∀ s ∈ ss, (∃ x, s = .d x) ∨ ∃ a xs, s = .io a xs) ∧
  match g ss with
  | none => False
  | some (.ok d, ls) => ∀ v F' H', Gr F B F' H' → Rep K F' d v → IoEnd K F' H' ss ls → Q v H'
  | some (.error e, ls) => ∀ dx F' H', Gr F B F' H' → ErrOk K F' H' e dx → IoEnd K F' H' ss ls → E (.ref (ec e.cls)) dx H'
theorem ioOut_end {K : PySem.W.Frag} {B H F : Hp} : ∀ {ss : List Slot} {r : Env} {σ : L2.St} {ls : List (List D)}, (∀ (k : Nat) (s : Slot), r[k]? = some s → ∃ y, σ[k]? = some y ∧ SlotOk K B H F s y) → (∀ s ∈ ss, (∃ x, s = .d x) ∨ ∃ a xs, s = .io a xs) → ioOut ss r = some ls → IoEnd K F H ss ls
  | [], _, _, _, _, _, _ => trivial
  | .io a xs :: ss, [], σ, ls, ok, hs, h => by cases h
  | .io a xs :: ss, t :: r, σ, ls, ok, hs, h => by
    cases t with
    | io b ys =>
      have h' : (if a = b then (ioOut ss r).map (ys :: ·) else none) = some ls := h
      by_cases c : a = b
      · rw [if_pos c] at h'
        cases e : ioOut ss r with
        | none => rw [e] at h'; cases h'
        | some ls' =>
          rw [e] at h'
          cases h'
          obtain ⟨y, h1, us, rfl, h2, h3, _, h5⟩ := ok 0 _ rfl
          exact ⟨ys, ls', rfl, ⟨us, by rw [c]; exact h2, by rw [c]; exact h3, h5⟩, ioOut_end (σ := σ.tail) (fun k s q => by
            obtain ⟨y, k1, k2⟩ := ok (k + 1) s (by simpa using q)
            exact ⟨y, by rw [List.getElem?_tail]; exact k1, k2⟩) (fun s m => hs s (List.mem_cons_of_mem _ m)) e⟩
      · rw [if_neg c] at h'; cases h'
    | _ => cases h
  | .d x :: ss, [], σ, ls, ok, hs, h => by cases h
  | .d x :: ss, t :: r, σ, ls, ok, hs, h => ioOut_end (ss := ss) (r := r) (σ := σ.tail) (fun k s q => by
      obtain ⟨y, k1, k2⟩ := ok (k + 1) s (by simpa using q)
      exact ⟨y, by rw [List.getElem?_tail]; exact k1, k2⟩) (fun s m => hs s (List.mem_cons_of_mem _ m)) (show ioOut ss r = some ls from h)
  | .un :: ss, _, _, _, _, hs, _ => by
    rcases hs _ List.mem_cons_self with ⟨x, q⟩ | ⟨a, xs, q⟩ <;> cases q
  | .own _ :: ss, _, _, _, _, hs, _ => by
    rcases hs _ List.mem_cons_self with ⟨x, q⟩ | ⟨a, xs, q⟩ <;> cases q
  | .tg _ :: ss, _, _, _, _, hs, _ => by
    rcases hs _ List.mem_cons_self with ⟨x, q⟩ | ⟨a, xs, q⟩ <;> cases q
  | .nest _ :: ss, _, _, _, _, hs, _ => by
    rcases hs _ List.mem_cons_self with ⟨x, q⟩ | ⟨a, xs, q⟩ <;> cases q
  | .dct _ :: ss, _, _, _, _, hs, _ => by
    rcases hs _ List.mem_cons_self with ⟨x, q⟩ | ⟨a, xs, q⟩ <;> cases q
/-- names behind the parameters -/
theorem SR.pad {K : PySem.W.Frag} {F0 B H F : Hp} {r : Env} {σ : L2.St} (S : SR K F0 B r σ H F) (n : Nat) : SR K F0 B (r ++ List.replicate n .un) (σ ++ List.replicate n none) H F := by
  have lo : ∀ {i : Nat} {s : Slot}, (r ++ List.replicate n .un)[i]? = some s → s ≠ .un → r[i]? = some s ∧ (σ ++ List.replicate n none)[i]? = σ[i]? := fun {i s} e c => by
    by_cases hl : i < r.length
    · rw [List.getElem?_append_left hl] at e
      exact ⟨e, by rw [List.getElem?_append_left (by rw [← S.len]; exact hl)]⟩
    · rw [List.getElem?_append_right (by omega), List.getElem?_replicate] at e
      split at e
      · exact absurd (Option.some.inj e).symm c
      · cases e
  have nu : ∀ {s : Slot} {y : Option V} {a : Addr}, Foot H s y a → s ≠ .un := fun f c => by subst c; exact f
  refine ⟨S.gr, by simp [S.len], fun i s e => ?_, fun i j s t y z a hij e1 e2 e3 e4 f1 f2 => ?_, ?_⟩
  · by_cases c : s = .un
    · subst c
      have hl := get_lt e
      have hl' : i < (σ ++ List.replicate n none).length := by simpa [S.len] using hl
      exact ⟨_, List.getElem?_eq_getElem hl', trivial⟩
    · obtain ⟨k1, k2⟩ := lo e c
      obtain ⟨y, h1, h2⟩ := S.ok i s k1
      exact ⟨y, by rw [k2]; exact h1, h2⟩
  · obtain ⟨k1, k2⟩ := lo e1 (nu f1)
    obtain ⟨k3, k4⟩ := lo e2 (nu f2)
    exact S.sep i j s t y z a hij k1 k3 (by rw [← k2]; exact e3) (by rw [← k4]; exact e4) f1 f2
  · obtain ⟨us, h1, h2⟩ := S.tag
    refine ⟨us, h1, fun i xs e => ?_⟩
    obtain ⟨k1, k2⟩ := lo e fun z => nomatch z
    obtain ⟨a, k3, k4⟩ := h2 i xs k1
    exact ⟨a, by rw [k2]; exact k3, k4⟩
theorem fn_okI {P : Program} {w : World} {K : PySem.W.Frag} {mg : Str → Option Value} {base : Heap} {ec : EC} {x qual : Str} {st : Stmt} {f : Addr} {fd : FuncData} {N ps : List Str} {k n p : Nat} {b : SX} (F : Fun K x qual st f fd) (S : FnScope N ps (defScope st))
    (hn : N.length = n := by rfl) (hp : ps.length = p := by rfl)
    (body : ∀ (cdv : Value) (A : Around) (outer : List PySem.Env) (s : Shared) (H : Hp) (E : XK), Room k (A.deeper (envOfC qual (defScope st) s.heap.objs.size f cdv)) →
      DSs (cxOf (L2.CX P w) P w K mg base N qual (defScope st) f cdv A outer s H E) ec (fun c d _ H => E c d H) (defBody st) b) :
    FnOk P w K mg base (L2.CX P w) (k + 1) f fd ps (spIo K ec p (runI n p b)) := by
  refine F.okX S (fun vs H Q E h => by rw [hp]; obtain ⟨_, _, _, _, z, _⟩ := h; exact z) (fun cdv A outer s H vs Q E hr h => ⟨_, body cdv A outer s H E hr, ?_⟩)
  obtain ⟨ss, F, B, h1, h2, S0, hs, h3⟩ := h
  refine ⟨ss ++ List.replicate (n - p) .un, F, F, B, ?_, ?_⟩
  · have e := S0.pad (n - p)
    have e2 : L2.start N vs = vs.map some ++ List.replicate (n - p) none := by
      unfold L2.start
      rw [hn, h2]
    rw [e2]
    exact e
  · unfold runI at h3
    rw [if_pos h1] at h3
    generalize b (ss ++ List.replicate (n - p) .un) = o at h3 ⊢
    revert h3
    match o with
    | none => exact fun z => z
    | some (.nx r) =>
      intro z σ' F' H' sf S'
      dsimp only at z
      cases e : ioOut ss r with
      | none => rw [e] at z; exact False.elim z
      | some ls =>
        rw [e] at z
        exact z .non F' H' S'.gr rfl (ioOut_end S'.ok hs e)
    | some (.ri d r) =>
      intro z v σ' F' H' sf S' rv
      dsimp only at z
      cases e : ioOut ss r with
      | none => rw [e] at z; exact False.elim z
      | some ls =>
        rw [e] at z
        exact z v F' H' S'.gr rv (ioOut_end S'.ok hs e)
    | some (.er e r) =>
      intro z dx σ' F' H' sf S' he
      dsimp only at z
      cases e : ioOut ss r with
      | none => rw [e] at z; exact False.elim z
      | some ls =>
        rw [e] at z
        exact z dx F' H' S'.gr he (ioOut_end S'.ok hs e)
    | some (.rt d) => exact fun z => False.elim z
    | some (.bk r) => exact fun z => False.elim z
    | some (.ct r) => exact fun z => False.elim z
    | some (.ro i r) => exact fun z => False.elim z
    | some (.rl xs) => exact fun z => False.elim z
structure DOkI (P : Program) (w : World) (K : PySem.W.Frag) (mg : Str → Option Value) (base : Heap) (ec : EC) (x : Str) (ps : List Str) (k p : Nat) (g : List Slot → RI) : Prop where
  ex : ∃ (f : Addr) (fd : FuncData), mg x = some (.ref f) ∧ PySem.W.keepIn K (.ref f) = true ∧ Binds K fd ps [] ∧ FnOk P w K mg base (L2.CX P w) k f fd ps (spIo K ec p g)
theorem DAt.okI {P : Program} {w : World} {K : PySem.W.Frag} {mg : Str → Option Value} {base : Heap} {ec : EC} {x : Str} {st : Stmt} {N ps : List Str} {k n p : Nat} {b : SX} (D : DAt K mg x st ps) (S : FnScope N ps (defScope st))
    (hn : N.length = n := by rfl) (hp : ps.length = p := by rfl)
    (body : ∀ (f : Addr) (cdv : Value) (A : Around) (outer : List PySem.Env) (s : Shared) (H : Hp) (E : XK), Room k (A.deeper (envOfC x (defScope st) s.heap.objs.size f cdv)) →
      DSs (cxOf (L2.CX P w) P w K mg base N x (defScope st) f cdv A outer s H E) ec (fun c d _ H => E c d H) (defBody st) b) :
    DOkI P w K mg base ec x ps (k + 1) p (runI n p b) := by
  obtain ⟨f, fd, h1, h2, h3⟩ := D.ex
  exact ⟨f, fd, h1, h2.kp, h3, fn_okI h2 S hn hp (body f)⟩
/-! ### arguments of such a call -/
def tAI (K : PySem.W.Frag) (ec : EC) (W : WX) (as : List AArg) : TA := fun σ H Q => ∃ r F F0 B, SR K F0 B r σ H F ∧ ThnS K ec W (wArgI as r) σ F0 B F fun bs _ F' H' => ∀ vs, RepI K σ F' bs vs → Q vs H'
abbrev DAI (X : Cx) (ec : EC) (W : WX) (es : List Expr) (as : List AArg) : Prop := PA X es (tAI X.K ec W as)
theorem wArgI_ix : ∀ {as : List AArg} {r r' : Env} {bs : List AV}, wArgI as r = some (.ok bs, r') → ioIx bs = ioIxA as ∧ bs.length = as.length
  | [], r, r', bs, h => by
    have h' : okS ([] : List AV) r = some (.ok bs, r') := h
    unfold okS at h'
    cases h'
    exact ⟨rfl, rfl⟩
  | .io i :: as, r, r', bs, h => by
    unfold wArgI at h
    split at h
    · obtain ⟨xs, r1, h1, h2⟩ := sb_eq_ok h
      unfold okS at h2
      cases h2
      obtain ⟨k1, k2⟩ := wArgI_ix h1
      exact ⟨by show i :: ioIx xs = i :: ioIxA as; rw [k1], by rw [List.length_cons, List.length_cons, k2]⟩
    · cases h
  | .ex a :: as, r, r', bs, h => by
    have h' : (sb (a r) fun x r1 => sb (wArgI as r1) fun xs r2 => okS (.d x :: xs) r2) = some (.ok bs, r') := h
    obtain ⟨x, r1, h1, h2⟩ := sb_eq_ok h'
    obtain ⟨xs, r2, h3, h4⟩ := sb_eq_ok h2
    unfold okS at h4
    cases h4
    obtain ⟨k1, k2⟩ := wArgI_ix h3
    exact ⟨k1, by rw [List.length_cons, List.length_cons, k2]⟩
section
variable {X : Cx} {ec : EC} {W : WX} {e : Expr} {es : List Expr} {pos p : Pos} {f1 : ES D}
theorem dai_nil : DAI X ec W [] [] := paImp pa_nil fun σ H Q ⟨r, F, F0, B, S, q⟩ => ThnS.ok (a := ([] : List AV)) S q [] rfl
theorem dai_ex {as : List AArg} (ha : DEs X ec W e f1) (hr : DAI X ec W es as) (hs : starEach (e :: es) X.env = (false, eval e X.env) :: starEach es X.env := by rfl) : DAI X ec W (e :: es) (.ex f1 :: as) :=
  paImp (pa_cons ha hr hs) fun σ H Q ⟨r, F, F0, B, S, q⟩ =>
    ⟨r, F, F0, B, S, (ThnS.bind q).imp fun x r1 F1 H1 _ g1 S1 h1 v rv => ⟨r1, F1, F0, B, S1, (ThnS.bind h1).imp fun xs r2 F2 H2 _ g2 S2 h2 vs rs =>
      ThnS.ok (a := AV.d x :: xs) S2 h2 (v :: vs) ⟨v, vs, rfl, rv.mono g2, rs⟩⟩⟩
theorem dai_io {as : List AArg} (i : Nat) {x : Str} {xp : Pos} (hr : DAI X ec W es as) (hN : X.N[i]? = some x := by rfl) (hv : Vis X.env.scope x := by first | exact Or.inl rfl | exact Or.inr (Or.inl rfl) | exact Or.inr (Or.inr rfl)) (hd : (x == ("__debug__" : Str)) = false := by decide)
    (hcd : (x == ("__classdict__" : Str)) = false := by decide) (hs : starEach (.Name x xp :: es) X.env = (false, eval (.Name x xp) X.env) :: starEach es X.env := by rfl) : DAI X ec W (.Name x xp :: es) (.io i :: as) :=
  paImp (pa_cons (pe_var hN hv hd hcd) hr hs) fun σ H Q ⟨r, F, F0, B, S, q⟩ => by
    have q' : ThnS X.K ec W (match ioXs r i with
      | some _ => sb (wArgI as r) fun xs r1 => okS (AV.io i :: xs) r1
      | none => none) σ F0 B F fun bs _ F' H' => ∀ vs, RepI X.K σ F' bs vs → Q vs H' := q
    cases ex : ioXs r i with
    | none => rw [ex] at q'; exact False.elim q'
    | some xs =>
      rw [ex] at q'
      obtain ⟨s, a, us, k1, k2, _⟩ := S.io_at ex
      refine ⟨.ref a, k2, r, F, F0, B, S, (ThnS.bind (f := fun xs r1 => okS (AV.io i :: xs) r1) q').imp fun xs r2 F2 H2 _ g2 S2 h2 vs rs => ?_⟩
      exact ThnS.ok (a := AV.io i :: xs) S2 h2 (.ref a :: vs) ⟨a, vs, rfl, k2, rs⟩
theorem mkS_kind {r : Env} {ad : Nat → Addr} : ∀ {bs : List AV} {ss : List Slot}, mkS r ad bs = some ss → ∀ s ∈ ss, (∃ x, s = .d x) ∨ ∃ a xs, s = .io a xs
  | [], ss, h, s, m => by cases h; cases m
  | .d x :: bs, ss, h, s, m => by
    have h' : (mkS r ad bs).map (.d x :: ·) = some ss := h
    cases e : mkS r ad bs with
    | none => rw [e] at h'; cases h'
    | some tt =>
      rw [e] at h'
      cases h'
      rcases List.mem_cons.mp m with c | c
      · exact .inl ⟨x, c⟩
      · exact mkS_kind e s c
  | .io i :: bs, ss, h, s, m => by
    unfold mkS at h
    split at h
    · cases e : mkS r ad bs with
      | none => rw [e] at h; cases h
      | some tt =>
        rw [e] at h
        cases h
        rcases List.mem_cons.mp m with c | c
        · exact .inr ⟨_, _, c⟩
        · exact mkS_kind e s c
    · cases h
theorem RepI.len {K : PySem.W.Frag} {σ : L2.St} {F : Hp} : ∀ {bs : List AV} {vs : List V}, RepI K σ F bs vs → vs.length = bs.length
  | [], vs, h => by
    have h' : vs = [] := h
    rw [h']; rfl
  | .io _ :: bs, vs, ⟨a, w, q, _, h2⟩ => by rw [q, List.length_cons, List.length_cons, RepI.len h2]
  | .d _ :: bs, vs, ⟨a, w, q, _, h2⟩ => by rw [q, List.length_cons, List.length_cons, RepI.len h2]
theorem des_callI {j k n : Nat} {ps : List Str} {g : List Slot → RI} {x : Str} {as : List AArg} (G : DOkI X.prog X.w X.K X.mg X.base ec x ps j n g) (hr : Room k X.A) (tk : Takes X W) (hjk : j ≤ k) (hg : Gl X x) (ha : DAI X ec W (e :: es) as) (hn : as.length = n := by rfl) (nd : (ioIxA as).Nodup := by decide) (hdb : (x == ("__debug__" : Str)) = false := by decide)
    (he : starEach (e :: es) X.env = (false, eval e X.env) :: starEach es X.env := by rfl) (hpl : (backTo pos (starEach es X.env)).any (·.1) = false := by rfl) : DEs X ec W (.Call (.Name x p) (e :: es) [] pos) (wCallI g as) := by
  obtain ⟨f, fd, h1, h2, h3, h4⟩ := G.ex
  refine peImp (pe_callS h4 (hr.mono hjk) hg h1 h2 h3 (fun σ => passAt tk σ) ha hdb he hpl) fun σ H Q ⟨r, F, F0, B, S, q⟩ =>
    ⟨r, F, F0, B, S, (ThnS.bind q).imp fun bs r1 F1 H1 ex g1 S1 k1 vs rs => ?_⟩
  obtain ⟨ix, bl⟩ := wArgI_ix ex
  have k1' : ThnS X.K ec W (callI g bs r1) σ F0 B F1 fun d _ F' H' => ∀ v, Rep X.K F' d v → Q v H' := k1
  unfold callI at k1'
  split at k1'
  · exact False.elim k1'
  · rename_i e' ls ea
    have ea' : (match mkS r1 (adr σ) bs with | some ss => g ss | none => none) = some (e', ls) := allA_eq ea (adr σ)
    split at ea'
    · rename_i ss es'
      have nd' : (ioIx bs).Nodup := by rw [ix]; exact nd
      have hA : ∀ i ∈ ioIx bs, adr σ i ∈ ads σ bs := fun i m => List.mem_map.mpr ⟨i, m, rfl⟩
      have hA2 : ∀ b ∈ ads σ bs, (∃ i ∈ ioIx bs, b = adr σ i) ∨ (¬ Feet r1 σ H1 b ∧ B b = none) := fun b m => by
        obtain ⟨i, hi, e⟩ := List.mem_map.mp m
        exact .inl ⟨i, hi, e.symm⟩
      refine ⟨ss, F1, wo H1 (ads σ bs), by rw [mkS_len es', bl]; exact hn, by rw [rs.len, bl]; exact hn, mkS_sr S1 rs es' nd' hA, mkS_kind es', ?_⟩
      rw [ea']
      split at k1'
      · rename_i r2 ep
        cases e' with
        | ok d => exact fun v F' H' g' rv ie => k1' F' H' g'.f (call_io S1 rs es' nd' hA2 g' ie ep) v rv
        | error e' => exact fun dx F' H' g' he ie => k1' dx F' H' g'.f (call_io S1 rs es' nd' hA2 g' ie ep) he
      · exact False.elim k1'
    · cases ea'
end
end DL
/-! Statements whose expressions change own lists; a new list as such a call's first argument. -/
namespace DL
open PySem PySem.Spec PyProof.Rows L2

section
variable {X : Cx} {ec : EC} {W : WX} {e : Expr} {es : List Expr} {pos p : Pos} {ι : EL}
end
/-! ### statements -/
theorem Aft.soS {α : Type} {K : PySem.W.Frag} {ec : EC} {W : WX} {F0 B F : Hp} {σ : L2.St} {Dn : Ends} {x : RS α} {f : α → Env → Option Out}
    (h : Aft K ec W F0 B F (soS x f) Dn) : ThnS K ec W x σ F0 B F fun a r F' H' => Aft K ec W F0 B F' (f a r) Dn := by
  match x with
  | none => exact h
  | some (.error e, r) => exact fun dx F' H' g S q => h dx σ F' H' g S q
  | some (.ok a, r) => exact fun F' H' g S => Aft.mono g (show Aft K ec W F0 B F (f a r) Dn from h)
section
variable {X : Cx} {ec : EC} {W : WX} {st : Stmt} {sts rest es els : List Stmt} {e c tg iter : Expr} {pos : Pos} {a b : SX} {f1 f2 : ES D} {t1 : ES Bool} {l1 : ES (List D)}
theorem ds_zret (h : DEs X ec W e f1) : DS X ec W (.Return (some e) pos) (zRet f1) := psImp (ps_ret h) fun D σ H ⟨r, F, F0, B, S, q⟩ =>
  ⟨r, F, F0, B, S, (Aft.soS (σ := σ) (h := q)).imp fun d r1 F1 H1 _ g S1 k v rv => k v σ F1 H1 (Same.refl _) S1 rv⟩
theorem ds_zexpr (h : DEs X ec W e f1) (hs : swapsWith e none pos.line X.env = pure false := by rfl) : DS X ec W (.Expr e pos) (zExpr f1) := psImp (ps_expr h hs) fun D σ H ⟨r, F, F0, B, S, q⟩ =>
  ⟨r, F, F0, B, S, (Aft.soS (σ := σ) (h := q)).imp fun d r1 F1 H1 _ g S1 k v rv => k σ F1 H1 (Same.refl _) S1⟩
theorem zset_use {K : PySem.W.Frag} {i : Nat} {D : Ends} {σ : L2.St} {H : Hp} (h : tS K ec W (zSet i f1) D σ H) : tAsg (tDs K ec W f1) (gName i) D σ H := by
  obtain ⟨r, F, F0, B, S, q⟩ := h
  exact ⟨r, F, F0, B, S, (Aft.soS (σ := σ) (h := q)).imp fun d r1 F1 H1 _ g S1 k v rv => k _ F1 H1 (Same.refl _) (S1.set rv)⟩
theorem ds_zset {i : Nat} {x : Str} {pos' : Pos} (hN : X.N.Nodup) (hi : X.N[i]? = some x) (hx : Loc X.env.scope x) (he : DEs X ec W e f1) (hs : swapsWith e (some (.Name x pos')) pos.line X.env = pure false := by rfl)
    (hf : X.fn x = true ∨ X.env.scope.names.lookup x = some .local := by first | exact .inl rfl | exact .inr rfl | assumption) : DS X ec W (.Assign [.Name x pos'] e pos) (zSet i f1) := psImp (ps_set hN hi hx he hs hf) fun _ _ _ h => zset_use h
end
end DL
/-! A tuple so many times. -/
namespace DL
open PySem PySem.Spec PyProof.Rows L2
set_option maxHeartbeats 4000000 in
theorem tuple_mul1 (l : Addr) (items : Array Value) (n : Nat) (dd : Option Addr) (sl : Array (Option Value)) (u : Tok) :
    Meets (Builtin.«tuple.__mul__» ⟨[.ref l, .int 1 u], []⟩) (fun _ R s => s.heap.get? l = some { cls := .type "tuple", dict := dd, data := .seq items n, slots := sl } ∧
      R (.ok (.ret (Value.ref l))) s) :=
  .of_wp fun prog w A R s h => by
    obtain ⟨hp, g, d, tk, os⟩ := s
    obtain ⟨hl, h⟩ := h
    have f1 := AutoSeq1.idx_int
    wp_walk using wpAny_loadPart' hl
    repeat (first
      | (refine wpAny_ite_false (decide_eq_false (by decide)) ?_; wp_walk using wpAny_loadPart' hl)
      | (refine wpAny_ite_true (decide_eq_true (by simp)) ?_; wp_walk using wpAny_loadPart' hl))
    exact ⟨_, rfl, h⟩
/-- a tuple times one is the tuple itself -/
def rRepT1 (K : PySem.W.Frag) : R2 := fun x y H Q => ∃ l xs, x = .ref l ∧ y = .int 1 ∧ SqT K H l xs ∧ Q (.ref l) H
theorem op_repT1 {X : Cx} : OpR X (binaryOp .Mult) (rRepT1 X.K) := by
  intro pins s σ H x y v u Q I rx ry h
  obtain ⟨l, xs, rfl, rfl, hT, q⟩ := h
  cases rx
  obtain ⟨t, rfl⟩ := ry
  obtain ⟨its, r, ⟨⟨cls, dd, data, sl⟩, ho, hc, n, hd⟩, hs⟩ := I.tuple hT
  simp only at hc hd
  subst hc hd
  refine wpAny_binaryOp_repeat_ref (T := "tuple") (U := "int") (by decide) ⟨_, ho, rfl⟩ (fun s' => typeIs_int s' 1 t) noFill_tuple_mul F.fills_int_mul F.slot_int_rmul repeat_tuple F.slot_int_index.lookup
    (call_meets F.slot_int_rmul (typeIs_int s 1 t) F.entry_int_rmul (F.args_int_rmul_2 _ _) (int_rmul_tuple 1 t l its.toArray n dd sl)
      ⟨ho, rfl, ⟨_, ho, rfl⟩, call_meets F.slot_tuple_mul ⟨_, ho, rfl⟩ F.entry_tuple_mul (F.args_tuple_mul_2 _ _) (tuple_mul1 l its.toArray n dd sl t) ⟨ho, ?_⟩⟩)
  exact ⟨.ref l, H, I, rfl, q⟩
def rRepTx (K : PySem.W.Frag) : R2 := fun x y H Q => rRepT1 K x y H Q ∨ rRepT K x y H Q
theorem op_repTx {X : Cx} : OpR X (binaryOp .Mult) (rRepTx X.K) := by
  intro pins s σ H x y v u Q I rx ry h
  rcases h with h | h
  · exact op_repT1 pins s σ H x y v u Q I rx ry h
  · exact op_repT pins s σ H x y v u Q I rx ry h
theorem o_repT {K : PySem.W.Frag} : Op2 K dRepT (rRepTx K) := by
  intro x y d F H v u Q hf e rx ry k
  unfold dRepT at hf
  split at hf
  · rename_i xs i
    split at hf
    · rename_i hl
      cases hf
      obtain ⟨a, vs, rfl, h1, h2⟩ := rx
      by_cases hi : i = 1
      · subst hi
        refine .inl ⟨a, vs, rfl, ry, tupT e h1, ?_⟩
        refine k _ _ _ (Gr.refl e) ⟨a, vs, rfl, h1, ?_⟩
        show RepL K F (List.replicate 1 xs).flatten vs
        rw [List.replicate_succ, List.replicate_zero, List.flatten_cons, List.flatten_nil, List.append_nil]
        exact h2
      refine .inr ?_
      have hne : vs ≠ [] := fun c => by
        have := h2.length
        rw [c] at this
        have h0 : xs = [] := List.eq_nil_of_length_eq_zero this.symm
        rw [h0] at hl
        exact absurd hl.1 (by decide)
      refine ⟨a, i, vs, rfl, ry, tupT e h1, hne, by omega, hl.2.2.1, by rw [h2.length]; exact hl.2.2.2, fun p hp => ?_⟩
      have g' := Gr.new e hp (.tup (List.replicate i.toNat vs).flatten)
      refine k _ _ _ g' ⟨p, _, rfl, upd_same, RepL.mono g'.f ?_⟩
      generalize i.toNat = m
      induction m with
      | zero => exact (rfl : ([] : List V) = [])
      | succ m ih =>
        rw [List.replicate_succ, List.flatten_cons, List.replicate_succ, List.flatten_cons]
        exact h2.append ih
    · cases hf
  · cases hf
end DL
/-! own.pop(e), own.extend(e), min of a list. -/
namespace DL
open PySem PySem.Spec PyProof.Rows L2
section
variable {X : Cx} {ec : EC} {W : WX} {e : Expr} {f1 : ES D} {ι : EL}
end
section
variable {X : Cx} {ec : EC} {W : WX} {e : Expr} {pos : Pos} {f1 : ES D}
end
end DL
/-! Own errors: raise, try. -/
namespace DL
open PySem PySem.Spec PyProof.Rows L2

/-- an own class of errors without an __init__ of its own -/
def errF (K : PySem.W.Frag) (C : Addr) : Bool := PySem.W.excIn K C [.type "ValueError", .type "Exception", .type "BaseException", .type "object"] "ValueError.__new__" && (PySem.W.keepIn K (.ref C) && (decide (PySem.W.subIn K (.ref C) (.type "BaseException") = some true) && decide (PySem.W.typeIn K (.ref C) = some (.type "type"))))
structure ErrC (K : PySem.W.Frag) (mg : Str → Option Value) (ec : EC) (c : String) : Prop where
  g : mg (PySem.Str.ofString c) = some (.ref (ec c))
  f : errF K (ec c) = true
section
variable {X : Cx} {ec : EC} {W : WX}
theorem ds_raise {c : String} {m : Str} {j : Nat} {p p2 pos' pos : Pos} (hc : X.calm = true) (tk : Takes X W) (T : ErrC X.K X.mg ec c) (hg : Gl X (PySem.Str.ofString c)) (hdb : ((PySem.Str.ofString c) == ("__debug__" : Str)) = false := by decide +kernel) :
    DS X ec W (.Raise (some (.Call (.Name (PySem.Str.ofString c) p) [.Constant (.str m) j p2] [] pos')) none pos) (sErr c) := by
  have f := T.f
  unfold errF at f
  rw [Bool.and_eq_true, Bool.and_eq_true, Bool.and_eq_true, decide_eq_true_eq, decide_eq_true_eq] at f
  exact psImp (ps_raise hc tk (pmk_own PySem.F.excBase_ValueError f.1 T.g f.2.1 (raises_own f.2.2.1 f.2.2.2) hg hdb)) fun D σ H ⟨r, F, F0, B, S, q⟩ => q none σ F H (Same.refl _) S rfl
/-- the clauses -/
inductive HdsD (X : Cx) (ec : EC) (W : WX) : List ExceptHandler → List (String × SX) → Prop
  | nil : HdsD X ec W [] []
  | cons {c : String} {b₀ : Stmt} {suite : List Stmt} {np pos' : Pos} {hds : List ExceptHandler} {b : SX} {l : List (String × SX)} (hc : Names X (PySem.Str.ofString c) (.ref (ec c)))
      (hs : ∀ (a : Addr) (pn : List (Addr × Obj)), DSs (X.suite a pn) ec W (b₀ :: suite) b) (r : HdsD X ec W hds l) : HdsD X ec W (.ExceptHandler (some (.Name (PySem.Str.ofString c) np)) none (b₀ :: suite) pos' :: hds) ((c, b) :: l)
/-- what tab tells of the classes -/
def TabT (K : PySem.W.Frag) (ec : EC) (tab : List ((String × String) × Bool)) : Prop := ∀ a c b, tab.lookup (a, c) = some b → PySem.W.exmOne K (.ref (ec a)) (.ref (ec c)) = some b
end
/-- the classes' places by their names -/
def ecL (l : List (String × Addr)) : EC := fun y => (l.lookup y).getD 0
theorem tabT_nil {K : PySem.W.Frag} {ec : EC} : TabT K ec [] := fun _ _ _ h => nomatch h
theorem tabT_cons {K : PySem.W.Frag} {ec : EC} {a c : String} {b : Bool} {tab : List ((String × String) × Bool)} (h : PySem.W.exmOne K (.ref (ec a)) (.ref (ec c)) = some b) (T : TabT K ec tab) : TabT K ec (((a, c), b) :: tab) := fun a' c' b' e => by
  rw [List.lookup_cons] at e
  split at e
  · rename_i q
    have q' : (a', c') = (a, c) := by simpa using q
    cases q'
    cases e
    exact h
  · exact T _ _ _ e
end DL
/-! enumerate over a tuple or a list. -/
namespace DL
open PySem PySem.Spec PyProof.Rows L2
open AutoSeq1 (wpAny_loadPart')

theorem new_enumT (l : Addr) (items : Array Value) (n : Nat) (dct : Option Addr) (sl : Array (Option Value)) :
    Meets (Builtin.«enumerate.__new__» ⟨[.type "enumerate", .ref l], []⟩) (fun _ R s => s.heap.get? l = some { cls := .type "tuple", dict := dct, data := .seq items n, slots := sl } ∧
      R (.ok (.ret (.ref (s.heap.push { cls := .type "tuple_iterator", data := .fields #[.ref l, .int 0 0] }).objs.size)))
        { s with heap := (s.heap.push { cls := .type "tuple_iterator", data := .fields #[.ref l, .int 0 0] }).push { cls := .type "enumerate", data := .fields #[.none, .bool false, .ref s.heap.objs.size, rawInt 0, .none, .none] } }) :=
  .of_wp fun prog w A R s h => by
    obtain ⟨hp, g, d, tk, os⟩ := s; obtain ⟨hl, h⟩ := h
    have hsub := sub_enumerate
    have hL : Heap.IsTuple (Shared.heap ⟨hp, g, d, tk, os⟩) l items := ⟨_, hl, rfl, n, rfl⟩
    wp_walk using wpAny_loadPart' hl
    refine wpAny_stack_any fun st => wpAny_pure ?_
    split
    · rename_i c _ _ _ _ _
      cases (c == Value.type "enumerate")
      · wp_walk using wpAny_loadPart' hl, wpAny_pyIter_tuple hL
        exact ⟨_, rfl, h⟩
      · wp_walk using wpAny_loadPart' hl, wpAny_pyIter_tuple hL
        exact ⟨_, rfl, h⟩
    · wp_walk using wpAny_loadPart' hl, wpAny_pyIter_tuple hL
      exact ⟨_, rfl, h⟩
theorem call_enumT {prog : Program} {w : World} {A : Around} {E : Value → Shared → Prop} {s : Shared} {l : Addr} {items : Array Value} {Q : Value → Shared → Prop} (hL : s.heap.IsTuple l items)
    (h : ∀ h', IsEnum h' (s.heap.objs.size + 1) s.heap.objs.size 0 .none → h'.IsTupleIter s.heap.objs.size l 0 → h'.objs.size = s.heap.objs.size + 2 →
      (∀ b o, s.heap.get? b = some o → h'.get? b = some o) → Q (.ref (s.heap.objs.size + 1)) { s with heap := h' }) :
    wpAny (model prog w) A (call (.type "enumerate") [.ref l]) Q E s := by
  obtain ⟨⟨c, dct, dt, sl⟩, hl, hc, n, hd⟩ := hL
  replace hc : c = .type "tuple" := hc
  replace hd : dt = .seq items n := hd
  subst hc hd
  refine callType_new PySem.F.called_enumerate (by decide) (PySem.F.typeCall_enumerate_1 _) (PySem.F.newCall_enumerate_1 _) (fun obj => PySem.F.args_object_init_2 obj _) PySem.F.entry_enumerate_new
    (new_enumT l items n dct sl) ⟨hl, ?_⟩
  have hz : (s.heap.push { cls := .type "tuple_iterator", data := .fields #[.ref l, .int 0 0] }).objs.size = s.heap.objs.size + 1 := Heap.size_push ..
  show _ ∧ _
  rw [hz]
  have he : IsEnum ((s.heap.push { cls := .type "tuple_iterator", data := .fields #[.ref l, .int 0 0] }).push
      { cls := .type "enumerate", data := .fields #[.none, .bool false, .ref s.heap.objs.size, rawInt 0, .none, .none] }) (s.heap.objs.size + 1) s.heap.objs.size 0 .none := by
    have := Heap.get?_push_size (s.heap.push { cls := .type "tuple_iterator", data := .fields #[.ref l, .int 0 0] })
      (o := { cls := .type "enumerate", data := .fields #[.none, .bool false, .ref s.heap.objs.size, rawInt 0, .none, .none] }) rfl
    rw [hz] at this; exact this
  refine ⟨⟨_, he, rfl⟩, h _ he ⟨_, Heap.get?_push_of_some _ (Heap.get?_push_size _ rfl), rfl, rfl⟩ (by rw [Heap.size_push, hz]) fun b o x => Heap.get?_push_of_some _ (Heap.get?_push_of_some _ x)⟩
/-- the tuple at a, each item in a new pair -/
def ItE (K : PySem.W.Frag) (a : Addr) : It :=
  ⟨fun i H => ∃ (xs : List V) (x : V), SqT K H a xs ∧ xs[i]? = some x, fun i H v H' => ∃ T x, v = .ref T ∧ H T = none ∧ H' = upd H T (.tup [.int (i : Nat), x]) ∧ ∀ xs, SqT K H a xs → xs[i]? = some x, fun i H => ∃ xs : List V, SqT K H a xs ∧ xs.length = i⟩
theorem turn_enumT {P : Program} {w : World} {K : PySem.W.Frag} {elts : List Expr} {kk : Nat} {tpos : Pos} (a e it : Addr) (hai : a ≠ it) (hae : a ≠ e) :
    Turn P w K (.Tuple elts kk tpos) (ItE K a) [e, it] e (fun i h => (∃ old, IsEnum h e it ((i : Nat) : Int) old) ∧ h.IsTupleIter it a i ∧ e ≠ it) where
  mem := by simp
  obj := fun i h st b hb => by
    obtain ⟨⟨old, he⟩, ⟨o, ho, hc, hd⟩, _⟩ := st
    have e' : b = e ∨ b = it := by simpa using hb
    rcases e' with z | z
    · rw [z]; exact ⟨_, he, fun v q => nomatch q⟩
    · rw [z]; exact ⟨o, ho, fun v q => by rw [hd] at q; cases q⟩
  keep := fun i h h' st k => let ⟨⟨old, he⟩, hi, hne⟩ := st; ⟨⟨old, k e (by simp) _ he⟩, hi.at fun o q => k it (by simp) o q, hne⟩
  item := by
    intro X hP hw hK hc i pins s σ H E I hf st hg
    subst hP hw hK
    obtain ⟨⟨old, he⟩, hit, hne⟩ := st
    obtain ⟨xs, x, hq, hx⟩ := hg
    obtain ⟨its, rv, p, hz⟩ := I.tuple hq
    obtain ⟨u, hu, ru⟩ := rv.get hx
    have hel : e < s.heap.objs.size := Heap.lt_size he
    have hil : it < s.heap.objs.size := by obtain ⟨_, q, _⟩ := hit; exact Heap.lt_size q
    have hT : s.heap.IsTuple a its.toArray := p
    have hlt : i < its.toArray.size := by
      have := (List.getElem?_eq_some_iff.mp hu).1
      simpa using this
    refine wpAny_pyNext_enum_itemD (Draws.tuple (A := X.A.in1) (show X.A.in1.handled = none from I.ok.hd hc) it a hai its.toArray) he ⟨hit, hT⟩ hlt hne (by simp [hne, Ne.symm hae]) fun x' h' tk hPx ho hst hT2 hsz hk => ?_
    have hxu : x' = u := by
      have h1 : its.toArray[i]? = some x' := hPx
      have h2 : its.toArray[i]? = some u := by simpa using hu
      rw [h1] at h2
      exact Option.some.inj h2
    subst hxu
    refine ⟨_, rfl, wpAny_letOwnedTupleGo_enum (s := { s with heap := h', toks := tk + 1 }) ho fun h'' he' sb => ?_⟩
    have hT3 : h''.get? s.heap.objs.size = some { cls := .type "tuple", data := .seq #[.int i tk, x'] } := (sb.2 _ (Nat.ne_of_gt hel)).trans hT2
    have new : ObjOk X.prog X.w (upd H s.heap.objs.size (.tup [.int (i : Nat), x])) h'' s.heap.objs.size (.tup [.int (i : Nat), x]) :=
      ⟨by show 2 ≤ sizeLine; decide, [.int i tk, x'], .cons ⟨_, rfl⟩ (.cons ru .nil), ⟨_, hT3, rfl, _, rfl⟩⟩
    have I1 : Inv X pins σ (upd H s.heap.objs.size (.tup [.int (i : Nat), x])) { s with heap := h'', toks := tk + 1 } :=
      I.turnedNew (ch := [e, it]) (fun b ob hb q => (sb.2 b (fun z => hb (by simp [z]))).trans (hk b ob (fun z => hb (by simp [z])) (fun z => hb (by simp [z])) q)) hf (Nat.le_refl _) new
    refine ⟨.ref s.heap.objs.size, _, I1, rfl, ⟨_, x, rfl, I.hok.fresh (Nat.le_refl _), rfl, fun ys hy => by rw [I.tuple_inj hy hq]; exact hx⟩, ⟨⟨x', ?_⟩, hst.1.at fun o q => (sb.2 it (Ne.symm hne)).trans q, hne⟩, fun b hb => ?_⟩
    · have e1 : ((i + 1 : Nat) : Int) = (i : Int) + 1 := by omega
      rw [e1]; exact he'
    · have hb' : b < s.heap.objs.size := by
        have e' : b = e ∨ b = it := by simpa using hb
        rcases e' with z | z
        · rw [z]; exact hel
        · rw [z]; exact hil
      rw [upd_ne (Nat.ne_of_lt hb')]
      exact (hf b hb).1
  done := by
    intro X hP hw hK hc i pins s σ H E I hf st hg
    subst hP hw hK
    obtain ⟨⟨old, he⟩, hit, hne⟩ := st
    obtain ⟨xs, hq, hx⟩ := hg
    obtain ⟨its, rv, p, hz⟩ := I.tuple hq
    obtain ⟨f0, f1, f2, f3, f4, f5⟩ := hf it (by simp)
    have hl := rv.length
    have hT : s.heap.IsTuple a its.toArray := p
    have hn : its.toArray.size = i := by rw [List.size_toArray, ← hl, hx]
    subst hn
    exact wpAny_pyNext_enum_endD (Draws.tuple (A := X.A.in1) (show X.A.in1.handled = none from I.ok.hd hc) it a hai its.toArray) he ⟨hit, hT⟩ fun h' eb => ⟨rfl, I.turned (t' := s.toks) (fun b o hb q => eb b o hb q) f0 f1 f3 f4 f5⟩
  self := fun A i s Q E st h => let ⟨⟨_, he⟩, _⟩ := st; wpAny_pyIter_enum he h
theorem walk_enumT {K : PySem.W.Frag} {a : Addr} {xs : List V} : Walk (ItE K a) xs.length (fun H => SqT K H a xs) (YPair (fun i => some (.int (i : Nat))) (fun i => xs[i]?)) := by
  refine ⟨fun i _ hi q => ⟨xs, xs[i], q, by simp [hi]⟩, fun _ q => ⟨xs, q, rfl⟩, fun i H v H' _ q y => ?_⟩
  obtain ⟨T, x, h1, h2, h3, h4⟩ := y
  exact ⟨T, .int (i : Nat), x, h1, h2, h3, rfl, h4 xs q⟩
theorem enumL_at : ∀ (xs : List DL.D) (k i : Nat) (d : DL.D), (enumL k xs)[i]? = some d → ∃ x, xs[i]? = some x ∧ d = .tuple [.int ((k + i : Nat) : Int), x]
  | [], _, _, _, h => nomatch h
  | x :: xs, k, 0, d, h => ⟨x, rfl, by cases h; rfl⟩
  | x :: xs, k, i + 1, d, h => by
    obtain ⟨y, h1, h2⟩ := enumL_at xs (k + 1) i d h
    exact ⟨y, h1, by rw [h2, show k + 1 + i = k + (i + 1) by omega]⟩
theorem enumL_len : ∀ (xs : List DL.D) (k : Nat), (enumL k xs).length = xs.length
  | [], _ => rfl
  | x :: xs, k => by rw [enumL, List.length_cons, List.length_cons, enumL_len xs]
/-- pairs of a number and an item -/
theorem pair_use {K : PySem.W.Frag} {Bh Fb : Hp} {J : It} {xs : List DL.D} {vs : List V} {G : Hp → Prop} (w : Walk J vs.length G (YPair (fun i => some (.int (i : Nat))) (fun i => vs[i]?))) (hG : ∀ H, Same Bh H → G H) (hr : RepL K Fb xs vs) : IterOk K Bh Fb J (enumL 0 xs) := by
  refine ⟨G, _, (by rw [enumL_len, ← hr.length] at *; exact w), hG, fun i d H x H' F hd _ f e y => ?_⟩
  obtain ⟨T, p, q, rfl, hT, rfl, hp, hq⟩ := y
  obtain ⟨z, hz, rfl⟩ := enumL_at xs 0 i d hd
  obtain ⟨v, h1, h2⟩ := hr.get hz
  have hq' : vs[i]? = some q := hq
  have hp' : some (V.int (i : Nat)) = some p := hp
  rw [h1] at hq'
  cases hq'
  cases hp'
  have g := Gr.new e hT (.tup [.int (i : Nat), q])
  refine ⟨_, g, T, _, rfl, upd_same, .int (i : Nat), [q], rfl, ?_, q, [], rfl, (h2.mono f).mono g.f, rfl⟩
  show V.int (i : Nat) = V.int ((0 + i : Nat) : Int)
  rw [Nat.zero_add]
def iEnumS (K : PySem.W.Frag) (ta : TA) : TI := fun σ H R => ta σ H fun vs H1 => ∃ a, vs = [.ref a] ∧ ((∃ xs, SqL K H1 a xs ∧ R (Ite K a) H1) ∨ ∃ xs, SqT K H1 a xs ∧ R (ItE K a) H1)
theorem pi_enumS {X : Cx} {e : Expr} {ta : TA} {p pos tpos : Pos} {elts : List Expr} {kk : Nat} (hg : Gl X "enumerate") (hm : X.mg "enumerate" = none) (ha : PA X [e] ta) (hs : starEach [e] X.env = [(false, eval e X.env)] := by rfl) :
    PI X (.Tuple elts kk tpos) (.Call (.Name "enumerate" p) [e] [] pos) (iEnumS X.K ta) := by
  refine ⟨fun pins s σ H R I h => ?_⟩
  refine Call_ (ld_blt I hg hm boot_enumerate (PyProof.Rows.callWith_type1 (thn (ha.run pos pins s σ H _ I h) fun us s1 ⟨vs, H1, I1, r1, q1⟩ => ?_) hs rfl))
  obtain ⟨a, ex, q⟩ := q1
  subst ex
  cases r1 with
  | cons r rr =>
    cases rr
    cases r
    have near : ∀ b, b ∈ [s1.heap.objs.size + 1, s1.heap.objs.size] → s1.heap.objs.size ≤ b := fun b hb => by
      have e' : b = s1.heap.objs.size + 1 ∨ b = s1.heap.objs.size := by simpa using hb
      rcases e' with z | z
      · rw [z]; exact Nat.le_add_right _ _
      · rw [z]; exact Nat.le_refl _
    rcases q with ⟨xs, hq, q⟩ | ⟨xs, hq, q⟩
    · obtain ⟨its, rv, p', hz⟩ := I1.list hq
      refine call_enumerate_list p'.isList fun h' he hit hsz hk => wpAny_pyIter_enum he ?_
      have I2 : Inv X pins σ H1 { s1 with heap := h' } := I1.kept (t' := s1.toks) hk
      exact ⟨s1.heap.objs.size + 1, [s1.heap.objs.size + 1, s1.heap.objs.size], _, _, H1, rfl, I2, turn_enum a (s1.heap.objs.size + 1) s1.heap.objs.size, ⟨⟨.none, he⟩, hit, Nat.succ_ne_self _⟩, fun b hb => I1.fpOk (near b hb) (I1.hok.fresh (near b hb)), q⟩
    · obtain ⟨its, rv, p', hz⟩ := I1.tuple hq
      have hT : s1.heap.IsTuple a its.toArray := p'
      have ha : a < s1.heap.objs.size := by obtain ⟨o, ho, _⟩ := hT; exact Heap.lt_size ho
      refine call_enumT hT fun h' he hit hsz hk => wpAny_pyIter_enum he ?_
      have I2 : Inv X pins σ H1 { s1 with heap := h' } := I1.kept (t' := s1.toks) hk
      exact ⟨s1.heap.objs.size + 1, [s1.heap.objs.size + 1, s1.heap.objs.size], _, _, H1, rfl, I2, turn_enumT a (s1.heap.objs.size + 1) s1.heap.objs.size (Nat.ne_of_lt ha) (Nat.ne_of_lt (Nat.lt_succ_of_lt ha)), ⟨⟨.none, he⟩, hit, Nat.succ_ne_self _⟩, fun b hb => I1.fpOk (near b hb) (I1.hok.fresh (near b hb)), q⟩
section
variable {X : Cx} {ec : EC} {W : WX} {e : Expr} {pos p tpos : Pos} {elts : List Expr} {kk : Nat} {φ : EX}
theorem pa1D (ha : DE X ec W e φ) (hs : starEach [e] X.env = (false, eval e X.env) :: starEach [] X.env := by rfl) : PA X [e] (fun σ H Q => ∃ r F F0 B, SR X.K F0 B r σ H F ∧ Thn X.K ec W (φ r) σ F H fun d F' H' => ∀ v, Rep X.K F' d v → Q [v] H') := paImp (pa_cons ha pa_nil hs) fun σ H Q ⟨r, F, F0, B, S, q⟩ => ⟨r, F, F0, B, S, q⟩
theorem di_enum (hg : Gl X "enumerate") (hm : X.mg "enumerate" = none) (ha : DE X ec W e φ) (hs : starEach [e] X.env = [(false, eval e X.env)] := by rfl) : DI X ec W (.Tuple elts kk tpos) (.Call (.Name "enumerate" p) [e] [] pos) (iEnumE φ) :=
  piImp (pi_enumS hg hm (pa1D ha hs) hs) fun σ H R ⟨r, F, F0, B, S, q⟩ => by
    refine ⟨r, F, F0, B, S, (Thn.bind q).imp fun x F1 H1 _ g1 h1 v rv => ?_⟩
    obtain ⟨xs, ex, k⟩ := h1.po
    have k' := k F1 H1 (Gr.refl g1.i)
    cases x with
    | list ys =>
      have ex' : enumL 0 ys = xs := Option.some.inj ex
      subst ex'
      obtain ⟨a, vs, rfl, h2, h3⟩ := rv
      exact ⟨a, rfl, .inl ⟨vs, g1.i.seq h2, k' _ (pair_use (walk_enum (xs := vs)) (fun H q => q.seq h2) h3)⟩⟩
    | tuple ys =>
      have ex' : enumL 0 ys = xs := Option.some.inj ex
      subst ex'
      obtain ⟨a, vs, rfl, h2, h3⟩ := rv
      exact ⟨a, rfl, .inr ⟨vs, tupT g1.i h2, k' _ (pair_use (walk_enumT (xs := vs)) (fun H q => tupT q h2) h3)⟩⟩
    | _ => cases ex
end
end DL
/-! max of a list; calls by names; range with a step. -/
namespace DL
open PySem PySem.Spec PyProof.Rows L2

section
variable {X : Cx} {ec : EC} {W : WX} {e : Expr} {pos p p2 kpos : Pos} {φ : EX}
/-! ### calls by names -/
structure DKw (K : PySem.W.Frag) (mg : Str → Option Value) (x : Str) (ps ks : List Str) (is : List Nat) : Prop where
  ex : ∃ (f : Addr) (fd : FuncData), mg x = some (.ref f) ∧ (∀ (s : Shared) (ws : List Value), ws.length = ks.length → BindsTo s fd ⟨[], ks.zip ws⟩ (ps.zip (is.map fun i => ws.getD i .none))) ∧ ∃ oc od sl, K.lookup f = some ⟨oc, od, .func fd, sl⟩
end
end DL
/-! sorted(..) of integers, of pairs of integers: any number of them. -/
namespace DL
open PySem PySem.Spec PyProof.Rows L2

open Classical in
section
variable {X : Cx}
end
end DL
/-! zip of two tuples. -/
namespace DL
open PySem PySem.Spec PyProof.Rows L2
section
variable {X : Cx} {ec : EC} {W : WX} {e e2 : Expr} {pos p tpos : Pos} {elts : List Expr} {kk : Nat} {φ ψ : EX}
end
end DL
/-! An own error whose __init__ keeps a number. -/
namespace DL
open PySem PySem.Spec PyProof.Rows L2
/-- what such an __init__ does -/
def spI (K : PySem.W.Frag) (C : Addr) (f : Str) : Sp := fun vs H Q _ => ∃ (a : Addr) (i : Int), vs = [.ref a, .int i] ∧ i.natAbs.log2 < 1920 ∧ OexC K C ∧ PySem.W.findIn K (.ref C) f = some none ∧ H a = some (exo a C none) ∧
  ∀ dx, H dx = none → dx ≠ a → Q .non (upd (upd H dx (exd dx [(f, .int i)])) a (exo a C (some dx)))
/-- an own class of errors with such an __init__ -/
structure ErrI (P : Program) (w : World) (K : PySem.W.Frag) (mg : Str → Option Value) (base : Heap) (ec : EC) (c : String) (f : Str) : Prop where
  g : mg (PySem.Str.ofString c) = some (.ref (ec c))
  t : OexC K (ec c)
  no : PySem.W.findIn K (.ref (ec c)) f = some none
  i : ∃ (fI : Addr) (fd : FuncData), PySem.W.findIn K (.ref (ec c)) "__init__" = some (some (.ref fI)) ∧ PySem.W.typeIn K (.ref fI) = some (.type "function") ∧ FnOk P w K mg base (L2.CX P w) 1 fI fd ["self", f] (spI K (ec c) f) ∧ Binds K fd ["self", f] []
end DL
/-! Caught errors that stay: an object of the heap like others. -/
namespace DL
open PySem PySem.Spec PyProof.Rows L2
section
variable {X : Cx} {pins : List (Addr × Obj)} {σ : L2.St} {H : Hp} {s : Shared} {a C : Addr} {d : Option Addr} {oe : Obj} {vs : Array Value}
theorem exk_ok {P : Program} {w : World} {H : Hp} {h : Heap} (he : h.get? a = some oe) (hc : oe.cls = .ref C) (hd : oe.dict = d) (hf : oe.data = .fields vs) : ObjOk P w H h a (exk a C d) :=
  ⟨⟨oe, vs, he, hc, hd, hf⟩, ⟨_, he⟩, fun h1 h2 ⟨o, vs', e, r⟩ k => ⟨o, vs', k o e, r⟩⟩
theorem exk_at {P : Program} {w : World} {H : Hp} {h : Heap} (hok : HOk P w H h) (e : H a = some (exk a C d)) : ∃ (o : Obj) (vs : Array Value), h.get? a = some o ∧ o.cls = .ref C ∧ o.dict = d ∧ o.data = .fields vs := (hok a _ e).1
/-- an object that stands in the heap is tracked from now on -/
theorem track (I : Inv X pins σ H s) {o : HO} (na : H a = none) (nL : a ≠ X.env.locals) (nc : ∀ v, ¬ s.heap.IsCell a v) (n0 : ∀ ob, X.s_0.heap.get? a = some ob → a ∈ X.ex) (np : ∀ p ∈ X.pn ++ pins, p.1 ≠ a)
    (new : ObjOk X.prog X.w (upd H a o) s.heap a o) : Inv X pins σ (upd H a o) s where
  ok := I.ok
  os := I.os
  bare := I.bare
  base :=
    { keep := I.base.keep
      slot := I.base.slot
      free := fun b ob e n x => by
        have hb : b ≠ a := fun z => x (by rw [z]; exact n0 ob (by rw [← z]; exact e))
        rw [upd_ne hb]
        exact I.base.free b ob e n x
      there := I.base.there
      tups := fun b xs e => by
        have q := I.base.tups b xs e
        rw [upd_ne (ne_of_none q na)]
        exact q
      frzs := fun b ob u e => by
        have q := I.base.frzs b ob u e
        rw [upd_ne (ne_of_none q na)]
        exact q
      tbls := fun b ps e => by
        obtain ⟨more, q⟩ := I.base.tbls b ps e
        exact ⟨more, by rw [upd_ne (ne_of_none q na)]; exact q⟩ }
  loc := I.loc
  cell := I.cell
  free := by rw [upd_ne (Ne.symm nL)]; exact I.free
  freeC := fun x c e => by
    have hc : c ≠ a := fun z => by
      obtain ⟨v, q⟩ := I.cell x c e
      rw [z] at q
      exact nc v q
    rw [upd_ne hc]
    exact I.freeC x c e
  pin := fun p hp => by
    obtain ⟨h1, h2, h3⟩ := I.pin p hp
    exact ⟨h1, by rw [upd_ne (np p hp)]; exact h2, h3⟩
  hok := I.hok.laidN (fun _ _ q => q) na new
  len := I.len
theorem suiteT (I : Inv X pins σ H s) : Inv (X.suite a (X.pn ++ pins)) [] σ H s :=
  ⟨I.ok.suite _ _, I.os, I.bare, I.base, I.loc, I.cell, I.free, I.freeC, fun p hp => I.pin p (by rw [List.append_nil] at hp; exact hp), I.hok, I.len⟩
theorem unsuiteT {pn' : List (Addr × Obj)} (I : Inv (X.suite a (X.pn ++ pins)) pn' σ H s) (ok : X.Ok) : Inv X pins σ H s :=
  ⟨ok, I.os, I.bare, I.base, I.loc, I.cell, I.free, I.freeC, fun p hp => I.pin p (List.mem_append_left _ hp), I.hok, I.len⟩
end
abbrev TEx := Addr → Value → Option Addr → TS
def gone (i : Nat) (D : Ends) : Ends := { nx := fun σ' H' => D.nx (σ'.set i none) H', rt := D.rt, bk := fun σ' H' => D.bk (σ'.set i none) H', ct := fun σ' H' => D.ct (σ'.set i none) H' }
/-- what the clauses wish, each keeping the error under a name -/
def wKeep (K : PySem.W.Frag) (Wout : WX) (D : Ends) : List (Value × Nat × TEx) → WX
  | [] => Wout
  | (c, i, ts) :: r => fun cls d σ H => ∃ b, PySem.W.exmOne K cls c = some b ∧ (b = true → ∃ C, cls = .ref C ∧ ∀ a, H a = none → ts a cls d (gone i D) (σ.set i (some (.ref a))) (upd H a (exk a C d))) ∧
      (b = false → wKeep K Wout D r cls d σ H)
/-- W: what is wanted where no clause is the right one -/
inductive HdsK (X : Cx) (Wout : WX) : WX → List ExceptHandler → List (Value × Nat × TEx) → Prop
  | nil : HdsK X Wout Wout [] []
  | stop {hds : List ExceptHandler} : HdsK X Wout (fun _ _ _ _ => False) hds []
  | cons {We : WX} {x n : Str} {c : Value} {i : Nat} {ts : TEx} {b₀ : Stmt} {suite : List Stmt} {np pos' : Pos} {hds : List ExceptHandler} {l : List (Value × Nat × TEx)} (hc : Names X x c) (hi : X.N[i]? = some n) (hln : X.env.kindOf n = some .local)
      (hsu : ∀ (a : Addr) (cls : Value) (d : Option Addr) (pn : List (Addr × Obj)), PSs (X.suite a pn) (b₀ :: suite) (ts a cls d)) (r : HdsK X Wout We hds l) :
      HdsK X Wout We (.ExceptHandler (some (.Name x np)) (some n) (b₀ :: suite) pos' :: hds) ((c, i, ts) :: l)
section
variable {X : Cx} {body : List Stmt} {h₀ : ExceptHandler} {hds : List ExceptHandler} {l : List (Value × Nat × TEx)} {pos : Pos} {tb : WX → TS} {Wout We : WX}
theorem ps_try_keep (hs : X.stack = X.env :: X.outer) (hf : X.env.frame = some X.env.locals) (hN : X.N.Nodup) (tk : Takes X Wout)
    (hb : ∀ (W : WX) (pn : List (Addr × Obj)) (xe : Value → Shared → Prop), Takes (X.tr pn xe) W → PassesOwn (model X.prog X.w) X.A X.env xe → PSs (X.tr pn xe) body (tb W))
    (hh : HdsK X Wout We (h₀ :: hds) l) : PS X (.Try body (h₀ :: hds) [] [] pos) (fun D σ H => tb (wKeep X.K We D l) D σ H) := by
  refine ⟨fun pins s σ H D I h => ?_⟩
  have ok := I.ok
  have hfr : X.A.frames = some (X.env :: X.outer) := by rw [ok.frames, hs]
  refine wpAny_Try_except ?_
  refine wpAny_mono ((hb (wKeep X.K We D l) (X.pn ++ pins) (fun e s₁ => wpAny (model X.prog X.w) X.A (noteFrame e X.env) (fun _ s₂ => wpAny (model X.prog X.w) X.A (setFlight e none) (fun _ s₃ =>
    wpAny (model X.prog X.w) X.A (handleBy e X.env (h₀ :: hds)) (SP X pins D) X.xe s₃) X.xe s₂) X.xe s₁) (fun u s' xx => ?_) PassesOwn.looking).run [] s σ H D (I.toTry _) h) (fun f s1 hsp => ?_) (fun e s1 he => he)
  · obtain ⟨a, B, sI, pins', σ', H', cls, d, rfl, J', nb, up, sky, na, os, ag, w⟩ := xx
    have J : Inv X pins σ' H' sI := J'.ofTry ok
    have sky' : Sky B (X.env :: X.outer) a (Zc cls d) X.env.locals s'.heap := by rw [← hs]; exact sky
    show wpAny (model X.prog X.w) X.A (noteFrame (.ref a) X.env) _ _ _
    refine Sky.land Zc.steady hfr hf sky' fun h3 fl3 up3 => ?_
    have J3 : Inv X pins σ' H' { s' with heap := h3 } := J.landed nb fl3.1 (up.trans up3) os ag
    obtain ⟨oe3, vs3, he3, hz3, hd3⟩ := fl3.there
    have nfr : a ∉ frs (X.env :: X.outer) := fun hm => by
      obtain ⟨_, o', e', hnf⟩ := fl3.2.2.1.mem hm
      rw [he3] at e'; cases e'
      exact hnf _ hd3
    have nL : a ≠ X.env.locals := fun z => nfr (List.mem_filterMap.mpr ⟨X.env, List.mem_cons_self, by rw [hf, z]⟩)
    have nF : a ∉ X.fs := fun hm => by
      obtain ⟨e, he, q⟩ := List.mem_filterMap.mp hm
      exact nfr (List.mem_filterMap.mpr ⟨e, List.mem_cons_of_mem _ he, q⟩)
    have nI : ∀ o, sI.heap.get? a = some o → False := fun o e => by
      have q := nb a o e (by rw [hs]; exact nfr)
      rw [fl3.2.1] at q
      cases q
    have n0 : ∀ ob, X.s_0.heap.get? a = some ob → a ∈ X.ex := fun ob e => Classical.byContradiction fun c => by
      obtain ⟨o', q⟩ := J.base.there a ob e c
      exact nI o' q
    have np : ∀ p ∈ X.pn ++ pins, p.1 ≠ a := fun p hp z => by
      obtain ⟨q, _⟩ := J.pin p hp
      rw [z] at q
      exact nI _ q
    have S3 := J3.suite he3 hd3 na nL nF
    have go : ∀ {We : WX} {hds' : List ExceptHandler} {l' : List (Value × Nat × TEx)}, HdsK X Wout We hds' l' → wKeep X.K We D l' cls d σ' H' →
        wpAny (model X.prog X.w) X.A (handleBy (.ref a) X.env hds') (SP X pins D) X.xe { s' with heap := h3 } := by
      intro We hds' l' hk
      induction hk with
      | nil =>
        intro w
        refine wpAny_handleBy_nil ?_
        obtain ⟨k1, k2, k3, oe, vs, T, oT, ts', he, hz, hd, h1, hr⟩ := id fl3
        unfold PySem.passOn
        refine wpAny_bind (wpAny_field he hd h1 ?_)
        rw [if_neg (show ¬ ((Value.ref T == Value.none) = true) from by simp)]
        have fin : wpAny (model X.prog X.w) X.A (setFlight (.ref a) X.env.frame) (fun _ s4 => wpAny (model X.prog X.w) X.A (throw (.ref a) : Sem Flow) (SP X pins D) X.xe s4) X.xe { s' with heap := h3 } := by
          rw [hf]
          refine HandSPX.setFlight_upZ fl3 fun h4 hh4 up4 => wpAny_throw (tk _ _ ?_)
          exact ⟨a, B, sI, pins, σ', H', cls, d, rfl, J, nb, (up.trans up3).trans up4, .inr (.inr (by rw [hs]; exact hh4)), na, os, ag, w⟩
        first
          | exact wpAny_bind (wpAny_pure (wpAny_bind fin))
          | exact wpAny_bind fin
      | stop => exact fun w => w.elim
      | @cons We x n c i ts b₀ suite np' pos' hds2 l2 hc hi hln hsu r ih =>
        intro w
        obtain ⟨b, hb1, hyes, hno⟩ := w
        have hloc : Loc X.env.scope n := .inl hln
        refine wpAny_handleBy_cons (codeAny_handlers_test ?_) (by intro q; cases q)
        have LT : PySem.W.Looks (model X.prog X.w) h3 (typeOf (.ref a)) cls := fun A Q E s k q => wpAny_typeOf_ref (k _ _ he3) (by rw [hz3.1]; exact q)
        have LM := PySem.W.exm_one (M := model X.prog X.w) (J3.kIn) LT hb1
        have test : ∀ {Q : Value → Shared → Prop} {E : Value → Shared → Prop}, Q c { s' with heap := h3 } → wpAny (model X.prog X.w) (X.A.mark (some (.ref a))) (eval (.Name x np') X.env) Q E { s' with heap := h3 } := fun {Q E} q => by
          obtain ⟨hg, hdbg, hm | ⟨hm, hv, hnn⟩⟩ := hc
          · exact ld_glob (X := X.suite a ((a, oe3) :: (X.pn ++ pins))) S3 hg hm q hdbg
          · exact ld_blt (X := X.suite a ((a, oe3) :: (X.pn ++ pins))) S3 hg hm hv q hnn hdbg
        refine test (LM.here ?_)
        cases b with
        | true =>
          obtain ⟨C, hC, hts⟩ := hyes rfl
          refine codeAny_handlers_suite_as ?_
          refine HandSPX.lands_againZ fl3 fun h4 fl4 up4 => ?_
          have J4 : Inv X pins σ' H' { s' with heap := h4 } := J.landed nb fl4.1 ((up.trans up3).trans up4) os ag
          obtain ⟨oe4, vs4, he4, hz4, hd4⟩ := fl4.there
          have S4 := suiteT (a := a) (track (o := exk a C d) J4 na nL (fun v q => by
            obtain ⟨o, e1, e2⟩ := q
            rw [he4] at e1
            cases e1
            rw [hd4] at e2
            cases e2) n0 np (exk_ok he4 (hz4.1.trans hC) hz4.2 hd4))
          refine store_ok (X := X.suite a (X.pn ++ pins)) (v := .ref a) S4 hN hi hloc rfl (fun s5 S5 => ?_) (.inr hln)
          refine wpAny_mono ((hsu a cls d (X.pn ++ pins)).run [] s5 _ _ _ S5 (hts a na)) (fun f s6 hsp => ?_) (fun _ _ z => False.elim z)
          have end_ : ∀ {σ6 : L2.St} {H6 : Hp} {Q : Shared → Prop}, Inv (X.suite a (X.pn ++ pins)) [] σ6 H6 s6 → (∀ s7, Inv X pins (σ6.set i none) H6 s7 → Q s7) →
              wpAny (model X.prog X.w) X.A (do bindName X.env n .none; unbindBehindTheSuite X.env n pos') (fun _ s7 => Q s7) X.xe s6 := fun {σ6 H6 Q} S6 hq => gone_ok (unsuiteT S6 ok) hN hi hln hq
          cases f with
          | next =>
            obtain ⟨σ6, H6, S6, q6⟩ := hsp
            exact end_ S6 fun s7 J7 => ⟨_, _, J7, q6⟩
          | brk =>
            obtain ⟨σ6, H6, S6, q6⟩ := hsp
            exact end_ S6 fun s7 J7 => ⟨_, _, J7, q6⟩
          | cont =>
            obtain ⟨σ6, H6, S6, q6⟩ := hsp
            exact end_ S6 fun s7 J7 => ⟨_, _, J7, q6⟩
          | ret u =>
            obtain ⟨v6, σ6, H6, S6, r6, q6⟩ := hsp
            exact end_ S6 fun s7 J7 => ⟨_, _, _, J7, r6, q6⟩
        | false =>
          show wpAny _ X.A (handleBy (.ref a) X.env hds2) _ _ _
          exact ih (hno rfl)
    exact go hh w
  · cases f with
    | next =>
      obtain ⟨σ', H', J', q⟩ := hsp
      exact wpAny_execs_nil ⟨σ', H', J'.ofTry ok, q⟩
    | brk =>
      obtain ⟨σ', H', J', q⟩ := hsp
      exact ⟨σ', H', J'.ofTry ok, q⟩
    | cont =>
      obtain ⟨σ', H', J', q⟩ := hsp
      exact ⟨σ', H', J'.ofTry ok, q⟩
    | ret u =>
      obtain ⟨v, σ', H', J', r, q⟩ := hsp
      exact ⟨v, σ', H', J'.ofTry ok, r, q⟩
end
end DL
set_option maxHeartbeats 1600000
/-! Caught errors: isinstance, fields, kept under a name, passed to a def. -/
namespace PySem.W
open PySem PySem.Spec PySem.Calls PyProof.Rows
section
variable {prog : Program} {w : World} {A : Around} {E : Value → Shared → Prop} {s : Shared} {K : Frag} {x D : Addr} {ox : Obj} {od : Option Obj}
theorem findObj_bnd {C : Addr} {name : Str} {a g : Value} (hc : (clsIn K C).isSome = true) (ha : findIn K (.ref C) name = some (some a)) (hg : specialIn K a "__get__" = some (some g)) (ht : takesIn K a = some true) : findObj K C od name = some (.bind g a) := by
  obtain ⟨cd, hc⟩ := Option.isSome_iff_exists.mp hc
  unfold findObj
  rw [hc, Option.bind_some, ha, Option.bind_some]
  simp [hg, ht]
theorem kin_classO (hga : findIn K (.ref D) "__getattribute__" = some (some (.builtin "BaseException.__getattribute__"))) (hgt : findIn K (.ref D) "__getattr__" = some none) (hsub : subIn K (.ref D) (.type "BaseException") = some true)
    (hdct : hasDictIn K D = true) (ha : findIn K (.ref D) "__class__" = some (some (.builtin "object.__class__")))
    (hn : specialIn K (.builtin "object.__class__") "__get__" = some (some (.builtin "getset_descriptor.__get__"))) (htk : takesIn K (.builtin "object.__class__") = some true) (hm : mroIn K D (.type "object") = some true)
    {Q : Option Value → Shared → Prop} (X : K.In s.heap) (I : InstAt s.heap x ox D od) (h : Q (some (.ref D)) { s with toks := s.toks + 1 }) : wpAny (model prog w) A (getAttr? (.ref x) "__class__") Q E s := by
  have hf : findObj K D od "__class__" = some (.bind (.builtin "getset_descriptor.__get__") (.builtin "object.__class__")) := findObj_bnd (by obtain ⟨cd, hc, _⟩ := any_some hdct; rw [hc]; rfl) ha hn htk
  obtain ⟨hp, g, d, t, os⟩ := s
  have L0 := I.type (M := model prog w)
  have L1 := looks_findIn (M := model prog w) X hga
  have L2 := looks_findIn (M := model prog w) X hgt
  have L3 := looks_find (M := model prog w) X I hf
  have sub : Looks (model prog w) hp (isInstance (.ref x) (.type "BaseException")) true := L0.andThen (looks_subIn X hsub)
  have hx0 : (false && onTheHeap (Value.builtin "BaseException.__getattribute__")) = false := rfl
  have hx2 : (Value.builtin "BaseException.__getattribute__" == Value.builtin "object.__getattribute__") = false := by decide +kernel
  have hx1 : (onTheHeap (Value.ref D) && Value.builtin "BaseException.__getattribute__" == Value.builtin "object.__getattribute__") = false := by rw [hx2]; rfl
  unfold getAttr? getAttrBy? getAttrBy
  refine wpAny_bind (wpAny_mkText (wpAny_bind (wpAny_attempt (wpAny_holding (wpAny_bind (L0.at (wpAny_bind (L1.at ?_))))))))
  show wpAny _ _ (if (onTheHeap (Value.ref D) && Value.builtin "BaseException.__getattribute__" == Value.builtin "object.__getattribute__") = true then _ else _) _ _ _
  rw [hx1, if_neg Bool.false_ne_true]
  unfold getAttrByItsOwn hookBefore
  refine wpAny_bind ?_
  rw [if_pos (show onTheHeap (Value.ref D) = true from rfl)]
  refine L2.at ?_
  refine wpAny_bind (wpAny_attempt (wpAny_holding ?_))
  unfold callGetattribute
  rw [hx0, if_neg Bool.false_ne_true]
  unfold boundAndCalled
  rw [PySem.F.excAttr_ValueError.ga.bind (.ref x)]
  refine wpAny_bind (wpAny_pure ?_)
  show wpAny _ _ (call (.builtin "BaseException.__getattribute__") [.ref x, .str "__class__" t]) _ _ _
  refine wpAny_call (codeAny_call_builtin PySem.F.excAttr_ValueError.ga.plain PySem.F.entry_bexc_ga ?_)
  refine @check_slot (model prog w) _ _ ⟨hp, g, d, t + 1, os⟩ "BaseException.__getattribute__" "BaseException" "__getattribute__" (.ref x) [.str "__class__" t] [] _ (by decide +kernel) (by decide +kernel) sub (PySem.F.args_bexc_ga (.ref x) (.str "__class__" t)) ?_
  unfold Builtin.«object.__getattribute__»
  refine wpAny_bind (wpAny_of_eq (a := ((Value.ref x : Value), [Value.str "__class__" t])) (by first | rfl | (simp only [slotArgs]; rfl)) ?_)
  refine wpAny_bind (wpAny_pure (wpAny_bind (L0.at (wpAny_bind (L3.at ?_)))))
  show wpAny _ _ (holding [Value.builtin "object.__class__"] (call (.builtin "getset_descriptor.__get__") [.builtin "object.__class__", .ref x, .ref D]) >>= ret) _ _ _
  refine wpAny_bind (wpAny_holding (wpAny_call (class_get (s := ⟨hp, g, d, t + 1, os⟩) (ox := ox) (od := od) X I hm ?_)))
  refine wpAny_pure ?_
  show wpAny _ _ (handedOut (.ref D)) _ _ _
  rw [handedOut_of (v := .ref D) rfl]
  first
    | exact wpAny_pure (wpAny_pure h)
    | exact wpAny_pure h
    | exact wpAny_pure (wpAny_bind (wpAny_pure (wpAny_pure h)))
end
end PySem.W
namespace DL
open PySem PySem.Spec PyProof.Rows L2
theorem kitx_keep {K : PySem.W.Frag} {x D : Addr} {ox : Obj} {od : Option Obj} (C : ExcC K D) : PySem.W.KitX K (.ref x) (.ref D) (fun h => PySem.W.InstAt h x ox D od) where
  ty := fun _ _ _ I => I.type
  it := fun _ _ X _ => by
    obtain ⟨cdD, hcD, _⟩ := PySem.W.any_some C.hd
    unfold PySem.W.clsIn at hcD
    split at hcD
    · rename_i c' d' cd' sl' ho
      intro A' Q' E' s' k q
      unfold isType loadHead
      exact wpAny_bind (wpAny_loadPart (k _ _ (X _ _ ho)) (wpAny_pure q))
    · cases hcD
  ne := (PySem.W.handS_kitx_exc (x := x) (ox := { cls := .ref D, dict := none, data := .fields #[] }) C.hg C.hk C.hs C.hd C.ha C.hn C.ht C.hm).ne
  ca := fun X I k => PySem.W.kin_classO C.hg C.hk C.hs C.hd C.ha C.hn C.ht C.hm X I k
/-- isinstance(e, c), e a kept error -/
def rIsK (K : PySem.W.Frag) : List V → Hp → VK → Prop := fun xs H Q => ∃ (c : V) (cv : Value) (b : Bool) (a D : Addr) (dx : Option Addr), xs = [.ref a, c] ∧ (∀ u, RelV c u → u = cv) ∧ H a = some (exk a D dx) ∧
  (dx = none ∨ ∃ dd fs, dx = some dd ∧ H dd = some (.xd fs)) ∧ ExcC K D ∧ PySem.W.kitOne K (.ref D) cv = some b ∧ Q (.bl b) H
theorem cr_isK {X : Cx} : CallR X (.builtin "isinstance") (rIsK X.K) := by
  intro pins s σ H xs us Q I r h
  obtain ⟨c, cv, b, a, D, dx, rfl, hcv, ea, hd, C, e, q⟩ := h
  cases r with
  | cons rx rr =>
    cases rr with
    | cons rt rr =>
      cases rr
      cases rx
      have ec := hcv _ rt
      subst ec
      obtain ⟨oe, vs, hget, hc, hdi, hf⟩ := exk_at I.hok ea
      have J : ∃ od, PySem.W.InstAt s.heap a oe D od := by
        have hn : PySem.W.notCls oe = true := by unfold PySem.W.notCls; rw [hf] <;> rfl
        rcases hd with rfl | ⟨dd, fs, rfl, ed⟩
        · exact ⟨none, hget, hc, hn, by rw [hdi]; trivial⟩
        · have hx : ObjOk X.prog X.w H s.heap dd (.xd fs) := I.hok dd _ ed
          obtain ⟨mA, hns, _⟩ := hx
          obtain ⟨od, ho, _⟩ := lookIn_ns hns
          exact ⟨some od, hget, hc, hn, by rw [hdi]; exact ho⟩
      obtain ⟨od, J⟩ := J
      exact PySem.W.kia_one (kitx_keep C) I.kIn J e (fun z => nomatch z) fun tk => ⟨.bl b, H, I.kept (t' := tk) fun _ _ z => z, rfl, q⟩
/-- a class by its name -/
def cvOf (ec : EC) (T : String) : Value := if T = "ValueError" then .type T else .ref (ec T)
/-- what tab tells of isinstance -/
def TabI (K : PySem.W.Frag) (ec : EC) (tab : List ((String × String) × Bool)) : Prop := ∀ c T b, tab.lookup (c, T) = some b → PySem.W.nsIn K mainGlobals (PySem.Str.ofString c) = some (some (.ref (ec c))) ∧ ExcC K (ec c) ∧ PySem.W.kitOne K (.ref (ec c)) (cvOf ec T) = some b
section
variable {X : Cx} {ec : EC} {W : WX} {tab : List ((String × String) × Bool)} {i j : Nat} {n y f : Str} {p p1 p2 pos ps : Pos} {T : String}
theorem FldOk.dx {K : PySem.W.Frag} {F H : Hp} (e : Same F H) {dx : Option Addr} : ∀ {o : Option (Str × D)}, FldOk K F dx o → dx = none ∨ ∃ dd fs, dx = some dd ∧ H dd = some (.xd fs)
  | none, h => .inl h
  | some (_, _), ⟨dd, v, q, h1, _⟩ => .inr ⟨dd, _, q, e _ _ h1⟩
theorem de_isE {eT : Expr} {cV : V} (TI : TabI X.K ec tab) (hi : X.N[i]? = some n) (hv : Vis X.env.scope n) (hg : Gl X "isinstance") (hm : X.mg "isinstance" = none) (hT : PE X eT (tC cV)) (hr : ∀ u, RelV cV u → u = cvOf ec T)
    (hd : (n == ("__debug__" : Str)) = false := by decide) (hcd : (n == ("__classdict__" : Str)) = false := by decide)
    (he : starEach [.Name n p1, eT] X.env = (false, eval (.Name n p1) X.env) :: starEach [eT] X.env := by rfl) (he2 : starEach [eT] X.env = (false, eval eT X.env) :: starEach [] X.env := by rfl) (hpl : (backTo pos (starEach [eT] X.env)).any (·.1) = false := by rfl) :
    DE X ec W (.Call (.Name "isinstance" p) [.Name n p1, eT] [] pos) (vIsE tab i T) :=
  peImp (pe_callB cr_isK hg hm boot_isinstance (pa_cons (pe_var hi hv hd hcd) (pa_cons hT pa_nil he2) he) (by decide) (by decide) he hpl) fun σ H Q ⟨r, F, F0, B, S, q⟩ => by
    have q' : Thn X.K ec W (vIsE tab i T r) σ F H fun d F' H' => ∀ v, Rep X.K F' d v → Q v H' := q
    unfold vIsE at q'
    split at q'
    · rename_i c g es
      split at q'
      · rename_i b el
        obtain ⟨z, e1, a, C, dx, e2, h0, h1, h2⟩ := S.ok _ _ es
        subst e2
        obtain ⟨C0, C1, C2⟩ := TI _ _ _ el
        rw [h0] at C0
        cases C0
        have k := Thn.ok S.gr.i q'
        exact ⟨.ref a, e1, ⟨cV, cvOf ec T, b, a, _, dx, rfl, hr, S.gr.i _ _ h1, h2.dx S.gr.i, C1, C2, k _ rfl⟩⟩
      · exact False.elim q'
    · exact False.elim q'
/-- the clauses -/
inductive HdsE (X : Cx) (ec : EC) (W : WX) : List ExceptHandler → List (String × Nat × SX) → Prop
  | nil : HdsE X ec W [] []
  | cons {c : String} {i : Nat} {n : Str} {b₀ : Stmt} {suite : List Stmt} {np pos' : Pos} {hds : List ExceptHandler} {b : SX} {l : List (String × Nat × SX)} (hc : Names X (PySem.Str.ofString c) (.ref (ec c))) (hi : X.N[i]? = some n) (hln : X.env.kindOf n = some .local)
      (hs : ∀ (a : Addr) (pn : List (Addr × Obj)), DSs (X.suite a pn) ec W (b₀ :: suite) b) (r : HdsE X ec W hds l) : HdsE X ec W (.ExceptHandler (some (.Name (PySem.Str.ofString c) np)) (some n) (b₀ :: suite) pos' :: hds) ((c, i, b) :: l)
abbrev hdK (K : PySem.W.Frag) (ec : EC) (W : WX) (l : List (String × Nat × SX)) : List (Value × Nat × TEx) := l.map fun x => (.ref (ec x.1), x.2.1, fun _ _ _ => tS K ec W x.2.2)
theorem aft_gone {K : PySem.W.Frag} {F0 B F : Hp} {o : Option Out} {D : Ends} (h : Aft K ec W F0 B F (unI i o) D) : Aft K ec W F0 B F o (gone i D) := by
  match o with
  | none => exact h
  | some (.nx r) => exact fun σ' F' H' sf S => h (σ'.set i none) F' H' sf S.unset
  | some (.bk r) => exact fun σ' F' H' sf S => h (σ'.set i none) F' H' sf S.unset
  | some (.ct r) => exact fun σ' F' H' sf S => h (σ'.set i none) F' H' sf S.unset
  | some (.rt d) => exact h
  | some (.er e r) => exact False.elim h
  | some (.ro i r) => exact False.elim h
  | some (.ri d r) => exact False.elim h
  | some (.rl xs) => exact False.elim h
/-- where the classes stand -/
def TabG (K : PySem.W.Frag) (ec : EC) (tab : List ((String × String) × Bool)) : Prop := ∀ a c b, tab.lookup (a, c) = some b → PySem.W.nsIn K mainGlobals (PySem.Str.ofString a) = some (some (.ref (ec a)))
end
/-! ### a def of one argument that may be an error -/
def spE (K : PySem.W.Frag) (ec : EC) (g : Slot → R D) : Sp := fun vs H Q E => ∃ s v F B, vs = [v] ∧ Same F H ∧ ((∃ x, s = .d x) ∨ ∃ c f, s = .ex c f) ∧ SlotOk K B H F s (some v) ∧ Thn K ec (fun c d _ H => E c d H) (g s) [] F H fun d F' H' => ∀ v, Rep K F' d v → Q v H'
theorem SlotOk.any {K : PySem.W.Frag} {B B' H H' F : Hp} {s : Slot} {y : Option V} (h : (∃ x, s = .d x) ∨ ∃ c f, s = .ex c f) (k : SlotOk K B H F s y) : SlotOk K B' H' F s y := by
  rcases h with ⟨x, rfl⟩ | ⟨c, f, rfl⟩
  · exact k
  · exact k
structure DOkE (P : Program) (w : World) (K : PySem.W.Frag) (mg : Str → Option Value) (base : Heap) (ec : EC) (x : Str) (ps : List Str) (k p : Nat) (g : Slot → R D) : Prop where
  ex : ∃ (f : Addr) (fd : FuncData), mg x = some (.ref f) ∧ PySem.W.keepIn K (.ref f) = true ∧ Binds K fd ps [] ∧ FnOk P w K mg base (L2.CX P w) k f fd ps (spE K ec g)
section
variable {X : Cx} {ec : EC} {W : WX} {i : Nat} {n : Str} {p p1 pos : Pos}
end
/-! ### told by the heap's own text -/
theorem cv_own {ec : EC} {T : String} (h : T ≠ "ValueError") : ∀ u, RelV (V.ref (ec T)) u → u = cvOf ec T := fun u r => by
  unfold cvOf
  rw [if_neg h]
  exact r
theorem cv_ve {ec : EC} : ∀ u, RelV (V.ty "ValueError") u → u = cvOf ec "ValueError" := fun u r => r
def excB (K : PySem.W.Frag) (D : Addr) : Bool :=
  decide (PySem.W.findIn K (.ref D) "__getattribute__" = some (some (.builtin "BaseException.__getattribute__"))) && (decide (PySem.W.findIn K (.ref D) "__getattr__" = some none) && (decide (PySem.W.subIn K (.ref D) (.type "BaseException") = some true) && (PySem.W.hasDictIn K D &&
  (decide (PySem.W.findIn K (.ref D) "__class__" = some (some (.builtin "object.__class__"))) && (decide (PySem.W.specialIn K (.builtin "object.__class__") "__get__" = some (some (.builtin "getset_descriptor.__get__"))) && (decide (PySem.W.takesIn K (.builtin "object.__class__") = some true) && decide (PySem.W.mroIn K D (.type "object") = some true)))))))
theorem excB_ok {K : PySem.W.Frag} {D : Addr} (h : excB K D = true) : ExcC K D := by
  unfold excB at h
  simp only [Bool.and_eq_true, decide_eq_true_eq] at h
  obtain ⟨h1, h2, h3, h4, h5, h6, h7, h8⟩ := h
  exact ⟨h1, h2, h3, h4, h5, h6, h7, h8⟩
theorem lookup_in {α β : Type} [BEq α] [LawfulBEq α] {k : α} {v : β} : ∀ {l : List (α × β)}, l.lookup k = some v → (k, v) ∈ l
  | [], h => nomatch h
  | (a, b) :: l, h => by
    rw [List.lookup_cons] at h
    split at h
    · rename_i e
      cases h
      rw [beq_iff_eq] at e
      subst e
      exact List.mem_cons_self
    · exact List.mem_cons_of_mem _ (lookup_in h)
def nsB (K : PySem.W.Frag) (ec : EC) (c : String) : Bool := decide (PySem.W.nsIn K mainGlobals (PySem.Str.ofString c) = some (some (.ref (ec c))))
def tabIB (K : PySem.W.Frag) (ec : EC) (tab : List ((String × String) × Bool)) : Bool := tab.all fun x => nsB K ec x.1.1 && (excB K (ec x.1.1) && decide (PySem.W.kitOne K (.ref (ec x.1.1)) (cvOf ec x.1.2) = some x.2))
theorem tabIB_ok {K : PySem.W.Frag} {ec : EC} {tab : List ((String × String) × Bool)} (h : tabIB K ec tab = true) : TabI K ec tab := fun c T b e => by
  have q := List.all_eq_true.mp h _ (lookup_in e)
  unfold nsB at q
  simp only [Bool.and_eq_true, decide_eq_true_eq] at q
  exact ⟨q.1, excB_ok q.2.1, q.2.2⟩
def tabGB (K : PySem.W.Frag) (ec : EC) (tab : List ((String × String) × Bool)) : Bool := tab.all fun x => nsB K ec x.1.1
theorem tabGB_ok {K : PySem.W.Frag} {ec : EC} {tab : List ((String × String) × Bool)} (h : tabGB K ec tab = true) : TabG K ec tab := fun c T b e => by
  have q := List.all_eq_true.mp h _ (lookup_in e)
  unfold nsB at q
  exact of_decide_eq_true q
end DL
namespace DL
open PySem PySem.Spec PyProof.Rows L2
end DL
/-! zip of two lists. -/
namespace DL
open PySem PySem.Spec PyProof.Rows L2
section
variable {X : Cx} {ec : EC} {W : WX} {e e2 : Expr} {pos p tpos : Pos} {elts : List Expr} {kk : Nat} {φ ψ : EX}
end
end DL
set_option maxHeartbeats 1600000
/-! An own error made by a call with a keyword. -/
namespace PySem
namespace HandSPX
open Builtin Builtin.ObjectAttr
open PySem.Spec PyProof.Rows
section
variable {prog : Program} {w : World} {A : Around} {E : Value → Shared → Prop} {R : Result → Shared → Prop} {h : Heap} {g : Array GenState} {d : Drawn} {t : Nat} {os : OsState}
variable {nm q : Str} {C N : Addr} {bs bm bmB : List Value} {hdct : Bool} {sn : List Str} {sub : List Value} {ab : Bool} {col : Option Bool} {dd : Option Addr} {k0 k1 k2 k3 k5 : Option Value} {B newId initId : String} {kw : List (Str × Value)} {rest : List Value}
end
end HandSPX
end PySem
set_option maxHeartbeats 1600000
/-! raise C(f=e), C's own __init__ keeping e as f. -/
namespace DL
open PySem PySem.Spec PyProof.Rows L2
/-- an own class of errors with such an __init__, made by a call with a keyword -/
structure ErrK (P : Program) (w : World) (K : PySem.W.Frag) (mg : Str → Option Value) (base : Heap) (ec : EC) (c : String) (f : Str) : Prop where
  g : mg (PySem.Str.ofString c) = some (.ref (ec c))
  t : OexC K (ec c)
  no : PySem.W.findIn K (.ref (ec c)) f = some none
  i : ∃ (fI : Addr) (fd : FuncData), PySem.W.findIn K (.ref (ec c)) "__init__" = some (some (.ref fI)) ∧ PySem.W.typeIn K (.ref fI) = some (.type "function") ∧ FnOk P w K mg base (L2.CX P w) 1 fI fd ["self", f] (spI K (ec c) f) ∧ ∀ (s : Shared) (a v : Value), BindsTo s fd ⟨[a], [(f, v)]⟩ [("self", a), (f, v)]
end DL
namespace DL
open PySem PySem.Spec PyProof.Rows L2
theorem dss_unk {X : Cx} {ec : EC} {W : WX} {sts : List Stmt} : DSs X ec W sts sUnk := ⟨fun pins s σ H D I q => by
  obtain ⟨r, F, F0, B, S, q⟩ := q
  exact q.elim⟩
/-! lists of a known length -/
theorem pat0 {α : Type} {M : List α → Prop} (h : M []) : ∀ us : List α, us.length = 0 → M us
  | [], _ => h
theorem pat1 {α : Type} {M : List α → Prop} (h : ∀ a0, M [a0]) : ∀ us : List α, us.length = 1 → M us
  | [a0], _ => h a0
theorem pat2 {α : Type} {M : List α → Prop} (h : ∀ a0 a1, M [a0, a1]) : ∀ us : List α, us.length = 2 → M us
  | [a0, a1], _ => h a0 a1
theorem pat3 {α : Type} {M : List α → Prop} (h : ∀ a0 a1 a2, M [a0, a1, a2]) : ∀ us : List α, us.length = 3 → M us
  | [a0, a1, a2], _ => h a0 a1 a2
theorem pat4 {α : Type} {M : List α → Prop} (h : ∀ a0 a1 a2 a3, M [a0, a1, a2, a3]) : ∀ us : List α, us.length = 4 → M us
  | [a0, a1, a2, a3], _ => h a0 a1 a2 a3
end DL
/-! x[:e] where e changes lists; clauses of which the last ones are never reached; isinstance with a tuple of classes. -/
namespace DL
open PySem PySem.Spec PyProof.Rows L2
section
variable {X : Cx} {ec : EC} {W : WX} {e b : Expr} {pos p2 : Pos} {f1 f2 : ES D}
theorem des_cutT (ha : DEs X ec W e f1) (hh : DEs X ec W b f2) : DEs X ec W (.Subscript e (.Slice none (some b) none p2) pos) (wCutT f1 f2) := peImp (pe_slice (sl_list.or sl_tupA) ha po_none (po_some hh)) fun σ H Q ⟨r, F, F0, B, S, q⟩ => by
  refine ⟨r, F, F0, B, S, (ThnS.bind q).imp fun x r1 F1 H1 _ s1 S1 h1 v rv => ⟨r1, F1, F0, B, S1, (ThnS.bind h1).imp fun y r2 F2 H2 _ s2 S2 h2 u ru => ?_⟩⟩
  cases y with
  | int j =>
    refine ⟨j, ru, ?_⟩
    obtain ⟨d, ed, k⟩ := (h2.up S2).po
    have rv3 := (rv.mono s2).x S2.sub
    unfold dCut at ed
    split at ed
    · cases ed
      obtain ⟨a, vs, rfl, h4, h5⟩ := rv3
      refine .inl ⟨a, vs, rfl, h4, fun p hp => ?_⟩
      have g' := Gr.new S2.sub hp (.lst (cutV vs none (some j)))
      exact k _ _ g' _ ⟨p, _, rfl, .inl (.inl upd_same), (h5.cut none (some j)).mono g'.f⟩
    · rename_i xs _
      cases ed
      obtain ⟨a, vs, rfl, h4, h5⟩ := rv3
      refine .inr ⟨a, vs, rfl, tupT S2.sub h4, fun z => ?_, fun _ p hp => ?_⟩
      · have e1 : cutV vs none (some j) = vs := by
          unfold cutV
          rw [z.1, z.2, List.drop_zero, Nat.sub_zero, List.take_length]
        have e2 : cutD xs none (some j) = xs := by
          unfold cutD
          rw [cutAt_sIx, cutAt_sIx, ← h5.length, z.1, z.2, List.drop_zero, Nat.sub_zero, h5.length, List.take_length]
        rw [e2] at k
        exact k F2 H2 (Gr.refl S2.sub) _ ⟨a, vs, rfl, h4, h5⟩
      · have g' := Gr.new S2.sub hp (.tup (cutV vs none (some j)))
        exact k _ _ g' _ ⟨p, _, rfl, upd_same, (h5.cut none (some j)).mono g'.f⟩
    · cases ed
  | _ => exact False.elim h2
end
/-! ### clauses of which the last ones are never reached -/
section
variable {X : Cx} {ec : EC} {W : WX} {tab : List ((String × String) × Bool)} {pos : Pos}
inductive HdsES (X : Cx) (ec : EC) (W : WX) : List ExceptHandler → List (String × Nat × SX) → Prop
  | stop {hds : List ExceptHandler} : HdsES X ec W hds []
  | cons {c : String} {i : Nat} {n : Str} {b₀ : Stmt} {suite : List Stmt} {np pos' : Pos} {hds : List ExceptHandler} {b : SX} {l : List (String × Nat × SX)} (hc : Names X (PySem.Str.ofString c) (.ref (ec c))) (hi : X.N[i]? = some n) (hln : X.env.kindOf n = some .local)
      (hs : ∀ (a : Addr) (pn : List (Addr × Obj)), DSs (X.suite a pn) ec W (b₀ :: suite) b) (r : HdsES X ec W hds l) : HdsES X ec W (.ExceptHandler (some (.Name (PySem.Str.ofString c) np)) (some n) (b₀ :: suite) pos' :: hds) ((c, i, b) :: l)
theorem hdsES_ok {hds : List ExceptHandler} {l : List (String × Nat × SX)} (h : HdsES X ec W hds l) : HdsK X W (fun _ _ _ _ => False) hds (hdK X.K ec W l) := by
  induction h with
  | stop => exact .stop
  | cons hc hi hln hs r ih => exact .cons hc hi hln (fun a cls d pn => hs a pn) ih
theorem pick_useS (T : TabT X.K ec tab) (TG : TabG X.K ec tab) {e : Err} {r : DL.Env} {F0 B F : Hp} {D : Ends} : ∀ {l : List (String × Nat × SX)}, Aft X.K ec W F0 B F (pickS tab e r l) D →
    ∀ dx σ' F' H', Same F F' → SR X.K F0 B r σ' H' F' → ErrOk X.K F' H' e dx → wKeep X.K (fun _ _ _ _ => False) D (hdK X.K ec W l) (.ref (ec e.cls)) dx σ' H'
  | [], q, dx, σ', F', H', sf, S, he => False.elim q
  | (c, i, b) :: l, q, dx, σ', F', H', sf, S, he => by
    unfold pickS at q
    cases hl : tab.lookup (e.cls, c) with
    | none => rw [hl] at q; exact False.elim q
    | some k =>
      rw [hl] at q
      refine ⟨k, T _ _ _ hl, fun hk => ⟨ec e.cls, rfl, fun a ha => ?_⟩, fun hk => ?_⟩
      · subst hk
        dsimp only at q
        split at q
        · have g := Gr.new S.gr.i ha (exk a (ec e.cls) dx)
          have hf : FldOk X.K F' dx e.fld := by
            unfold ErrOk at he
            cases hq : e.fld with
            | none => rw [hq] at he; exact he
            | some o => rw [hq] at he; exact he
          exact ⟨r.set i (.ex e.cls e.fld), upd F' a (exk a (ec e.cls) dx), F0, B, S.put g (i := i) (s := .ex e.cls e.fld) ⟨a, ec e.cls, dx, rfl, TG _ _ _ hl, upd_same, hf.mono g.f⟩ (fun _ f => False.elim f) (fun _ z => nomatch z), aft_gone (Aft.mono (sf.trans g.f) q)⟩
        · exact False.elim q
      · subst hk
        exact pick_useS T TG (Aft.mono sf q) dx σ' F' H' (Same.refl _) S he
theorem ds_tryES {body : List Stmt} {h₀ : ExceptHandler} {hds : List ExceptHandler} {a : SX} {l : List (String × Nat × SX)} (hs : X.stack = X.env :: X.outer) (hf : X.env.frame = some X.env.locals) (hN : X.N.Nodup) (tk : Takes X W) (T : TabT X.K ec tab) (TG : TabG X.K ec tab)
    (hb : ∀ (W' : WX) (pn : List (Addr × Obj)) (xe : Value → Shared → Prop), Takes (X.tr pn xe) W' → PassesOwn (model X.prog X.w) X.A X.env xe → DSs (X.tr pn xe) ec W' body a) (hh : HdsES X ec W (h₀ :: hds) l) :
    DS X ec W (.Try body (h₀ :: hds) [] [] pos) (sTryES tab a l) := psImp (ps_try_keep hs hf hN tk (tb := fun W' => tS X.K ec W' a) hb (hdsES_ok hh)) fun D σ H ⟨r, F, F0, B, S, q⟩ => by
  refine ⟨r, F, F0, B, S, ?_⟩
  have q' : Aft X.K ec W F0 B F (match a r with | some (.er e r1) => pickS tab e r1 l | o => o) D := q
  revert q'
  match a r with
  | none => exact fun z => z
  | some (.nx r1) => exact fun z => z
  | some (.bk r1) => exact fun z => z
  | some (.ct r1) => exact fun z => z
  | some (.ro i r1) => exact fun z => z
  | some (.ri d r1) => exact fun z => z
  | some (.rl xs) => exact fun z => z
  | some (.rt d) => exact fun z => z
  | some (.er e r1) => exact fun z => pick_useS T TG z
end
/-! ### isinstance(e, (A, B, ..)), e a kept error -/
def rIsKT (K : PySem.W.Frag) : List V → Hp → VK → Prop := fun xs H Q => ∃ (tp : Addr) (cs : List V) (us : List Value) (b : Bool) (a D : Addr) (dx : Option Addr), xs = [.ref a, .ref tp] ∧ H tp = some (.tup cs) ∧ Paired ClsV cs us ∧ H a = some (exk a D dx) ∧
  (dx = none ∨ ∃ dd fs, dx = some dd ∧ H dd = some (.xd fs)) ∧ ExcC K D ∧ PySem.W.kitAny K (.ref D) us = some b ∧ Q (.bl b) H
theorem cr_isKT {X : Cx} : CallR X (.builtin "isinstance") (rIsKT X.K) := by
  intro pins s σ H xs us Q I r h
  obtain ⟨tp, cs, ws, b, a, D, dx, rfl, hT, hcs, ea, hd, C, e, q⟩ := h
  cases r with
  | cons rx rr =>
    cases rr with
    | cons rt rr =>
      cases rr
      cases rx
      cases (show _ = Value.ref tp from rt)
      obtain ⟨_, its, rv, o, h1, h2, n, h3⟩ := (show ObjOk X.prog X.w H s.heap tp (.tup cs) from I.hok tp _ hT)
      have e3 := ClsV.all hcs rv
      subst e3
      obtain ⟨oc, od, dt, sl⟩ := o
      simp only at h2 h3
      subst h2 h3
      obtain ⟨oe, vs, hget, hc, hdi, hf⟩ := exk_at I.hok ea
      have J : ∃ od, PySem.W.InstAt s.heap a oe D od := by
        have hn : PySem.W.notCls oe = true := by unfold PySem.W.notCls; rw [hf] <;> rfl
        rcases hd with rfl | ⟨dd, fs, rfl, ed⟩
        · exact ⟨none, hget, hc, hn, by rw [hdi]; trivial⟩
        · have hx : ObjOk X.prog X.w H s.heap dd (.xd fs) := I.hok dd _ ed
          obtain ⟨mA, hns, _⟩ := hx
          obtain ⟨od, ho, _⟩ := lookIn_ns hns
          exact ⟨some od, hget, hc, hn, by rw [hdi]; exact ho⟩
      obtain ⟨od, J⟩ := J
      exact PySem.W.kia_tup (kitx_keep C) I.kIn J h1 e (fun z => nomatch z) fun tk => ⟨.bl b, H, I.kept (t' := tk) fun _ _ z => z, rfl, q⟩
section
variable {X : Cx} {ec : EC} {W : WX} {tab : List ((String × String) × Bool)} {i : Nat} {n : Str} {p p1 pos ptp : Pos} {Ts : List String} {es : List Expr} {x1 : Nat}
theorem any_kit (TI : TabI X.K ec tab) {c : String} : ∀ {Ts : List String} {b : Bool}, anyTab tab c Ts = some b → (∀ T ∈ Ts, T ≠ "ValueError") → PySem.W.kitAny X.K (.ref (ec c)) (Ts.map fun T => Value.ref (ec T)) = some b
  | [], b, h, _ => by
    cases h
    rfl
  | T :: Ts, b, h, hn => by
    have hT : cvOf ec T = .ref (ec T) := by
      unfold cvOf
      rw [if_neg (hn T List.mem_cons_self)]
    unfold anyTab at h
    cases hl : tab.lookup (c, T) with
    | none => rw [hl] at h; cases h
    | some k =>
      rw [hl] at h
      have kk := (TI _ _ _ hl).2.2
      rw [hT] at kk
      cases k with
      | true =>
        cases h
        exact kitAny_cons kk (fun z => nomatch z) fun _ => rfl
      | false => exact kitAny_cons kk (fun _ => any_kit TI h fun S hS => hn S (List.mem_cons_of_mem _ hS)) (fun z => nomatch z)
theorem cls_all {ec : EC} : ∀ Ts : List String, Paired ClsV (Ts.map fun T => V.ref (ec T)) (Ts.map fun T => Value.ref (ec T))
  | [] => .nil
  | T :: Ts => .cons (.own _) (cls_all Ts)
inductive CNs (X : Cx) (ec : EC) : List Expr → List String → Prop
  | nil : CNs X ec [] []
  | cons {e : Expr} {es : List Expr} {T : String} {Ts : List String} (h : PE X e (tC (V.ref (ec T)))) (r : CNs X ec es Ts) (hs : starEach (e :: es) X.env = (false, eval e X.env) :: starEach es X.env := by rfl) : CNs X ec (e :: es) (T :: Ts)
theorem CNs.pa {es : List Expr} {Ts : List String} (h : CNs X ec es Ts) : PA X es (fun _ H Q => Q (Ts.map fun T => V.ref (ec T)) H) := by
  induction h with
  | nil => exact pa_nil
  | cons h r hs ih => exact paImp (pa_cons h ih hs) fun σ H Q q => q
theorem de_isEs (TI : TabI X.K ec tab) (hi : X.N[i]? = some n) (hv : Vis X.env.scope n) (hg : Gl X "isinstance") (hm : X.mg "isinstance" = none) (hne : Ts ≠ []) (hn : ∀ T ∈ Ts, T ≠ "ValueError") (hl : Ts.length ≤ 100)
    (hT : CNs X ec es Ts)
    (hd : (n == ("__debug__" : Str)) = false := by decide) (hcd : (n == ("__classdict__" : Str)) = false := by decide)
    (he : starEach [.Name n p1, .Tuple es x1 ptp] X.env = (false, eval (.Name n p1) X.env) :: starEach [.Tuple es x1 ptp] X.env := by rfl) (he2 : starEach [.Tuple es x1 ptp] X.env = (false, eval (.Tuple es x1 ptp) X.env) :: starEach [] X.env := by rfl) (hpl : (backTo pos (starEach [.Tuple es x1 ptp] X.env)).any (·.1) = false := by rfl) :
    DE X ec W (.Call (.Name "isinstance" p) [.Name n p1, .Tuple es x1 ptp] [] pos) (vIsEs tab i Ts) :=
  peImp (pe_callB cr_isKT hg hm boot_isinstance (pa_cons (pe_var hi hv hd hcd) (pa_cons (pe_tup hT.pa) pa_nil he2) he) (by decide) (by decide) he hpl) fun σ H Q ⟨r, F, F0, B, S, q⟩ => by
    have q' : Thn X.K ec W (vIsEs tab i Ts r) σ F H fun d F' H' => ∀ v, Rep X.K F' d v → Q v H' := q
    unfold vIsEs at q'
    split at q'
    · rename_i c g es'
      split at q'
      · rename_i b el
        obtain ⟨z, e1, a, C, dx, e2, h0, h1, h2⟩ := S.ok _ _ es'
        subst e2
        cases Ts with
        | nil => exact absurd rfl hne
        | cons T Ts =>
          have ek := any_kit TI el hn
          have C1 : ExcC X.K (ec c) ∧ PySem.W.nsIn X.K mainGlobals (PySem.Str.ofString c) = some (some (.ref (ec c))) := by
            unfold anyTab at el
            cases hl : tab.lookup (c, T) with
            | none => rw [hl] at el; cases el
            | some k => exact ⟨(TI _ _ _ hl).2.1, (TI _ _ _ hl).1⟩
          obtain ⟨C1, C0⟩ := C1
          rw [h0] at C0
          cases C0
          refine ⟨.ref a, e1, Nat.le_trans (by rw [List.length_map]; exact hl) (by rw [sizeLine_eq]; decide), fun tp htp => ?_⟩
          have g' := Gr.new S.gr.i htp (.tup ((T :: Ts).map fun T => V.ref (ec T)))
          have ha : H a = some (exk a _ dx) := S.gr.i _ _ h1
          have hd2 := h2.dx S.gr.i
          refine ⟨tp, _, _, b, a, _, dx, rfl, upd_same, cls_all _, g'.h _ _ ha, ?_, C1, ek, q' _ _ g' _ rfl⟩
          rcases hd2 with h | ⟨dd, fs, h, k⟩
          · exact .inl h
          · exact .inr ⟨dd, fs, h, g'.h _ _ k⟩
      · exact False.elim q'
    · exact False.elim q'
end
/-! ### f() -/
section
variable {X : Cx} {ec : EC} {W : WX} {pos p : Pos}
theorem de_call0 {j k n : Nat} {ps : List Str} {g : List D → R D} {x : Str} (G : DOk X.prog X.w X.K X.mg X.base ec x ps j n g) (hr : Room k X.A) (tk : Takes X W) (hjk : j ≤ k) (hg : Gl X x) (hn : n = 0 := by rfl) (hdb : (x == ("__debug__" : Str)) = false := by decide) :
    DE X ec W (.Call (.Name x p) [] [] pos) (vCall g []) := by
  obtain ⟨f, fd, h1, h2, h3, h4, _⟩ := G.ex
  have pe : PE X (.Call (.Name x p) [] [] pos) (tCallS (spD X.K ec n g) (WE W) tNil) := by
    refine ⟨fun pins s σ H Q I h => ?_⟩
    refine wpAny_Call_Name_kw (ld_glob I hg h1 ?_ hdb)
    exact PySem.W.callWith_K0 I.kIn h2 (run_fnS h4 (hr.mono hjk) h3 (passAt tk σ) I .nil h)
  refine peImp pe fun σ H Q ⟨r, F, F0, B, S, q⟩ => ⟨[], F, hn.symm, S.sub, rfl, ?_⟩
  have q' : Thn X.K ec W (g []) σ F H fun d F' H' => ∀ v, Rep X.K F' d v → Q v H' := q
  revert q'
  match g [] with
  | none => exact fun z => z
  | some (.error _) => exact fun z => z
  | some (.ok k) => exact fun z => z
end
end DL
/-! A list made of another: i = list(j), and i != j while both stay. -/
namespace DL
open PySem PySem.Spec PyProof.Rows L2

theorem Rep.okV {K : PySem.W.Frag} {F : Hp} : ∀ {d : D} {v : V}, Rep K F d v → okV v
  | .none, _, h => by have h : _ = V.non := h; rw [h]; trivial
  | .bool b, _, h => by have h : _ = V.bl b := h; rw [h]; trivial
  | .int i, _, h => by have h : _ = V.int i := h; rw [h]; trivial
  | .str x, _, h => by have h : _ = V.str x := h; rw [h]; trivial
  | .list ds, _, ⟨a, vs, q, _⟩ => by rw [q]; trivial
  | .tuple ds, _, ⟨a, vs, q, _⟩ => by rw [q]; trivial
  | .dict _, _, ⟨a, q, _⟩ => by rw [q]; trivial
theorem RepL.okV {K : PySem.W.Frag} {F : Hp} : ∀ {ds : List D} {vs : List V}, RepL K F ds vs → ∀ v ∈ vs, DL.okV v
  | [], vs, h, v, hv => by
    have h : vs = [] := h
    rw [h] at hv
    cases hv
  | d :: ds, _, ⟨u, r, q, h1, h2⟩, v, hv => by
    rw [q] at hv
    rcases List.mem_cons.mp hv with rfl | hv
    · exact h1.okV
    · exact RepL.okV h2 v hv
section
variable {X : Cx} {ec : EC} {W : WX}
end
end DL
/-! [e for .. in .. for .. in ..] -/
namespace DL
open PySem PySem.Spec PyProof.Rows L2
section
variable {X : Cx} {ec : EC} {W : WX} {elt tg iter tg1 iter1 : Expr} {ifs1 : List Expr} {scope : Scope} {own : List (Str × Nat)} {pos : Pos} {ι ι1 : EL} {g g1 : Tg} {β1 : EB} {φ : EX}
end
end DL
/-! Lists of own lists: made, read, changed. -/
namespace DL
open PySem PySem.Spec PyProof.Rows L2
theorem SR.frz {K : PySem.W.Frag} {F0 B : Hp} {r : Env} {σ : L2.St} {H F : Hp} (S : SR K F0 B r σ H F) (i : Nat) : ∃ F', Same F F' ∧ SR K F0 B (DL.frz i r) σ H F' := by
  unfold DL.frz
  split
  · rename_i xs hx
    exact S.freeze hx
  · rename_i xss hx
    exact S.freezeN hx
  · rename_i kvs hx
    exact S.freezeD hx
  · exact ⟨F, Same.refl _, S⟩
section
variable {X : Cx} {ec : EC} {W : WX} {e : Expr} {pos : Pos} {φ ψ χ : EX} {ι ε : EL} {β : EB}
end
end DL
/-! Dicts whose keys are tuples of ints: made, read, changed. -/
namespace DL
open PySem PySem.Spec PyProof.Rows L2
abbrev kk (k : List Int) : List Key := k.map Sum.inl
section
variable {X : Cx} {ec : EC} {W : WX} {e : Expr} {pos : Pos} {φ κ : EX}
end
section
variable {X : Cx} {ec : EC} {W : WX} {e : Expr} {pos : Pos} {φ κ : EX}
end
end DL
/-! Dict comprehensions whose keys are tuples. -/
namespace DL
open PySem PySem.Spec PyProof.Rows L2
section
variable {X : Cx}
end
section
variable {X : Cx} {ec : EC} {W : WX} {kx vx tg iter : Expr} {ifs : List Expr} {scope : Scope} {own : List (Str × Nat)} {pos : Pos} {ι : EL} {g : Tg} {β : EB} {κ φ : EX}
end
end DL
/-! sorted(set(..)) of whole numbers. -/
namespace DL
open PySem PySem.Spec PyProof.Rows L2
section
variable {P : Program} {w : World} {A : Around} {E : Value → Shared → Prop}
end
section
variable {X : Cx} {ec : EC} {W : WX} {e : Expr} {pos p p2 q2 : Pos} {φ : EX}
end
end DL
/-! Comprehensions of any number of clauses. -/
namespace DL
open PySem PySem.Spec PyProof.Rows L2
structure CompE (E : Expr) (gens : List Comprehension) (emit : Value → PySem.Env → Sem Unit) : Prop where
  quiet : ∀ k it acc env, (Code.compLoop E k it acc env).quiet = true
  under : ∀ (A : Around) k it acc env, A.under (Code.compLoop E k it acc env) = A
  den : ∀ (prog : Program) (w : World) k it acc env, (model prog w).den (Code.compLoop E k it acc env) = (compTurn E k it acc env).onRaise (fun x => do noteFrame x env; theTreesLotGoes x)
  last : ∀ {k t i ifs}, gens[k]? = some ⟨t, i, ifs, 0⟩ → gens[k + 1]? = none → ∀ it acc env, compTurn E k it acc env = (do
      standAt i.pos
      match ← pyNext it with
      | none => pure (.done .next)
      | some v =>
        letOwnedTupleGo t it v
        assign t env v
        let mut ok := true
        for c in ifs do
          if ok then ok ← isTrue c env (eval c env)
        if ok then
          emit acc env
        again (.compLoop E k it acc env))
  mid : ∀ {k t i ifs t1 i1 ifs1}, gens[k]? = some ⟨t, i, ifs, 0⟩ → gens[k + 1]? = some ⟨t1, i1, ifs1, 0⟩ → ∀ it acc env, compTurn E k it acc env = (do
      standAt i.pos
      match ← pyNext it with
      | none => pure (.done .next)
      | some v =>
        letOwnedTupleGo t it v
        assign t env v
        let mut ok := true
        for c in ifs do
          if ok then ok ← isTrue c env (eval c env)
        if ok then
          let x ← eval i1 env
          standAt i1.pos
          let x ← foldedSetIterable i1 env x
          let _ ← runOwn (.compStart E (k + 1) (← holding [x] (pyIter x)) acc env) env
        again (.compLoop E k it acc env))
  start : ∀ {prog : Program} {w : World} {A : Around} {R : Result → Shared → Prop} {s : Shared} {k : Nat} {t i : Expr} {ifs : List Expr} {it acc : Value} {env : PySem.Env}, gens[k]? = some ⟨t, i, ifs, 0⟩ → codeAny (model prog w) A (.compLoop E k it acc env) R s →
      wpAny (model prog w) A (pyIter it) (fun it' s' => codeAny (model prog w) A (.compLoop E k it' acc env) R s') (notedBy (model prog w) A env fun x s' => R (.error x) s') s → codeAny (model prog w) A (.compStart E k it acc env) R s
section
variable {prog : Program} {w : World} {A : Around} {R : Result → Shared → Prop} {s : Shared} {E : Expr} {gens : List Comprehension} {emit : Value → PySem.Env → Sem Unit} {k : Nat} {t i t1 i1 : Expr} {ifs ifs1 : List Expr} {it acc : Value} {env : PySem.Env}
end
/-! ### the clauses behind the first one -/
/-- a clause: what it walks, where it puts, its tests, its names and those of the ones behind it -/
structure Cl where
  wi : TI
  g : TG
  tt : TT
  vs : List Nat
abbrev TW := L2.St → Hp → (Hp → Prop) → Prop
inductive ClsOk (Y : Cx) : List Comprehension → List Cl → Prop
  | nil : ClsOk Y [] []
  | cons {tg iter : Expr} {ifs : List Expr} {gs : List Comprehension} {c : Cl} {cs : List Cl} (hi : PI Y tg iter c.wi) (hg : PG Y tg c.g) (ht : PTs Y ifs c.tt) (hs : ∀ env x, foldedSetIterable iter env x = pure x) (hv : ∀ d ∈ cs, ∀ j ∈ d.vs, j ∈ c.vs) (r : ClsOk Y gs cs) :
      ClsOk Y (⟨tg, iter, ifs, 0⟩ :: gs) (c :: cs)
section
variable {X : Cx} {s0 : Shared} {H0 : Hp} {scope : Scope} {ce : PySem.Env} {fp0 : List Addr} {E : Expr} {gens : List Comprehension} {emit : Value → PySem.Env → Sem Unit} {acc : Value} {el : TW}
end

section
variable {X : Cx}
end

section
variable {X : Cx}
/-- the clauses in any block -/
abbrev ClsB (X : Cx) (scope : Scope) (gs : List Comprehension) (cs : List Cl) : Prop := ∀ (s : Shared) (H : Hp) (C : Addr) (cl : List (Str × Addr)) (fp : List Addr), ClsOk (X.blk s H scope (compEnvC scope cl C X.env) fp) gs cs
end
end DL
/-! Comprehensions of any number of clauses: by data. -/
namespace DL
open PySem PySem.Spec PyProof.Rows L2
section
variable {K : PySem.W.Frag} {ec : EC} {D : Addr} {α : Type} {emit : DL.Env → α → R α} {el : TW} {AccR : Hp → α → HO → Prop} {F0 B : Hp}
/-- the clauses by data -/
def clsOf (K : PySem.W.Frag) (ec : EC) : List Gn → List Cl
  | [] => []
  | (ι, g, β) :: gs => ⟨tI K ec W0 ι, tgT K g, tT K ec W0 β, g.slots ++ sufS gs⟩ :: clsOf K ec gs
/-- what an item does, by data -/
structure ElOk (K : PySem.W.Frag) (F0 B : Hp) (D : Addr) (emit : DL.Env → α → R α) (AccR : Hp → α → HO → Prop) (el : TW) : Prop where
  run : ∀ {r : DL.Env} {a a' : α} {σ : L2.St} {F H : Hp} {Nx : Hp → Prop} {o : HO}, SR K F0 B r σ H F → SR K F0 B r σ (DL.del H D) F → emit r a = ok a' → H D = some o → AccR F a o → F D = none →
  (∀ F' H' o', Gr F (DL.del H D) F' (DL.del H' D) → H' D = some o' → AccR F' a' o' → Nx H') → el σ H Nx
end
section
variable {X : Cx} {ec : EC} {W : WX} {elt kx vx tg iter : Expr} {ifs : List Expr} {gs : List Comprehension} {scope : Scope} {own : List (Str × Nat)} {pos : Pos} {ι : EL} {g : Tg} {β : EB} {κ φ : EX} {gn : List Gn}
/-- the clauses behind the first one -/
inductive GnB (X : Cx) (ec : EC) (scope : Scope) : List Comprehension → List Gn → Prop
  | nil : GnB X ec scope [] []
  | cons {tg iter : Expr} {ifs : List Expr} {gs : List Comprehension} {ι : EL} {g : Tg} {β : EB} {gn : List Gn}
      (hi : ∀ (s : Shared) (H : Hp) (C : Addr) (cl : List (Str × Addr)) (fp : List Addr), PI (X.blk s H scope (compEnvC scope cl C X.env) fp) tg iter (tI X.K ec W0 ι))
      (hg : ∀ (s : Shared) (H : Hp) (C : Addr) (cl : List (Str × Addr)) (fp : List Addr), PG (X.blk s H scope (compEnvC scope cl C X.env) fp) tg (tgT X.K g))
      (ht : ∀ (s : Shared) (H : Hp) (C : Addr) (cl : List (Str × Addr)) (fp : List Addr), PTs (X.blk s H scope (compEnvC scope cl C X.env) fp) ifs (tT X.K ec W0 β))
      (r : GnB X ec scope gs gn) (hs : ∀ env x, foldedSetIterable iter env x = pure x := by intro _ _; rfl) : GnB X ec scope (⟨tg, iter, ifs, 0⟩ :: gs) ((ι, g, β) :: gn)
theorem sufS_in : ∀ {gs : List Gn} {d : Cl} {K : PySem.W.Frag} {ec : EC}, d ∈ clsOf K ec gs → ∀ j ∈ d.vs, j ∈ sufS gs
  | [], _, _, _, h => nomatch h
  | (ι, g, β) :: gs, d, K, ec, h => fun j hj => by
    show j ∈ g.slots ++ sufS gs
    rcases List.mem_cons.mp h with e | h
    · rw [e] at hj
      exact hj
    · exact List.mem_append_right _ (sufS_in h j hj)
theorem GnB.cls (h : GnB X ec scope gs gn) : ClsB X scope gs (clsOf X.K ec gn) := fun s H C cl fp => by
  induction h with
  | nil => exact .nil
  | cons hi hg ht r hs ih => exact .cons (hi s H C cl fp) (hg s H C cl fp) (ht s H C cl fp) hs (fun d hd j hj => List.mem_append_right _ (sufS_in hd j hj)) ih
end
end DL
/-! Dicts as data: locked while they are walked. -/
namespace DL
open PySem PySem.Spec PyProof.Rows L2
section
variable {K : PySem.W.Frag} {F F' B B' H H' F0 : Hp}
def isD0 : HO → Bool
  | .dT _ => true
  | .dK _ => true
  | _ => false
/-- the same, but that dicts may be locked or free -/
def Lk (F F' : Hp) : Prop := ∀ a u, F a = some u → F' a = some u ∨ (∃ o, isD0 u = true ∧ F' a = some (.frz o u)) ∨ ∃ o w, isD0 w = true ∧ u = .frz o w ∧ F' a = some w
theorem Lk.ne (k : Lk F F') {a : Addr} {u : HO} (h : F a = some u) (h1 : isD0 u = false) (h2 : ∀ o w, isD0 w = true → u ≠ .frz o w) : F' a = some u := by
  rcases k a u h with e | ⟨o, i, _⟩ | ⟨o, w, i, e, _⟩
  · exact e
  · rw [h1] at i; cases i
  · exact absurd e (h2 o w i)
theorem Lk.rd (k : Lk F F') {a : Addr} {u : HO} (h : Rd F a u) (hu : isD0 u = true := by rfl) : Rd F' a u := by
  rcases h with h | ⟨o, h⟩
  · rcases k a _ h with e | ⟨o', _, q⟩ | ⟨o', w, i, e, q⟩
    · exact .inl e
    · exact .inr ⟨o', q⟩
    · subst e; cases hu
  · rcases k a _ h with e | ⟨o', i, q⟩ | ⟨o', w, i, e, q⟩
    · exact .inr ⟨o, e⟩
    · cases i
    · cases e; exact .inl q
theorem Lk.seq (k : Lk F F') {a : Addr} {vs : List V} (h : SqL K F a vs) : SqL K F' a vs := by
  rcases h with (h | ⟨o, h⟩) | h
  · exact .inl (.inl (k.ne h rfl fun _ _ _ z => nomatch z))
  · exact .inl (.inr ⟨o, k.ne h rfl fun _ _ i z => by cases z; cases i⟩)
  · exact .inr h
mutual
theorem Rep.lk (k : Lk F F') : ∀ {d : D} {v : V}, Rep K F d v → Rep K F' d v
  | .none, _, h => h
  | .bool _, _, h => h
  | .int _, _, h => h
  | .str _, _, h => h
  | .list ds, _, ⟨a, vs, q, h1, h2⟩ => ⟨a, vs, q, k.seq h1, RepL.lk k h2⟩
  | .tuple ds, _, ⟨a, vs, q, h1, h2⟩ => ⟨a, vs, q, k.ne h1 rfl (fun _ _ _ z => nomatch z), RepL.lk k h2⟩
  | .dict _, _, ⟨a, q, .inl ⟨n, ks, h, p⟩⟩ => ⟨a, q, .inl ⟨n, ks, k.rd h, RepIV.lk k p⟩⟩
  | .dict _, _, ⟨a, q, .inr ⟨ks, h, p⟩⟩ => ⟨a, q, .inr ⟨ks, k.rd h, RepKV.lk k p⟩⟩
theorem RepL.lk (k : Lk F F') : ∀ {ds : List D} {vs : List V}, RepL K F ds vs → RepL K F' ds vs
  | [], _, h => h
  | _ :: _, _, ⟨v, r, q, h1, h2⟩ => ⟨v, r, q, Rep.lk k h1, RepL.lk k h2⟩
theorem RepKV.lk (k : Lk F F') : ∀ {kvs : List (D × D)} {ks : List (List Key × V)}, RepKV K F kvs ks → RepKV K F' kvs ks
  | [], _, h => h
  | (_, _) :: _, _, ⟨j, v, r, q1, q2, h1, h2⟩ => ⟨j, v, r, q1, q2, Rep.lk k h1, RepKV.lk k h2⟩
theorem RepIV.lk (k : Lk F F') : ∀ {kvs : List (D × D)} {ks : List (Key × V)}, RepIV K F kvs ks → RepIV K F' kvs ks
  | [], _, h => h
  | (_, _) :: _, _, ⟨j, v, r, q1, q2, h1, h2⟩ => ⟨j, v, r, q1, q2, Rep.lk k h1, RepIV.lk k h2⟩
end
theorem RepP.lk (k : Lk F F') : ∀ {kvs : List (List Int × D)} {ks : List (List Key × V)}, RepP K F kvs ks → RepP K F' kvs ks
  | [], _, h => h
  | (_, _) :: _, _, ⟨v, r, q, h1, h2⟩ => ⟨v, r, q, h1.lk k, RepP.lk k h2⟩
theorem NestOk.lk {d : Addr} (hF : ∀ a, a ≠ d → F' a = F a) (hH : ∀ a, a ≠ d → H' a = H a) (hB : ∀ a, a ≠ d → B' a = B a) (k : Lk F F') (dF : F d ≠ none) : ∀ {xss : List (List D)} {vs : List V}, NestOk K B H F xss vs → NestOk K B' H' F' xss vs
  | [], _, h => h
  | _ :: _, _, ⟨b, us, r, q, h1, h2, h3, h4, h5, h6⟩ =>
    have n : b ≠ d := fun z => dF (z ▸ h2)
    ⟨b, us, r, q, (hH b n).trans h1, (hF b n).trans h2, (hB b n).trans h3, h4.lk k, h5, NestOk.lk hF hH hB k dF h6⟩
theorem FldOk.lk (k : Lk F F') {dx : Option Addr} : ∀ {o : Option (Str × D)}, FldOk K F dx o → FldOk K F' dx o
  | none, h => h
  | some (f, x), ⟨dd, v, q, h1, h2⟩ => ⟨dd, v, q, k.ne h1 rfl (fun _ _ _ z => nomatch z), h2.lk k⟩
theorem SlotOk.lk {d : Addr} (hF : ∀ a, a ≠ d → F' a = F a) (hH : ∀ a, a ≠ d → H' a = H a) (hB : ∀ a, a ≠ d → B' a = B a) (k : Lk F F') (dF : F d ≠ none) : ∀ {s : Slot} {y : Option V}, SlotOk K B H F s y → SlotOk K B' H' F' s y
  | .un, _, h => trivial
  | .d _, _, ⟨v, q, h⟩ => ⟨v, q, h.lk k⟩
  | .tg _, _, ⟨v, q, h⟩ => ⟨v, q, h.lk k⟩
  | .own _, _, ⟨a, vs, q, h1, h2, h3, h4⟩ =>
    have n : a ≠ d := fun z => dF (z ▸ h2)
    ⟨a, vs, q, (hH a n).trans h1, (hF a n).trans h2, (hB a n).trans h3, h4.lk k⟩
  | .nest _, _, ⟨a, vs, q, h1, h2, h3, h4, h5⟩ =>
    have n : a ≠ d := fun z => dF (z ▸ h2)
    ⟨a, vs, q, (hH a n).trans h1, (hF a n).trans h2, (hB a n).trans h3, h4, h5.lk hF hH hB k dF⟩
  | .dct _, _, ⟨a, ks, q, h1, h2, h3, h4⟩ =>
    have n : a ≠ d := fun z => dF (z ▸ h2)
    ⟨a, ks, q, (hH a n).trans h1, (hF a n).trans h2, (hB a n).trans h3, h4.lk k⟩
  | .io a _, _, ⟨vs, q, h1, h2, h3, h4⟩ =>
    have n : a ≠ d := fun z => dF (z ▸ h2)
    ⟨vs, q, (hH a n).trans h1, (hF a n).trans h2, (hB a n).trans h3, h4.lk k⟩
  | .ex _ _, _, ⟨a, C, dx, q, h0, h1, h2⟩ => ⟨a, C, dx, q, h0, k.ne h1 rfl (fun _ _ _ z => nomatch z), h2.lk k⟩
  | .rg _, _, ⟨a, j, q, h1, h2⟩ => ⟨a, j, q, k.ne h1 rfl (fun _ _ _ z => nomatch z), h2⟩
theorem SR.lk {F0' : Hp} {r : Env} {σ : L2.St} (S : SR K F0 B r σ H F) {d : Addr} (g : Gr F0' B' F' H') (hF : ∀ a, a ≠ d → F' a = F a) (hH : ∀ a, a ≠ d → H' a = H a) (hB : ∀ a, a ≠ d → B' a = B a) (k : Lk F F') (dF : F d ≠ none) : SR K F0' B' r σ H' F' := by
  have ne : ∀ {s : Slot} {y : Option V} {a : Addr}, SlotOk K B H F s y → Foot H s y a → H' a = H a := fun h f => by
    obtain ⟨_, _, h2, _⟩ := foot_ok h f
    exact hH _ fun z => dF (z ▸ h2)
  refine ⟨g, S.len, fun i s e => ?_, fun i j s t y z a hij e1 e2 e3 e4 f1 f2 => ?_, ?_⟩
  · obtain ⟨y, h1, h2⟩ := S.ok i s e
    exact ⟨y, h1, h2.lk hF hH hB k dF⟩
  · exact S.sep i j s t y z a hij e1 e2 e3 e4 (f1.back (S.slot e1 e3) fun b f => ne (S.slot e1 e3) f) (f2.back (S.slot e2 e4) fun b f => ne (S.slot e2 e4) f)
  · obtain ⟨us, hu, h⟩ := S.tag
    exact ⟨us, hu, fun i xs q => let ⟨a, h1, h2⟩ := h i xs q; ⟨a, h1, k.seq h2⟩⟩
variable {d : Addr} {u : HO} {ob : Obj}
theorem same_upd {z : HO} (e : Same F F') : Same (upd F d z) (upd F' d z) := fun a x q => by
  by_cases c : a = d
  · subst c; rw [upd_same] at q ⊢; exact q
  · rw [upd_ne c] at q ⊢; exact e a x q
theorem Gr.lk {z : HO} (g : Gr F H F' H') : Gr (upd F d z) (upd H d z) (upd F' d z) (upd H' d z) := by
  refine ⟨same_upd g.f, same_upd g.h, same_upd g.i, fun a q f t => ?_⟩
  by_cases c : a = d
  · subst c; rw [upd_same] at f; cases f
  · rw [upd_ne c] at q f ⊢
    exact g.n a q f fun vs => by have := t vs; rw [upd_ne c] at this; exact this
end
section
variable {X : Cx} {ec : EC} {W : WX} {e : Expr} {pos : Pos} {φ κ ψ : EX} {st : Stmt}
section
variable {elt tg : Expr} {ifs : List Expr} {scope : Scope} {own : List (Str × Nat)} {spos : Pos} {g : Tg} {β : EB}
end
end
end DL
/-! Dicts as data read and asked; ranges kept; own dicts begun empty; min. -/
namespace DL
open PySem PySem.Spec PyProof.Rows L2
section
variable {X : Cx} {ec : EC} {W : WX} {e o k : Expr} {pos : Pos} {φ κ ψ : EX} {tg : Expr}
end
end DL
/-! Starred tuples, dicts of one key as data, d.get(k), a dict comprehension over a dict that is returned. -/
namespace DL
open PySem PySem.Spec PyProof.Rows L2
section
variable {X : Cx} {ec : EC} {W : WX} {e o k : Expr} {es : List Expr} {pos p : Pos} {φ κ ψ : EX} {as : List EX}
end
section
variable {X : Cx} {ec : EC} {W : WX} {elt kx vx tg iter : Expr} {ifs : List Expr} {gs : List Comprehension} {scope : Scope} {own : List (Str × Nat)} {pos : Pos} {ι : EL} {g : Tg} {β : EB} {κ φ : EX} {gn : List Gn}
end
end DL
/-! A comprehension over two dicts. -/
namespace DL
open PySem PySem.Spec PyProof.Rows L2
section
variable {X : Cx} {ec : EC} {W : WX} {st : Stmt}
variable {elt tg tg1 k : Expr} {ifs1 : List Expr} {scope : Scope} {own : List (Str × Nat)} {pos ipos spos : Pos} {g g1 : Tg} {β1 : EB} {φ κ : EX}
end
end DL
/-! Dicts whose keys are whole numbers: comprehensions that give them, walks, reads. -/
namespace DL
open PySem PySem.Spec PyProof.Rows L2
def RepPI (K : PySem.W.Frag) (F : Hp) : List (Int × D) → List (Key × V) → Prop
  | [], ks => ks = []
  | (k, d) :: kvs, ks => ∃ v r, ks = (Sum.inl k, v) :: r ∧ Rep K F d v ∧ RepPI K F kvs r
theorem RepPI.mono {K : PySem.W.Frag} {F F' : Hp} (e : Same F F') : ∀ {kvs : List (Int × D)} {ks : List (Key × V)}, RepPI K F kvs ks → RepPI K F' kvs ks
  | [], _, h => h
  | (_, _) :: _, _, ⟨v, r, q, h1, h2⟩ => ⟨v, r, q, h1.mono e, RepPI.mono e h2⟩
section
variable {X : Cx} {ec : EC} {W : WX} {e o k : Expr} {pos : Pos} {φ κ ψ : EX} {st : Stmt}
end
section
variable {X : Cx} {ec : EC} {W : WX} {st : Stmt}
variable {elt tg tg1 k : Expr} {ifs1 : List Expr} {scope : Scope} {own : List (Str × Nat)} {pos ipos spos : Pos} {g g1 : Tg} {β1 : EB} {φ κ : EX}
end
end DL
/-! len(set(..)) of whole numbers. -/
namespace DL
open PySem PySem.Spec PyProof.Rows L2
section
variable {X : Cx} {ec : EC} {W : WX} {e : Expr} {pos p p2 q : Pos} {φ : EX}
end
end DL
/-! xs[::-1] of a list or a tuple. -/
namespace HT
open PySem PySem.Spec PyProof.Rows
section
variable {prog : Program} {w : World} {A : Around} {E : Value → Shared → Prop} {s : Shared}
end
end HT
namespace L2
open PySem PySem.Spec PyProof.Rows
section
variable {X : Cx}
end
end L2
namespace DL
open PySem PySem.Spec PyProof.Rows L2
section
variable {X : Cx} {ec : EC} {W : WX} {e : Expr} {pos : Pos} {φ : EX}
end
end DL
/-! tuple(range(..)), xs.index(x) -/
namespace DL
open PySem PySem.Spec PyProof.Rows L2
section
variable {X : Cx} {ec : EC} {W : WX} {e b : Expr} {pos p p2 q apos : Pos} {φ ψ : EX}
end
end DL
/-! Rules for working the functions of data out. -/
namespace DL
open PySem
/-! ### each combinator at an environment -/
section
variable {r : Env} {a b c e : EX} {l m : EL} {t u : EB} {as : List EX} {p q : SX} {i j : Nat} {x : D} {f : D → Option D} {g : D → D → Option D} {ft fu : D → D → Option Bool} {gt : D → Option Bool} {gl : D → Option (List D)} {hl : D → D → Option (List D)}
theorem e_vVar : vVar i r = (match r[i]? with | some (.d x) => ok x | some (.tg xs) => ok (.list xs) | _ => none) := (rfl)
theorem e_vRd : vRd i r = (match r[i]? with | some (.d x) => ok x | some (.own xs) => ok (.list xs) | some (.tg xs) => ok (.list xs) | some (.io _ xs) => ok (.list xs) | _ => none) := (rfl)
theorem e_vC : vC x r = ok x := (rfl)
theorem e_v1 : v1 f a r = rb (a r) fun x => po (f x) := (rfl)
theorem e_v2 : v2 g a b r = rb (a r) fun x => rb (b r) fun y => po (g x y) := (rfl)
theorem e_c1 : c1 gt a r = rb (a r) fun x => po (gt x) := (rfl)
theorem e_c2 : c2 ft a b r = rb (a r) fun x => rb (b r) fun y => po (ft x y) := (rfl)
theorem e_l1 : l1 gl a r = rb (a r) fun x => po (gl x) := (rfl)
theorem e_l2 : l2 hl a b r = rb (a r) fun x => rb (b r) fun y => po (hl x y) := (rfl)
theorem e_vL : vL l r = rb (l r) fun xs => ok (.list xs) := (rfl)
theorem e_vB : vB t r = rb (t r) fun b => ok (.bool b) := (rfl)
theorem e_vArgs0 : vArgs [] r = ok [] := (rfl)
theorem e_vArgs : vArgs (a :: as) r = rb (a r) fun x => rb (vArgs as r) fun xs => ok (x :: xs) := (rfl)
theorem e_vTup : vTup as r = rb (vArgs as r) fun xs => ok (.tuple xs) := (rfl)
theorem e_vCall {f : List D → R D} : vCall f as r = rb (vArgs as r) f := (rfl)
theorem e_vIf : vIf t a b r = rb (t r) fun k => if k = true then a r else b r := (rfl)
theorem e_bTr : bTr a r = rb (a r) fun x => po (dTr x) := (rfl)
theorem e_bNot : bNot t r = rb (t r) fun b => ok (!b) := (rfl)
theorem e_bAnd : bAnd t u r = rb (t r) fun k => if k = true then u r else ok false := (rfl)
theorem e_bOr : bOr t u r = rb (t r) fun k => if k = true then ok true else u r := (rfl)
theorem e_bChain : bChain ft fu a b c r = rb (a r) fun x => rb (b r) fun y => rb (po (ft x y)) fun k => if k = true then rb (c r) fun z => po (fu y z) else ok false := (rfl)
theorem e_iSeq : iSeq a r = rb (a r) fun x => po (seqOf x) := (rfl)
theorem e_iEnumE : iEnumE a r = rb (a r) fun x => po (enum1 x) := (rfl)
theorem e_iRange1 : iRange1 a r = rb (a r) fun x => po (rng1 x) := (rfl)
theorem e_iRange2 : iRange2 a b r = rb (a r) fun x => rb (b r) fun y => po (rng2 x y) := (rfl)
theorem e_vCut {lo hi : Option EX} : vCut a lo hi r = rb (a r) fun x => rb (vOpt lo r) fun i => rb (vOpt hi r) fun j => po (dCut i j x) := (rfl)
theorem e_vOpt0 : vOpt none r = ok none := (rfl)
theorem e_vOpt : vOpt (some a) r = rb (a r) fun x => match x with | .int i => ok (some i) | _ => none := (rfl)
theorem e_sNx : sNx r = some (.nx r) := (rfl)
theorem e_sBk : sBk r = some (.bk r) := (rfl)
theorem e_sCt : sCt r = some (.ct r) := (rfl)
theorem e_sSeq : sSeq p q r = (match p r with | some (.nx r1) => q r1 | o => o) := (rfl)
theorem e_sSet : sSet i a r = so (a r) r fun x => some (.nx (r.set i (.d x))) := (rfl)
theorem e_sOwn : sOwn i l r = so (l r) r fun xs => some (.nx (r.set i (.own xs))) := (rfl)
theorem e_sPut {g : Tg} : sPut g a r = so (a r) r fun x => (g.put x r).map .nx := (rfl)
theorem e_sFreeze : sFreeze i r = some (.nx (frz i r)) := (rfl)
theorem e_sRet : sRet a r = so (a r) r fun x => some (.rt x) := (rfl)
theorem e_sExpr : sExpr a r = so (a r) r fun _ => some (.nx r) := (rfl)
theorem e_sIf : sIf t p q r = so (t r) r fun k => if k = true then p r else q r := (rfl)
theorem e_sApp : sApp i a r = (match r[i]? with | some (.own xs) => so (a r) r fun x => if xs.length < lim then some (.nx (r.set i (.own (xs ++ [x])))) else none | some (.io b xs) => so (a r) r fun x => if xs.length < lim then some (.nx (r.set i (.io b (xs ++ [x])))) else none | _ => none) := (rfl)
theorem e_sPar : sPar i j a b r = so (vArgs [a, b] r) r fun xs => match xs with | [x, y] => some (.nx ((r.set i (.d x)).set j (.d y))) | _ => none := (rfl)
theorem e_sSetIx : sSetIx i a b r = (match r[i]? with | some (.own xs) => so (b r) r fun x => so (a r) r fun j => (match j with | .int j => (match ixAt xs.length j with | some n => some (.nx (r.set i (.own (xs.set n x)))) | none => none) | _ => none) | some (.io d xs) => so (b r) r fun x => so (a r) r fun j => (match j with | .int j => (match ixAt xs.length j with | some n => some (.nx (r.set i (.io d (xs.set n x)))) | none => none) | _ => none) | _ => none) := (rfl)
theorem e_sFor {g : Tg} : sFor l g p r = so (l r) r fun xs => loopF g p xs r := (rfl)
theorem e_sErr {c : String} : sErr c r = some (.er ⟨c, none⟩ r) := (rfl)
theorem e_sTry {tab : List ((String × String) × Bool)} {hs : List (String × SX)} : sTry tab p hs r = (match p r with | some (.er e r1) => pickH tab e r1 hs | o => o) := (rfl)
theorem e_sRetL : sRetL l r = so (l r) r fun xs => some (.rl xs) := (rfl)
theorem e_uX {α : Type} {a : Env → R α} : uX a r = up r (a r) := (rfl)
section
variable {a b : ES D} {as : List (ES D)} {k : ES Bool} {m : ES Bool} {l : ES (List D)}
theorem e_w1 : w1 f a r = sb (a r) fun x r1 => up r1 (po (f x)) := (rfl)
theorem e_w2 : w2 g a b r = sb (a r) fun x r1 => sb (b r1) fun y r2 => up r2 (po (g x y)) := (rfl)
theorem e_wc2 : wc2 ft a b r = sb (a r) fun x r1 => sb (b r1) fun y r2 => up r2 (po (ft x y)) := (rfl)
theorem e_wl1 : wl1 gl a r = sb (a r) fun x r1 => up r1 (po (gl x)) := (rfl)
theorem e_wl2 : wl2 hl a b r = sb (a r) fun x r1 => sb (b r1) fun y r2 => up r2 (po (hl x y)) := (rfl)
theorem e_wL : wL l r = sb (l r) fun xs r1 => okS (.list xs) r1 := (rfl)
theorem e_wB : wB k r = sb (k r) fun b r1 => okS (.bool b) r1 := (rfl)
theorem e_wTr : wTr a r = sb (a r) fun x r1 => up r1 (po (dTr x)) := (rfl)
theorem e_wNot : wNot k r = sb (k r) fun b r1 => okS (!b) r1 := (rfl)
theorem e_wAnd : wAnd k m r = sb (k r) fun x r1 => if x = true then m r1 else okS false r1 := (rfl)
theorem e_wOr : wOr k m r = sb (k r) fun x r1 => if x = true then okS true r1 else m r1 := (rfl)
theorem e_wIf : wIf k a b r = sb (k r) fun x r1 => if x = true then a r1 else b r1 := (rfl)
theorem e_wArgs0 : wArgs [] r = okS [] r := (rfl)
theorem e_wArgs : wArgs (a :: as) r = sb (a r) fun x r1 => sb (wArgs as r1) fun xs r2 => okS (x :: xs) r2 := (rfl)
theorem e_wTup : wTup as r = sb (wArgs as r) fun xs r1 => okS (.tuple xs) r1 := (rfl)
theorem e_wCall {f : List D → R D} : wCall f as r = sb (wArgs as r) fun xs r1 => up r1 (f xs) := (rfl)
theorem e_zSet : zSet i a r = soS (a r) fun x r1 => some (.nx (r1.set i (.d x))) := (rfl)
theorem e_zOwn : zOwn i l r = soS (l r) fun xs r1 => some (.nx (r1.set i (.own xs))) := (rfl)
theorem e_zPut {g : Tg} : zPut g a r = soS (a r) fun x r1 => (g.put x r1).map .nx := (rfl)
theorem e_zRet : zRet a r = soS (a r) fun x r1 => some (.ri x r1) := (rfl)
theorem e_zRt : zRt a r = soS (a r) fun x _ => some (.rt x) := (rfl)
theorem e_zExpr : zExpr a r = soS (a r) fun _ r1 => some (.nx r1) := (rfl)
theorem e_zIf : zIf k p q r = soS (k r) fun x r1 => if x = true then p r1 else q r1 := (rfl)
theorem e_zFor {g : Tg} : zFor l g p r = soS (l r) fun xs r1 => loopF g p xs r1 := (rfl)
end
theorem po_some {α : Type} (a : α) : po (some a) = ok a := (rfl)
end
theorem put_one (i : Nat) (x : D) (r : Env) : (Tg.one i).put x r = some (r.set i (.d x)) := (rfl)
/-- a loop all of whose turns go on -/
theorem loop_nx {g : Tg} {b : SX} (I : Nat → Env → Prop) : ∀ (xs : List D) (n : Nat) (r : Env), I n r →
    (∀ k x r, xs[k]? = some x → I (n + k) r → ∃ r1 r2, g.put x r = some r1 ∧ b r1 = some (.nx r2) ∧ I (n + k + 1) r2) → ∃ r', loopF g b xs r = some (.nx r') ∧ I (n + xs.length) r'
  | [], n, r, h, _ => ⟨r, rfl, h⟩
  | x :: xs, n, r, h, st => by
    obtain ⟨r1, r2, h1, h2, h3⟩ := st 0 x r rfl h
    obtain ⟨r', h4, h5⟩ := loop_nx I xs (n + 1) r2 h3 fun k y r hk hr => by
      have := st (k + 1) y r hk (by rw [show n + (k + 1) = n + 1 + k by omega]; exact hr)
      rw [show n + (k + 1) = n + 1 + k by omega] at this
      exact this
    refine ⟨r', ?_, by rw [List.length_cons, show n + (xs.length + 1) = n + 1 + xs.length by omega]; exact h5⟩
    unfold loopF
    rw [h1]
    dsimp only
    rw [h2]
    exact h4
/-- the list of what is kept -/
theorem comp_filter {i : Nat} {t : EB} {e : EX} {r : Env} {T : D → Bool} {G : D → D} : ∀ (xs : List D), (∀ x ∈ xs, t (r.set i (.d x)) = ok (T x)) → (∀ x ∈ xs, T x = true → e (r.set i (.d x)) = ok (G x)) → compL (.one i) t e r xs = ok ((xs.filter T).map G)
  | [], _, _ => rfl
  | x :: xs, ht, he => by
    have ih := comp_filter xs (fun y hy => ht y (List.mem_cons_of_mem _ hy)) (fun y hy => he y (List.mem_cons_of_mem _ hy))
    unfold compL
    rw [put_one]
    dsimp only
    rw [ht x List.mem_cons_self, rb_ok, List.filter_cons]
    split
    · rename_i h
      rw [he x List.mem_cons_self h, rb_ok, ih, rb_ok, List.map_cons]
    · exact ih
theorem comp_map {i : Nat} {e : EX} {r : Env} {G : D → D} (xs : List D) (he : ∀ x ∈ xs, e (r.set i (.d x)) = ok (G x)) : compL (.one i) bYes e r xs = ok (xs.map G) := by
  have h := comp_filter (i := i) (t := bYes) (e := e) (r := r) (T := fun _ => true) (G := G) xs (fun _ _ => rfl) fun x hx _ => he x hx
  rw [h, List.filter_eq_self.mpr fun _ _ => rfl]
theorem lcomp_map {it : EL} {i : Nat} {e : EX} {r : Env} {xs : List D} (G : D → D) (hi : it r = ok xs) (hl : xs.length ≤ lim) (he : ∀ x ∈ xs, e ((r.set i .un).set i (.d x)) = ok (G x)) : lComp it (.one i) bYes e r = ok (xs.map G) := by
  unfold lComp
  rw [hi, rb_ok, if_pos hl]
  show noEr (compL (.one i) bYes e (r.set i .un) xs) = _
  rw [comp_map xs he]
  rfl
theorem bools_map (xs : List D) (f : D → Bool) : bools (xs.map fun x => .bool (f x)) = some (xs.map f) := by
  induction xs with
  | nil => rfl
  | cons x xs ih => rw [List.map_cons, List.map_cons]; unfold bools; rw [ih]; rfl
theorem cAll_map (xs : List D) (f : D → Bool) : cAll (.list (xs.map fun x => .bool (f x))) = some (xs.all f) := by
  show (match bools (xs.map fun x => .bool (f x)) with | some bs => some (bs.all id) | none => none) = _
  rw [bools_map]
  dsimp only
  rw [List.all_map]
  rfl
theorem eq_int (i j : Int) : cEq (.int i) (.int j) = some (i == j) := (rfl)
/-! ### numbers and tuples -/
def isNum (lo hi : Int) : D → Bool
  | .int i => decide (lo ≤ i) && decide (i ≤ hi)
  | _ => false
def isTup (n : Int) : D → Bool
  | .tuple xs => ((xs.length : Nat) : Int) == n
  | _ => false
theorem isNum_int {lo hi : Int} {d : D} (h : isNum lo hi d = true) : ∃ i, d = .int i ∧ lo ≤ i ∧ i ≤ hi := by
  cases d with
  | int i => simp only [isNum, Bool.and_eq_true, decide_eq_true_eq] at h; exact ⟨i, rfl, h⟩
  | _ => cases h
/-! ### each once -/
def fresh : List D → List D → Bool
  | _, [] => true
  | seen, x :: xs => !(seen.any fun z => PyData.eqv z x) && fresh (seen ++ [x]) xs
theorem unlike_len : ∀ (xs seen : List D), (unlike seen xs).length ≤ seen.length + xs.length ∧ (((unlike seen xs).length == seen.length + xs.length) = fresh seen xs)
  | [], seen => by simp [unlike, fresh]
  | x :: xs, seen => by
    unfold unlike fresh
    split
    · rename_i h
      obtain ⟨h1, h2⟩ := unlike_len xs seen
      refine ⟨by rw [List.length_cons]; omega, ?_⟩
      rw [h]
      have : (unlike seen xs).length ≠ seen.length + (x :: xs).length := by rw [List.length_cons]; omega
      simpa using this
    · rename_i h
      obtain ⟨h1, h2⟩ := unlike_len xs (seen ++ [x])
      have e : seen.length + (x :: xs).length = (seen ++ [x]).length + xs.length := by simp only [List.length_append, List.length_cons, List.length_nil]; omega
      rw [e, h2]
      refine ⟨h1, ?_⟩
      simp [h]
theorem fresh_iff : ∀ (xs seen : List D), fresh seen xs = true ↔ ∀ k x, xs[k]? = some x → ((seen ++ xs.take k).any fun z => PyData.eqv z x) = false
  | [], seen => by simp [fresh]
  | x :: xs, seen => by
    unfold fresh
    rw [Bool.and_eq_true, fresh_iff xs (seen ++ [x])]
    constructor
    · rintro ⟨h1, h2⟩ k y hk
      cases k with
      | zero =>
        cases hk
        simpa using h1
      | succ k =>
        have := h2 k y hk
        simpa using this
    · intro h
      refine ⟨?_, fun k y hk => ?_⟩
      · have := h 0 x rfl
        simpa using this
      · have := h (k + 1) y hk
        simpa using this
theorem fresh_snoc {xs : List D} {x : D} (h : fresh [] xs = true) (hx : (xs.any fun z => PyData.eqv z x) = false) : fresh [] (xs ++ [x]) = true := by
  rw [fresh_iff] at h ⊢
  intro k y hk
  rcases Nat.lt_trichotomy k xs.length with c | c | c
  · rw [List.getElem?_append_left c] at hk
    rw [List.take_append_of_le_length (Nat.le_of_lt c)]
    exact h k y hk
  · subst c
    rw [List.getElem?_append_right (Nat.le_refl _), Nat.sub_self] at hk
    cases hk
    rw [List.take_left']
    · exact hx
    · rfl
  · rw [List.getElem?_eq_none (by rw [List.length_append]; exact c)] at hk
    cases hk
/-! ### the size of data: how deep, how many parts -/
def lv : Nat → D → Bool
  | 0, .list _ => false
  | 0, .tuple _ => false
  | n + 1, .list xs => xs.all (lv n)
  | n + 1, .tuple xs => xs.all (lv n)
  | _, _ => true
mutual
def wt : D → Nat
  | .list xs => 1 + wts xs
  | .tuple xs => 1 + wts xs
  | _ => 1
def wts : List D → Nat
  | [] => 0
  | x :: xs => wt x + wts xs
end
/-! ### operations on numbers -/
theorem int_int (i : Int) : dInt (.int i) = some (.int i) := (rfl)
theorem add_int (i j : Int) : dAdd (.int i) (.int j) = some (.int (i + j)) := (rfl)
theorem sub_int (i j : Int) : dSub (.int i) (.int j) = some (.int (i - j)) := (rfl)
theorem lt_int (i j : Int) : cLt (.int i) (.int j) = some (decide (i < j)) := (rfl)
theorem ge_int (i j : Int) : cGe (.int i) (.int j) = some (decide (j ≤ i)) := (rfl)
theorem mod_int (i j : Int) (h : 0 < j) : dMod (.int i) (.int j) = some (.int (i % j)) := if_pos h
theorem div_int (i j : Int) (h : 0 < j) (h2 : j < 1073741824) : dDiv (.int i) (.int j) = some (.int (i / j)) := if_pos ⟨h, h2⟩
theorem mulL (i j : Int) (h : small64 i = true) : dMul (.int i) (.int j) = some (.int (i * j)) := if_pos (by rw [h]; rfl)
theorem mulR (i j : Int) (h : small64 j = true) : dMul (.int i) (.int j) = some (.int (i * j)) := if_pos (by rw [h, Bool.or_true])
theorem small_of (i : Int) (h1 : -18446744073709551616 < i) (h2 : i < 18446744073709551616) : small64 i = true := by
  have h5 : -(2 ^ 64 : Int) < i := by omega
  have h6 : i < (2 ^ 64 : Int) := by omega
  simp only [small64, h5, h6, decide_true, Bool.and_self]
theorem len_list (xs : List D) : dLen (.list xs) = some (.int (xs.length : Nat)) := (rfl)
theorem len_tup (xs : List D) : dLen (.tuple xs) = some (.int (xs.length : Nat)) := (rfl)
theorem cut_tup (lo hi : Option Int) (xs : List D) : dCut lo hi (.tuple xs) = some (.tuple (cutD xs lo hi)) := (rfl)
theorem tup_list (xs : List D) : dTup (.list xs) = some (.tuple xs) := (rfl)
theorem tr_bool (b : Bool) : dTr (.bool b) = some b := (rfl)
/-! ### places -/
theorem at_nat (xs : List D) (k : Nat) : atD xs (k : Nat) = xs[k]? := by
  unfold atD ixAt
  by_cases h : k < xs.length
  · have h' : ((k : Nat) : Int) < ((xs.length : Nat) : Int) := by omega
    have h0 : (0 : Int) ≤ ((k : Nat) : Int) := by omega
    simp [h, List.getElem?_eq_getElem h]
  · have h0 : (0 : Int) ≤ ((k : Nat) : Int) := by omega
    simp [h]
theorem ixl (xs : List D) (k : Nat) : dIx (.list xs) (.int (k : Nat)) = xs[k]? := at_nat xs k
theorem ixt (xs : List D) (k : Nat) : dIx (.tuple xs) (.int (k : Nat)) = xs[k]? := at_nat xs k
theorem cut_len (xs : List D) (lo hi : Option Int) : (cutD xs lo hi).length ≤ xs.length := by
  unfold cutD
  rw [List.length_take, List.length_drop]
  omega
theorem cut_to (xs : List D) (k : Nat) (h : k ≤ xs.length) : cutD xs none (some ((k : Nat) : Int)) = xs.take k := by
  have h0 : ¬ ((k : Nat) : Int) < 0 := by omega
  have : cutAt xs.length xs.length (some ((k : Nat) : Int)) = k := by
    unfold cutAt
    dsimp only
    rw [if_neg h0]
    omega
  unfold cutD
  rw [this]
  rfl
theorem cut_from (xs : List D) (k : Nat) (h : k ≤ xs.length) : cutD xs (some ((k : Nat) : Int)) none = xs.drop k := by
  have h0 : ¬ ((k : Nat) : Int) < 0 := by omega
  have : cutAt xs.length 0 (some ((k : Nat) : Int)) = k := by
    unfold cutAt
    dsimp only
    rw [if_neg h0]
    omega
  unfold cutD
  rw [this]
  show (xs.drop k).take (xs.length - k) = _
  rw [List.take_of_length_le (by rw [List.length_drop]; exact Nat.le_refl _)]
theorem rng_at (lo : Int) (n k : Nat) (h : k < n) : (rng lo n)[k]? = some (.int (lo + k)) := by
  unfold rng
  rw [List.getElem?_map, List.getElem?_range h]
  rfl
theorem rng_size (lo : Int) (n : Nat) : (rng lo n).length = n := by
  unfold rng
  rw [List.length_map, List.length_range]
theorem small_nat {n : Nat} (h : n ≤ lim) : small62 ((n : Nat) : Int) = true := by
  have h1 : -(2 ^ 62 : Int) ≤ ((n : Nat) : Int) := by omega
  have h2 : ((n : Nat) : Int) < 2 ^ 62 := by have : lim = 16777216 := rfl; omega
  simp only [small62, h1, h2, decide_true, Bool.and_self]
theorem rng1_nat {n : Nat} (h : n ≤ lim) : rng1 (.int (n : Nat)) = some (rng 0 n) := by simp only [rng1, small_nat h, if_true, Int.toNat_natCast]
theorem loop_out {g : Tg} {b : SX} {xs : List D} {r : DL.Env} {L : Option Out} (hL : loopF g b xs r = L) (I : Nat → DL.Env → Prop) (h0 : I 0 r)
    (st : ∀ k x r, xs[k]? = some x → I k r → ∃ r1 r2, g.put x r = some r1 ∧ b r1 = some (.nx r2) ∧ I (k + 1) r2) : ∃ r', L = some (.nx r') ∧ I xs.length r' := by
  obtain ⟨r', h1, h2⟩ := loop_nx (g := g) (b := b) I xs 0 r h0 (fun k x r hx hI => by
    rw [Nat.zero_add] at hI ⊢
    exact st k x r hx hI)
  rw [Nat.zero_add] at h2
  exact ⟨r', hL ▸ h1, h2⟩
/-- each the parent of its node -/
def pOk : Nat → List D → Bool
  | _, [] => true
  | k, x :: xs => isNum (-1) ((k : Nat) - 1) x && pOk (k + 1) xs
end DL
/-! Working out what changes own lists. -/
namespace DL
open PySem
section
variable {r r1 r2 : DL.Env} {g : List Slot → RI} {as : List AArg} {i : Nat} {a : ES D}
theorem e_wCallI : wCallI g as r = sb (wArgI as r) fun bs r1 => callI g bs r1 := (rfl)
theorem e_wCallN {l : EL} : wCallN g l as r = sb (up r (l r)) fun xs r1 => sb (wArgI as r1) fun bs r2 => callN g xs bs r2 := (rfl)
theorem e_wArgI0 : wArgI [] r = okS [] r := (rfl)
theorem e_wArgIx : wArgI (.ex a :: as) r = sb (a r) fun x r1 => sb (wArgI as r1) fun xs r2 => okS (.d x :: xs) r2 := (rfl)
theorem e_wArgIo : wArgI (.io i :: as) r = (match ioXs r i with | some _ => sb (wArgI as r) fun xs r1 => okS (.io i :: xs) r1 | none => none) := (rfl)
theorem e_ioXs : ioXs r i = (match r[i]? with | some (.own xs) => some xs | some (.io _ xs) => some xs | _ => none) := (rfl)
theorem e_ioSet {l : List D} : ioSet r i l = (match r[i]? with | some s => r.set i (reslot s l) | none => r) := (rfl)
theorem resl_own (xs l : List D) : reslot (.own xs) l = .own l := (rfl)
theorem resl_io (b : Addr) (xs l : List D) : reslot (.io b xs) l = .io b l := (rfl)
theorem e_zApp : zApp i a r = (match ioXs r i with | some _ => soS (a r) fun x r1 => (match ioXs r1 i with | some xs => if xs.length < lim then some (.nx (ioSet r1 i (xs ++ [x]))) else none | none => none) | none => none) := (rfl)
theorem lCall_e {f : List D → R (List D)} {as : List EX} : lCall f as r = rb (vArgs as r) f := (rfl)
theorem callI_of {bs : List AV} {e : Except Err D} {ls : List (List D)} (S : (Nat → Addr) → List Slot) (h : ∀ ad, mkS r ad bs = some (S ad)) (hg : ∀ ad, g (S ad) = some (e, ls)) (hp : putB bs ls r = some r2) : callI g bs r = some (e, r2) := by
  unfold callI
  rw [allA_of (x := some (e, ls)) fun ad => by rw [h ad]; exact hg ad]
  simp only [hp]
/-- one list that is passed, then a datum -/
theorem call1 {xs l : List D} {d : D} {e : Except Err D} (hr : ioXs r i = some xs) (hg : ∀ b, g [.io b xs, .d d] = some (e, [l])) : callI g [.io i, .d d] r = some (e, ioSet r i l) :=
  callI_of (fun ad => [.io (ad i) xs, .d d]) (fun ad => by simp [mkS, hr]) (fun ad => hg _) rfl
end
/-- a comprehension whose items change own lists: the state s, whatever the addresses A -/
theorem compS {α σ : Type} {i : Nat} {e : ES D} (E : α → σ → DL.Env) (Q : D → Prop) (un : ∀ A s x, unSlots [i] ((E A s).set i (.d x)) = E A s) (I : σ → Prop)
    (turn : ∀ s x, I s → ∃ y s', Q y ∧ I s' ∧ ∀ A, e ((E A s).set i (.d x)) = some (.ok y, (E A s').set i (.d x))) :
    ∀ (xs : List D) (s : σ), I s → ∃ ys s', ys.length = xs.length ∧ (∀ y ∈ ys, Q y) ∧ I s' ∧ ∀ A, compLS (.one i) bYes e xs (E A s) = some (.ok ys, E A s')
  | [], s, hs => ⟨[], s, rfl, fun _ h => absurd h List.not_mem_nil, hs, fun _ => rfl⟩
  | x :: xs, s, hs => by
    obtain ⟨y, s1, h1, h2, h3⟩ := turn s x hs
    obtain ⟨ys, s2, k1, k2, k3, k4⟩ := compS E Q un I turn xs s1 h2
    refine ⟨y :: ys, s2, by rw [List.length_cons, List.length_cons, k1], fun z hz => ?_, k3, fun A => ?_⟩
    · rcases List.mem_cons.mp hz with c | c
      · rw [c]; exact h1
      · exact k2 z c
    · show (match (Tg.one i).put x (E A s) with
        | none => none
        | some r1 => sb (up r1 (bYes r1)) fun k r1 => if k = true then sb (e r1) fun y r2 => sb (compLS (.one i) bYes e xs (unSlots (Tg.one i).slots r2)) fun ys r3 => okS (y :: ys) r3 else compLS (.one i) bYes e xs (unSlots (Tg.one i).slots r1)) = _
      rw [put_one]
      show sb (e ((E A s).set i (.d x))) (fun y r2 => sb (compLS (.one i) bYes e xs (unSlots [i] r2)) fun ys r3 => okS (y :: ys) r3) = _
      rw [h3 A]
      show sb (compLS (.one i) bYes e xs (unSlots [i] ((E A s1).set i (.d x)))) (fun ys r3 => okS (y :: ys) r3) = _
      rw [un, k4 A]
      rfl
/-- a loop: the state s, whatever the addresses A -/
theorem loopS {α σ : Type} {g : Tg} {b : SX} (E : α → σ → DL.Env) (I : Nat → σ → Prop) :
    ∀ (xs : List D) (n : Nat) (s : σ), I n s → (∀ k s x, xs[k]? = some x → I (n + k) s → ∃ s', I (n + k + 1) s' ∧ ∀ A, ∃ r1, g.put x (E A s) = some r1 ∧ (b r1 = some (.nx (E A s')) ∨ b r1 = some (.ct (E A s')))) →
      ∃ s', I (n + xs.length) s' ∧ ∀ A, loopF g b xs (E A s) = some (.nx (E A s'))
  | [], n, s, hs, _ => ⟨s, hs, fun _ => rfl⟩
  | x :: xs, n, s, hs, turn => by
    obtain ⟨s1, h1, h2⟩ := turn 0 s x rfl hs
    obtain ⟨s2, k1, k2⟩ := loopS E I xs (n + 1) s1 h1 fun k s y hy hi => by
      have e1 : n + 1 + k = n + (k + 1) := by omega
      rw [e1] at hi ⊢
      exact turn (k + 1) s y (by simpa using hy) hi
    refine ⟨s2, by rw [List.length_cons]; have : n + 1 + xs.length = n + (xs.length + 1) := by omega
                   rw [this] at k1; exact k1, fun A => ?_⟩
    obtain ⟨r1, q1, q2⟩ := h2 A
    unfold loopF
    rw [q1]
    rcases q2 with q2 | q2
    · simp only [q2]; exact k2 A
    · simp only [q2]; exact k2 A
theorem comp_fin {it : ES (List D)} {i : Nat} {e : ES D} {r r1 r2 : DL.Env} {xs ys : List D} (hi : it r = some (.ok xs, r1)) (hl : xs.length ≤ lim) (h : compLS (.one i) bYes e xs (unSlots [i] r1) = some (.ok ys, r2)) : wComp it (.one i) bYes e r = okS ys r2 := by
  unfold wComp
  rw [hi]
  show (if xs.length ≤ lim then noErS (compLS (.one i) bYes e xs (unSlots [i] r1)) else none) = _
  rw [if_pos hl, h]
  rfl
theorem mulM (i j : Int) (h : i.natAbs < 2 ^ 256) (h2 : j.natAbs < 2 ^ 256) : dMul (.int i) (.int j) = some (.int (i * j)) := by
  unfold dMul
  split
  · rename_i a b c d
    split
    · cases c; cases d; rfl
    · cases c; cases d; rw [if_pos ⟨h, h2⟩]
  · rename_i c
    exact absurd rfl (c i j rfl)
theorem sb_some {α β : Type} (a : α) (r : DL.Env) (f : α → DL.Env → RS β) : sb (some (.ok a, r)) f = f a r := (rfl)
theorem soS_some {α : Type} (a : α) (r : DL.Env) (f : α → DL.Env → Option Out) : soS (some (.ok a, r)) f = f a r := (rfl)
theorem runI_ri {n p : Nat} {b : SX} {ss : List Slot} {x : D} {r : DL.Env} {ls : List (List D)} (h : b (ss ++ List.replicate (n - p) .un) = some (.ri x r)) (hl : ss.length = p) (ho : ioOut ss r = some ls) : runI n p b ss = some (.ok x, ls) := by
  unfold runI
  rw [if_pos hl, h]
  simp only [ho, Option.map_some]
theorem runI_nx {n p : Nat} {b : SX} {ss : List Slot} {r : DL.Env} {ls : List (List D)} (h : b (ss ++ List.replicate (n - p) .un) = some (.nx r)) (hl : ss.length = p) (ho : ioOut ss r = some ls) : runI n p b ss = some (.ok .none, ls) := by
  unfold runI
  rw [if_pos hl, h]
  simp only [ho, Option.map_some]
theorem out1 (a : Addr) (xs ys : List D) (ds : List D) (r : DL.Env) (h : ds.length ≤ r.length) : ioOut (.io a xs :: ds.map .d) (.io a ys :: r) = some [ys] := by
  have : ∀ (ds : List D) (r : DL.Env), ds.length ≤ r.length → ioOut (ds.map .d) r = some [] := by
    intro ds
    induction ds with
    | nil => intro r _; rfl
    | cons d ds ih =>
      intro r h
      cases r with
      | nil => exact absurd h (by simp)
      | cons s r => exact ih r (by simpa using h)
  show (if a = a then (ioOut (ds.map .d) r).map (ys :: ·) else none) = _
  rw [if_pos rfl, this ds r h]
  rfl
theorem seq_nx {p q : SX} {r r1 : DL.Env} {x : Option Out} (h : p r = some (.nx r1)) (g : q r1 = x) : sSeq p q r = x := by
  rw [e_sSeq, h]
  exact g
end DL
/-! Working out: ranges kept, own dicts, comprehensions of several clauses, loops that may end. -/
namespace DL
open PySem
section
variable {i : Nat} {a b : EX} {r : Env} {p : SX}
end
end DL
/-! The defs of the text as functions of data. Made by wip/tools/gen.py from the program's own text. -/
namespace K38
open PySem DL
noncomputable section
def tabl : List ((String × String) × Bool) := [(("BadBook", "BadBook"), true), (("BadState", "BadBook"), false), (("BadTree", "BadBook"), false), (("NoNode", "BadBook"), false), (("UnlikeBooks", "BadBook"), false), (("RestError", "BadBook"), false), (("BadReader", "BadBook"), false), (("NoOneRest", "BadBook"), false), (("NoEnd", "BadBook"), false)]
def tabi : List ((String × String) × Bool) := [(("BadBook", "ValueError"), true), (("BadBook", "RestError"), true), (("BadBook", "BadState"), false), (("BadBook", "BadReader"), false), (("BadBook", "BadTree"), false), (("BadBook", "NoOneRest"), false), (("BadBook", "NoEnd"), false), (("BadState", "ValueError"), true), (("BadState", "RestError"), true), (("BadState", "BadState"), true), (("BadState", "BadReader"), false), (("BadState", "BadTree"), false), (("BadState", "NoOneRest"), false), (("BadState", "NoEnd"), false), (("BadTree", "ValueError"), true), (("BadTree", "RestError"), true), (("BadTree", "BadState"), false), (("BadTree", "BadReader"), false), (("BadTree", "BadTree"), true), (("BadTree", "NoOneRest"), false), (("BadTree", "NoEnd"), false), (("NoNode", "ValueError"), true), (("NoNode", "RestError"), true), (("NoNode", "BadState"), false), (("NoNode", "BadReader"), false), (("NoNode", "BadTree"), false), (("NoNode", "NoOneRest"), false), (("NoNode", "NoEnd"), false), (("UnlikeBooks", "ValueError"), true), (("UnlikeBooks", "RestError"), true), (("UnlikeBooks", "BadState"), false), (("UnlikeBooks", "BadReader"), false), (("UnlikeBooks", "BadTree"), false), (("UnlikeBooks", "NoOneRest"), false), (("UnlikeBooks", "NoEnd"), false)]
/-! law_deck(script, place): script 0, place 1, cell 2, value 3, digits 4, turn 5 -/
def b_law_deck : SX := (sSeq (sSet 2 (vC (.int 0))) (sSeq (sIf (c2 cLt (vVar 1) (v1 dLen (vVar 0))) (sSet 2 (v2 dIx (vVar 0) (vVar 1))) sNx) (sSeq (sIf (c2 cGe (vVar 2) (v2 dPow (vC (.int 10)) (vC (.int 18)))) (sRetL (vArgs [(v2 dSub (vVar 2) (v2 dPow (vC (.int 10)) (vC (.int 18))))])) sNx) (sSeq (sSet 3 (v2 dAdd (v2 dAdd (v2 dMul (v2 dMod (v1 dInt (vVar 2)) (v2 dPow (vC (.int 10)) (vC (.int 18)))) (vC (.int 89))) (v2 dMul (vC (.int 7)) (vVar 1))) (vC (.int 5)))) (sSeq (sSet 4 (vC (.int 0))) (sSeq (sFor (iRange1 (vC (.int 10))) (.one 5) (sSeq (sSet 3 (v2 dMod (v1 dInt (v2 dAdd (v2 dAdd (v2 dAdd (v2 dMul (vVar 3) (vVar 3)) (v2 dMul (vC (.int 69069)) (vVar 3))) (v2 dMul (vVar 5) (vVar 5))) (vC (.int 11)))) (vC (.int 1000000000039)))) (sSet 4 (v2 dAdd (v2 dMul (vVar 4) (v2 dPow (vC (.int 10)) (vC (.int 12)))) (vVar 3))))) (sRetL (vArgs [(vVar 4)]))))))))
def f_law_deck : List D → R (List D) := runO 6 2 b_law_deck
/-! law_pick(deck, many): deck 0, many 1, taken 2 -/
def b_law_pick : SX := (sSeq (sSet 2 (v2 dMod (v1 dInt (v2 dIx (vRd 0) (vC (.int 0)))) (vVar 1))) (sSeq (sSetIx 0 (vC (.int 0)) (v2 dDiv (v1 dInt (v2 dIx (vRd 0) (vC (.int 0)))) (vVar 1))) (zRet (uX (vVar 2)))))
def f_law_pick : List Slot → RI := runI 3 2 b_law_pick
/-! law_put(rules, rule): rules 0, rule 1 -/
def b_law_put : SX := (sIf (bAnd (c2 cNotIn (vVar 1) (vRd 0)) (c2 cLt (v1 dLen (vRd 0)) (vC (.int 12)))) (sApp 0 (vVar 1)) sNx)
def f_law_put : List Slot → RI := runI 2 2 b_law_put
/-! law_signal(deck, many): deck 0, many 1, state 2 -/
def b_law_signal : SX := (zRet (DL.w1 dTup (wL (wComp (uX (iRange1 (vVar 1))) (.one 2) bYes (wCallI f_law_pick [(.io 0), (.ex (uX (vVar 1)))])))))
def f_law_signal : List Slot → RI := runI 3 2 b_law_signal
/-! law_free(deck, many, rules, count): deck 0, many 1, rules 2, count 3, turn 4, own 5, new 6 -/
def b_law_free : SX := (sFor (iRange1 (vVar 3)) (.one 4) (sSeq (zSet 5 (wCallI f_law_pick [(.io 0), (.ex (uX (vVar 1)))])) (sSeq (zSet 6 (DL.w2 dMod (DL.w1 dInt (DL.w2 dAdd (uX (v2 dAdd (vVar 5) (vC (.int 1)))) (wCallI f_law_pick [(.io 0), (.ex (uX (v2 dSub (vVar 1) (vC (.int 1)))))]))) (uX (vVar 1)))) (zExpr (wCallI f_law_put [(.io 2), (.ex (wTup [(wCallI f_law_pick [(.io 0), (.ex (uX (vVar 1)))]), (uX (vVar 5)), (uX (vVar 6)), (wCallI f_law_signal [(.io 0), (.ex (uX (vVar 1)))])]))])))))
def f_law_free : List Slot → RI := runI 7 4 b_law_free
/-! law_bad_rule(deck, rule, many, spoil): deck 0, rule 1, many 2, spoil 3, above 4, own 5, new 6, signal 7, place 8, rows 9 -/
def b_law_bad_rule : SX := (sSeq (sPut (.many [4, 5, 6, 7]) (vVar 1)) (sSeq (zSet 8 (wCallI f_law_pick [(.io 0), (.ex (uX (vVar 2)))])) (sSeq (sSet 9 (vL (vArgs [(vTup [(vVar 4), (vVar 5), (vVar 5), (vVar 7)]), (vTup [(vVar 2), (vVar 5), (vVar 6), (vVar 7)]), (vTup [(vVar 4), (vVar 5), (vVar 6), (vCut (vVar 7) (some (vC (.int 1))) none)]), (vL (l1 lOf (vVar 1))), (vCut (vVar 1) none (some (vC (.int 3))))]))) (sSeq (sSet 9 (v2 dAdd (vVar 9) (vL (vArgs [(vTup [(vVar 4), (vVar 5), (vVar 6), (v2 dAdd (v2 dAdd (vCut (vVar 7) none (some (vVar 8))) (vTup [(vVar 2)])) (vCut (vVar 7) (some (v2 dAdd (vVar 8) (vC (.int 1)))) none))]), (vTup [(vVar 4), (vVar 5), (vVar 6), (vL (l1 lOf (vVar 7)))])])))) (sSeq (sSet 9 (v2 dAdd (vVar 9) (vL (vArgs [(vTup [(v1 dNeg (vC (.int 1))), (vVar 5), (vVar 6), (vVar 7)]), (vTup [(vVar 4), (vVar 2), (vVar 6), (vVar 7)]), (vTup [(vVar 4), (vVar 5), (vVar 2), (vVar 7)]), (vC .none), (vC (.str (PySem.Str.ofString "rule")))])))) (sSeq (sSet 9 (v2 dAdd (vVar 9) (vL (vArgs [(vTup [(vVar 4), (vVar 5), (vVar 6), (v2 dAdd (vVar 7) (vTup [(vC (.int 0))]))]), (vTup [(vVar 4), (vVar 5), (vVar 6), (v2 dAdd (v2 dAdd (vCut (vVar 7) none (some (vVar 8))) (vTup [(vC .none)])) (vCut (vVar 7) (some (v2 dAdd (vVar 8) (vC (.int 1)))) none))])])))) (zRet (uX (v2 dIx (vVar 9) (vVar 3))))))))))
def f_law_bad_rule : List Slot → RI := runI 10 4 b_law_bad_rule
/-! law_thirteen(): rules 0, above 1, own 2, one 3, other 4 -/
def b_law_thirteen : SX := (sSeq (sSet 0 (vL (vArgs []))) (sSeq (sFor (iRange1 (vC (.int 2))) (.one 1) (sFor (iRange1 (vC (.int 2))) (.one 2) (sFor (iRange1 (vC (.int 2))) (.one 3) (sSet 0 (v2 dAdd (vVar 0) (vL (lComp (iRange1 (vC (.int 2))) (.one 4) bYes (vTup [(vVar 1), (vVar 2), (v2 dSub (vC (.int 1)) (vVar 2)), (vTup [(vVar 3), (vVar 4)])])))))))) (sRet (vTup [(vC (.int 2)), (v1 dTup (vCut (vVar 0) none (some (vC (.int 13)))))]))))
def f_law_thirteen : List D → R D := runD 5 0 b_law_thirteen
/-! law_bad(deck, book, spoil): deck 0, book 1, spoil 2, many 3, rules 4, place 5, rule 6, twice 7, rows 8 -/
def b_law_bad : SX := (sSeq (sPut (.many [3, 4]) (vVar 1)) (sSeq (sIf (c2 cLt (vVar 2) (vC (.int 14))) (sSeq (zSet 5 (wCallI f_law_pick [(.io 0), (.ex (uX (v1 dLen (vVar 4))))])) (sSeq (zSet 6 (wCallI f_law_bad_rule [(.io 0), (.ex (uX (v2 dIx (vVar 4) (vVar 5)))), (.ex (uX (vVar 3))), (.ex (uX (vVar 2)))])) (zRet (uX (vTup [(vVar 3), (v2 dAdd (v2 dAdd (vCut (vVar 4) none (some (vVar 5))) (vTup [(vVar 6)])) (vCut (vVar 4) (some (v2 dAdd (vVar 5) (vC (.int 1)))) none))]))))) sNx) (sSeq (zSet 7 (DL.w2 dAdd (wCutT (uX (vVar 4)) (DL.w2 dAdd (wCallI f_law_pick [(.io 0), (.ex (uX (v1 dLen (vVar 4))))]) (uX (vC (.int 1))))) (uX (vVar 4)))) (sSeq (sSet 8 (vL (vArgs [(vTup [(vVar 3), (vVar 7)]), (vL (vArgs [(vVar 3), (vVar 4)])), (vTup [(vVar 3), (vL (l1 lOf (vVar 4)))]), (vTup [(vC (.int 0)), (vTup [])]), (vTup [(vC (.int 5)), (vTup [])]), (vTup [(vC (.bool true)), (vTup [])]), (vTup [(vVar 3)]), (v2 dAdd (vVar 1) (vTup [(vC (.int 0))]))]))) (sSeq (sSet 8 (v2 dAdd (vVar 8) (vL (vArgs [(vC .none), (vCall f_law_thirteen [])])))) (zRet (uX (v2 dIx (vVar 8) (v2 dSub (vVar 2) (vC (.int 14)))))))))))
def f_law_bad : List Slot → RI := runI 9 3 b_law_bad
/-! is_tuple_of(thing, length): thing 0, length 1 -/
def b_is_tuple_of : SX := (sRet (vB (bAnd (c1 (cIsi "tuple") (vVar 0)) (c2 cEq (v1 dLen (vVar 0)) (vVar 1)))))
def f_is_tuple_of : List D → R D := runD 2 2 b_is_tuple_of
/-! is_integer(thing): thing 0 -/
def b_is_integer : SX := (sRet (vB (bAnd (c1 (cIsi "int") (vVar 0)) (bNot (c1 (cIsi "bool") (vVar 0))))))
def f_is_integer : List D → R D := runD 1 1 b_is_integer
/-! is_integer_from(thing, low, high): thing 0, low 1, high 2 -/
def b_is_integer_from : SX := (sRet (vB (bAnd (bTr (vCall f_is_integer [(vVar 0)])) (bChain cLe cLe (vVar 1) (vVar 0) (vVar 2)))))
def f_is_integer_from : List D → R D := runD 3 3 b_is_integer_from
/-! is_number_below(thing, limit): thing 0, limit 1 -/
def b_is_number_below : SX := (sRet (vCall f_is_integer_from [(vVar 0), (vC (.int 0)), (v2 dSub (vVar 1) (vC (.int 1)))]))
def f_is_number_below : List D → R D := runD 2 2 b_is_number_below
/-! are_numbers_below(things, limit): things 0, limit 1, thing 2 -/
def b_are_numbers_below : SX := (sRet (vB (c1 cAll (vL (lComp (iSeq (vVar 0)) (.one 2) bYes (vCall f_is_number_below [(vVar 2), (vVar 1)]))))))
def f_are_numbers_below : List D → R D := runD 3 2 b_are_numbers_below
/-! is_rule(n, thing): n 0, thing 1, above 2, own 3, new 4, signal 5 -/
def b_is_rule : SX := (sSeq (sIf (bNot (bTr (vCall f_is_tuple_of [(vVar 1), (vC (.int 4))]))) (sRet (vC (.bool false))) sNx) (sSeq (sPut (.many [2, 3, 4, 5]) (vVar 1)) (sSeq (sIf (bOr (bNot (bTr (vCall f_are_numbers_below [(vTup [(vVar 2), (vVar 3), (vVar 4)]), (vVar 0)]))) (c2 cEq (vVar 3) (vVar 4))) (sRet (vC (.bool false))) sNx) (sRet (vB (bAnd (bTr (vCall f_is_tuple_of [(vVar 5), (vVar 0)])) (bTr (vCall f_are_numbers_below [(vVar 5), (vVar 0)]))))))))
def f_is_rule : List D → R D := runD 6 2 b_is_rule
/-! is_book(thing): thing 0, n 1, rules 2, rule 3 -/
def b_is_book : SX := (sSeq (sIf (bNot (bTr (vCall f_is_tuple_of [(vVar 0), (vC (.int 2))]))) (sRet (vC (.bool false))) sNx) (sSeq (sPut (.many [1, 2]) (vVar 0)) (sSeq (sIf (bNot (bTr (vCall f_is_integer_from [(vVar 1), (vC (.int 1)), (vC (.int (4)))]))) (sRet (vC (.bool false))) sNx) (sSeq (sIf (bOr (bNot (c1 (cIsi "tuple") (vVar 2))) (c2 cGt (v1 dLen (vVar 2)) (vC (.int (12))))) (sRet (vC (.bool false))) sNx) (sSeq (sIf (bNot (c1 cAll (vL (lComp (iSeq (vVar 2)) (.one 3) bYes (vCall f_is_rule [(vVar 1), (vVar 3)]))))) (sRet (vC (.bool false))) sNx) (sRet (vB (c2 cEq (v1 dLenSet (vVar 2)) (v1 dLen (vVar 2))))))))))
def f_is_book : List D → R D := runD 4 1 b_is_book
/-! check_book(thing): thing 0 -/
def b_check_book : SX := (sIf (bNot (bTr (vCall f_is_book [(vVar 0)]))) (sErr "BadBook") sNx)
def f_check_book : List D → R D := runD 1 1 b_check_book
/-! outcome_of(book): book 0, table 1, depths 2, shortest 3, line 4, _ 5, one 6, other 7 -/
def b_outcome_of : SX := (sSeq (sExpr (vCall f_check_book [(vVar 0)])) sUnk)
def f_outcome_of : List D → R D := runD 8 1 b_outcome_of
/-! outcome_holds(book, certificate): book 0, certificate 1, kind 2, triples 3, line 4, one 5, other 6 -/
def b_outcome_holds : SX := (sSeq (sExpr (vCall f_check_book [(vVar 0)])) sUnk)
def f_outcome_holds : List D → R D := runD 7 2 b_outcome_holds
/-! are_parents(thing): thing 0, node 1, parent 2 -/
def b_are_parents : SX := (sSeq (sIf (bOr (bNot (c1 (cIsi "tuple") (vVar 0))) (c2 cGt (v1 dLen (vVar 0)) (vC (.int (250))))) (sRet (vC (.bool false))) sNx) (sRet (vB (c1 cAll (vL (lComp (iEnumE (vVar 0)) (.many [1, 2]) bYes (vCall f_is_integer_from [(vVar 2), (vC (.int (-1))), (v2 dSub (vVar 1) (vC (.int 1)))])))))))
def f_are_parents : List D → R D := runD 3 1 b_are_parents
/-! is_tree_of(book, thing): book 0, thing 1, outside 2, parents 3, entries 4 -/
def b_is_tree_of : SX := (sSeq (sIf (bNot (bTr (vCall f_is_tuple_of [(vVar 1), (vC (.int 3))]))) (sRet (vC (.bool false))) sNx) (sSeq (sPut (.many [2, 3, 4]) (vVar 1)) (sSeq (sIf (bOr (bNot (bTr (vCall f_is_number_below [(vVar 2), (v2 dIx (vVar 0) (vC (.int 0)))]))) (bNot (bTr (vCall f_are_parents [(vVar 3)])))) (sRet (vC (.bool false))) sNx) (sRet (vCall f_is_tuple_of [(vVar 4), (v1 dLen (vVar 3))])))))
def f_is_tree_of : List D → R D := runD 5 2 b_is_tree_of
/-! is_tree(book, thing): book 0, thing 1 -/
def b_is_tree : SX := (sSeq (sExpr (vCall f_check_book [(vVar 0)])) (sRet (vB (bAnd (bTr (vCall f_is_tree_of [(vVar 0), (vVar 1)])) (bTr (vCall f_are_numbers_below [(v2 dIx (vVar 1) (vC (.int 2))), (v2 dIx (vVar 0) (vC (.int 0)))]))))))
def f_is_tree : List D → R D := runD 2 2 b_is_tree
/-! check_tree(book, thing): book 0, thing 1 -/
def b_check_tree : SX := (sIf (bNot (bTr (vCall f_is_tree [(vVar 0), (vVar 1)]))) (sErr "BadTree") sNx)
def f_check_tree : List D → R D := runD 2 2 b_check_tree
/-! rest_of(book, tree): book 0, tree 1 -/
def b_rest_of : SX := (sSeq (sExpr (vCall f_check_tree [(vVar 0), (vVar 1)])) sUnk)
def f_rest_of : List D → R D := runD 2 2 b_rest_of
/-! run_steps(book, tree, steps): book 0, tree 1, steps 2, place 3, step 4 -/
def b_run_steps : SX := (sSeq (sExpr (vCall f_check_tree [(vVar 0), (vVar 1)])) sUnk)
def f_run_steps : List D → R D := runD 5 3 b_run_steps
/-! join_runs(book, tree, one, other): book 0, tree 1, one 2, other 3, one_tree 4, other_tree 5 -/
def b_join_runs : SX := (sSeq (sSet 4 (vCall f_run_steps [(vVar 0), (vVar 1), (vVar 2)])) sUnk)
def f_join_runs : List D → R D := runD 6 4 b_join_runs
/-! is_reader(book, thing): book 0, thing 1 -/
def b_is_reader : SX := (sSeq (sExpr (vCall f_check_book [(vVar 0)])) sUnk)
def f_is_reader : List D → R D := runD 2 2 b_is_reader
/-! reader_of(book): book 0 -/
def b_reader_of : SX := (sSeq (sExpr (vCall f_check_book [(vVar 0)])) sUnk)
def f_reader_of : List D → R D := runD 1 1 b_reader_of
/-! reader_holds(book, reader): book 0, reader 1 -/
def b_reader_holds : SX := (sSeq (sExpr (vCall f_check_book [(vVar 0)])) sUnk)
def f_reader_holds : List D → R D := runD 2 2 b_reader_holds
/-! two_readers(book, other): book 0, other 1 -/
def b_two_readers : SX := (sSeq (sExpr (vCall f_check_book [(vVar 0)])) (sSeq (sExpr (vCall f_check_book [(vVar 1)])) (sSeq (sIf (c2 cNe (v2 dIx (vVar 0) (vC (.int 0))) (v2 dIx (vVar 1) (vC (.int 0)))) (sErr "UnlikeBooks") sNx) sUnk)))
def f_two_readers : List D → R D := runD 2 2 b_two_readers
/-! first_difference(book, other): book 0, other 1, reader 2, other_reader 3 -/
def b_first_difference : SX := (sSeq (sPut (.many [2, 3]) (vCall f_two_readers [(vVar 0), (vVar 1)])) sUnk)
def f_first_difference : List D → R D := runD 4 2 b_first_difference
/-! first_clash(book, other): book 0, other 1, reader 2, other_reader 3, there 4, back 5 -/
def b_first_clash : SX := (sSeq (sPut (.many [2, 3]) (vCall f_two_readers [(vVar 0), (vVar 1)])) sUnk)
def f_first_clash : List D → R D := runD 6 2 b_first_clash
/-! law_first_doors(door, book, good): door 0, book 1, good 2, many 3, tree 4 -/
def b_law_first_doors : SX := (sSeq (sSet 3 (v2 dIx (vVar 2) (vC (.int 0)))) (sSeq (sSet 4 (vTup [(vC (.int 0)), (vTup []), (vTup [])])) (sIf (c2 cEq (vVar 0) (vC (.int 0))) (sExpr (vCall f_outcome_of [(vVar 1)])) (sIf (c2 cEq (vVar 0) (vC (.int 1))) (sExpr (vCall f_outcome_holds [(vVar 1), (vTup [(vC (.str (PySem.Str.ofString "one"))), (vL (vArgs []))])])) (sIf (c2 cEq (vVar 0) (vC (.int 2))) (sExpr (vCall f_rest_of [(vVar 1), (vVar 4)])) (sIf (c2 cEq (vVar 0) (vC (.int 3))) (sExpr (vCall f_join_runs [(vVar 1), (vVar 4), (vL (vArgs [])), (vL (vArgs []))])) (sIf (c2 cEq (vVar 0) (vC (.int 4))) (sExpr (vCall f_is_reader [(vVar 1), (vTup [(v2 dRepT (vTup [(vC (.int 0))]) (vVar 3)), (vTup [(v2 dRepT (vTup [(vTup [(vC (.int 0)), (vC (.int 0))])]) (vVar 3))])])])) (sIf (c2 cEq (vVar 0) (vC (.int 5))) (sExpr (vCall f_reader_of [(vVar 1)])) (sIf (c2 cEq (vVar 0) (vC (.int 6))) (sExpr (vCall f_reader_holds [(vVar 1), (vTup [(v2 dRepT (vTup [(vC (.int 0))]) (vVar 3)), (vTup [(v2 dRepT (vTup [(vTup [(vC (.int 0)), (vC (.int 0))])]) (vVar 3))])])])) (sIf (c2 cEq (vVar 0) (vC (.int 7))) (sExpr (vCall f_first_difference [(vVar 1), (vVar 2)])) (sIf (c2 cEq (vVar 0) (vC (.int 8))) (sExpr (vCall f_first_difference [(vVar 2), (vVar 1)])) (sExpr (vCall f_first_clash [(vVar 1), (vVar 2)])))))))))))))
def f_law_first_doors : List D → R D := runD 5 3 b_law_first_doors
/-! spare_rules(book): book 0, reader 1, number 2 -/
def b_spare_rules : SX := (sSeq (sExpr (vCall f_check_book [(vVar 0)])) sUnk)
def f_spare_rules : List D → R D := runD 3 1 b_spare_rules
/-! check_few_rules(book): book 0 -/
def b_check_few_rules : SX := (sSeq (sExpr (vCall f_check_book [(vVar 0)])) sUnk)
def f_check_few_rules : List D → R D := runD 1 1 b_check_few_rules
/-! fewest_rules(book): book 0, reader 1, numbers 2, chosen 3, number 4 -/
def b_fewest_rules : SX := (sSeq (sExpr (vCall f_check_few_rules [(vVar 0)])) sUnk)
def f_fewest_rules : List D → R D := runD 5 1 b_fewest_rules
/-! fewest_removals(book): book 0, numbers 1 -/
def b_fewest_removals : SX := (sSeq (sExpr (vCall f_check_few_rules [(vVar 0)])) sUnk)
def f_fewest_removals : List D → R D := runD 2 1 b_fewest_removals
/-! check_settled_node(book, tree, node, state): book 0, tree 1, node 2, state 3 -/
def b_check_settled_node : SX := (sSeq (sExpr (vCall f_check_tree [(vVar 0), (vVar 1)])) sUnk)
def f_check_settled_node : List D → R D := runD 4 4 b_check_settled_node
/-! changed_nodes(book, tree, node, state): book 0, tree 1, node 2, state 3, rests 4, other_rests 5, k 6 -/
def b_changed_nodes : SX := (sSeq (sExpr (vCall f_check_settled_node [(vVar 0), (vVar 1), (vVar 2), (vVar 3)])) sUnk)
def f_changed_nodes : List D → R D := runD 7 4 b_changed_nodes
/-! change_reach(book): book 0, reader 1, ranks 2, reach 3, widest 4, change 5, found 6 -/
def b_change_reach : SX := (sSeq (sSet 1 (vCall f_reader_of [(vVar 0)])) sUnk)
def f_change_reach : List D → R D := runD 7 1 b_change_reach
/-! pair_ranks(rows): rows 0, ranks 1, grown 2, pair 3, below 4, other 5, row 6, _ 7, after 8 -/
def b_pair_ranks : SX := sUnk
def f_pair_ranks : List D → R D := runD 9 1 b_pair_ranks
/-! reach_ranks(book): book 0, ranks 1, row 2, other 3 -/
def b_reach_ranks : SX := (sSeq (sSet 1 (vCall f_pair_ranks [(v2 dIx (vCall f_reader_of [(vVar 0)]) (vC (.int 1)))])) sUnk)
def f_reach_ranks : List D → R D := runD 4 1 b_reach_ranks
/-! touched_states(book, held): book 0, held 1, state 2, touched 3, number 4, _ 5, own 6, new 7, signal 8, moves 9, old 10, after 11 -/
def b_touched_states : SX := (sSeq (sExpr (vCall f_check_book [(vVar 0)])) sUnk)
def f_touched_states : List D → R D := runD 12 2 b_touched_states
/-! law_later_doors(door, book, good): door 0, book 1, good 2, tree 3 -/
def b_law_later_doors : SX := (sSeq (sSet 3 (vTup [(vC (.int 0)), (vTup [(v1 dNeg (vC (.int 1)))]), (vTup [(vC (.int 0))])])) (sIf (c2 cEq (vVar 0) (vC (.int 10))) (sExpr (vCall f_first_clash [(vVar 2), (vVar 1)])) (sIf (c2 cEq (vVar 0) (vC (.int 11))) (sExpr (vCall f_spare_rules [(vVar 1)])) (sIf (c2 cEq (vVar 0) (vC (.int 12))) (sExpr (vCall f_fewest_rules [(vVar 1)])) (sIf (c2 cEq (vVar 0) (vC (.int 13))) (sExpr (vCall f_fewest_removals [(vVar 1)])) (sIf (c2 cEq (vVar 0) (vC (.int 14))) (sExpr (vCall f_changed_nodes [(vVar 1), (vVar 3), (vC (.int 0)), (vC (.int 0))])) (sIf (c2 cEq (vVar 0) (vC (.int 15))) (sExpr (vCall f_change_reach [(vVar 1)])) (sIf (c2 cEq (vVar 0) (vC (.int 16))) (sExpr (vCall f_reach_ranks [(vVar 1)])) (sExpr (vCall f_touched_states [(vVar 1), (vL (vArgs [(vC (.int 0))]))]))))))))))
def f_law_later_doors : List D → R D := runD 4 3 b_law_later_doors
/-! law_refused(door, book, good): door 0, book 1, good 2, found 3, e 4, above 5 -/
def b_law_refused : SX := (sSeq (sSet 3 (vC .none)) (sSeq (sTryES tabl (sIf (c2 cLt (vVar 0) (vC (.int 10))) (sExpr (vCall f_law_first_doors [(vVar 0), (vVar 1), (vVar 2)])) (sExpr (vCall f_law_later_doors [(vVar 0), (vVar 1), (vVar 2)]))) [("BadBook", 4, (sSeq (sSet 5 (vB (bAnd (bTr (vIsE tabi 4 "RestError")) (bTr (vIsE tabi 4 "ValueError"))))) (sSet 3 (vB (bAnd (bTr (vVar 5)) (bAnd (bNot (bTr (vIsEs tabi 4 ["NoEnd", "NoOneRest", "BadTree", "BadReader"]))) (bNot (bTr (vIsE tabi 4 "BadState")))))))))]) (sRet (vB (c2 cIs (vVar 3) (vC (.bool true)))))))
def f_law_refused : List D → R D := runD 6 3 b_law_refused
/-! law(script): script 0, deck 1, spoil 2, many 3, rules 4, bad 5, good 6, start 7, turn 8 -/
def b_law : SX := (sSeq (sOwn 1 (lCall f_law_deck [(vVar 0), (vC (.int 0))])) (sSeq (zSet 2 (wCallI f_law_pick [(.io 1), (.ex (uX (vC (.int 24))))])) (sSeq (zSet 3 (DL.w2 dAdd (uX (vC (.int 2))) (wCallI f_law_pick [(.io 1), (.ex (uX (vC (.int 3))))]))) (sSeq (sOwn 4 (vArgs [])) (sSeq (zExpr (wCallI f_law_free [(.io 1), (.ex (uX (vVar 3))), (.io 4), (.ex (DL.w2 dAdd (uX (vC (.int 1))) (wCallI f_law_pick [(.io 1), (.ex (uX (vC (.int 7))))])))])) (sSeq (zSet 5 (wCallI f_law_bad [(.io 1), (.ex (uX (vTup [(vVar 3), (v1 dTup (vRd 4))]))), (.ex (uX (vVar 2)))])) (sSeq (sSet 6 (vTup [(vVar 3), (vTup [])])) (sSeq (zSet 7 (wCallI f_law_pick [(.io 1), (.ex (uX (vC (.int 18))))])) (sSeq (sFor (iRange1 (vC (.int 18))) (.one 8) (sIf (bNot (bTr (vCall f_law_refused [(v2 dMod (v1 dInt (v2 dAdd (vVar 7) (v2 dMul (vC (.int 5)) (vVar 8)))) (vC (.int 18))), (vVar 5), (vVar 6)]))) (sRet (vC (.bool false))) sNx)) (sRet (vC (.bool true))))))))))))
def f_law : List D → R D := runD 9 1 b_law
end
end K38
namespace K38
open PySem DL
theorem is_integer_ (d : D) : f_is_integer [d] = ok (.bool (match d with | .int _ => true | _ => false)) := by
  cases d <;> rfl
theorem int_from (d : D) (lo hi : Int) : f_is_integer_from [d, .int lo, .int hi] = ok (.bool (isNum lo hi d)) := by
  cases d with
  | int i =>
    by_cases h1 : lo ≤ i <;> by_cases h2 : i ≤ hi <;>
    simp [f_is_integer_from, b_is_integer_from, isNum, e_vVar, e_vRd, e_vC, e_v1, e_v2, e_c1, e_c2, e_l1, e_l2, e_vL, e_vB, e_vArgs0, e_vArgs, e_vTup, e_vCall, e_vIf, e_bTr, e_bNot, e_bAnd, e_bOr, e_bChain, e_iSeq, e_iRange1, e_iRange2, e_vCut, e_vOpt0, e_vOpt, e_sNx, e_sBk, e_sCt, e_sSeq, e_sSet, e_sOwn, e_sPut, e_sFreeze, e_sRet, e_sExpr, e_sIf, e_sApp, e_sPar, e_sFor, runD, slots, so_ok, rb_ok, rb_none, so_none, po_some, List.getElem?_cons_zero, List.getElem?_cons_succ, List.set_cons_zero, List.set_cons_succ, List.map_cons, List.map_nil, List.length_cons, List.length_nil, List.replicate, List.append_nil, List.cons_append, List.nil_append, rb_er, so_er, e_sErr, e_sTry, e_iEnumE, e_sSetIx, e_uX, e_w1, e_w2, e_wc2, e_wl1, e_wl2, e_wL, e_wB, e_wTr, e_wNot, e_wAnd, e_wOr, e_wIf, e_wArgs0, e_wArgs, e_wTup, e_wCall, e_zSet, e_zOwn, e_zPut, e_zRet, e_zRt, e_zExpr, e_zIf, e_zFor, e_sRetL, sb_ok, sb_none, up_ok, up_none, up_po, soS_ok, soS_none, is_integer_, dTr, cLe, h1, h2]
  | _ => rfl
theorem below (d : D) (n : Int) : f_is_number_below [d, .int n] = ok (.bool (isNum 0 (n - 1) d)) := by
  simp [f_is_number_below, b_is_number_below, e_vVar, e_vRd, e_vC, e_v1, e_v2, e_c1, e_c2, e_l1, e_l2, e_vL, e_vB, e_vArgs0, e_vArgs, e_vTup, e_vCall, e_vIf, e_bTr, e_bNot, e_bAnd, e_bOr, e_bChain, e_iSeq, e_iRange1, e_iRange2, e_vCut, e_vOpt0, e_vOpt, e_sNx, e_sBk, e_sCt, e_sSeq, e_sSet, e_sOwn, e_sPut, e_sFreeze, e_sRet, e_sExpr, e_sIf, e_sApp, e_sPar, e_sFor, runD, slots, so_ok, rb_ok, rb_none, so_none, po_some, List.getElem?_cons_zero, List.getElem?_cons_succ, List.set_cons_zero, List.set_cons_succ, List.map_cons, List.map_nil, List.length_cons, List.length_nil, List.replicate, List.append_nil, List.cons_append, List.nil_append, rb_er, so_er, e_sErr, e_sTry, e_iEnumE, e_sSetIx, e_uX, e_w1, e_w2, e_wc2, e_wl1, e_wl2, e_wL, e_wB, e_wTr, e_wNot, e_wAnd, e_wOr, e_wIf, e_wArgs0, e_wArgs, e_wTup, e_wCall, e_zSet, e_zOwn, e_zPut, e_zRet, e_zRt, e_zExpr, e_zIf, e_zFor, e_sRetL, sb_ok, sb_none, up_ok, up_none, up_po, soS_ok, soS_none, int_from, dSub]
theorem tup_of (d : D) (n : Int) : f_is_tuple_of [d, .int n] = ok (.bool (isTup n d)) := by
  cases d with
  | tuple xs => simp [f_is_tuple_of, b_is_tuple_of, e_vVar, e_vRd, e_vC, e_v1, e_v2, e_c1, e_c2, e_l1, e_l2, e_vL, e_vB, e_vArgs0, e_vArgs, e_vTup, e_vCall, e_vIf, e_bTr, e_bNot, e_bAnd, e_bOr, e_bChain, e_iSeq, e_iRange1, e_iRange2, e_vCut, e_vOpt0, e_vOpt, e_sNx, e_sBk, e_sCt, e_sSeq, e_sSet, e_sOwn, e_sPut, e_sFreeze, e_sRet, e_sExpr, e_sIf, e_sApp, e_sPar, e_sFor, runD, slots, so_ok, rb_ok, rb_none, so_none, po_some, List.getElem?_cons_zero, List.getElem?_cons_succ, List.set_cons_zero, List.set_cons_succ, List.map_cons, List.map_nil, List.length_cons, List.length_nil, List.replicate, List.append_nil, List.cons_append, List.nil_append, rb_er, so_er, e_sErr, e_sTry, e_iEnumE, e_sSetIx, e_uX, e_w1, e_w2, e_wc2, e_wl1, e_wl2, e_wL, e_wB, e_wTr, e_wNot, e_wAnd, e_wOr, e_wIf, e_wArgs0, e_wArgs, e_wTup, e_wCall, e_zSet, e_zOwn, e_zPut, e_zRet, e_zRt, e_zExpr, e_zIf, e_zFor, e_sRetL, sb_ok, sb_none, up_ok, up_none, up_po, soS_ok, soS_none, cIsi, isInst, tyName, dLen, eq_int, isTup]
  | _ => rfl
theorem are_below (xs : List D) (n : Int) (h : xs.length ≤ lim) : f_are_numbers_below [.tuple xs, .int n] = ok (.bool (xs.all (isNum 0 (n - 1)))) := by
  have := lcomp_map (it := iSeq (vVar 0)) (i := 2) (e := vCall f_is_number_below [vVar 2, vVar 1]) (r := [.d (.tuple xs), .d (.int n), .un]) (xs := xs) (fun x => .bool (isNum 0 (n - 1) x)) rfl h (fun x _ => by simp [e_vVar, e_vRd, e_vC, e_v1, e_v2, e_c1, e_c2, e_l1, e_l2, e_vL, e_vB, e_vArgs0, e_vArgs, e_vTup, e_vCall, e_vIf, e_bTr, e_bNot, e_bAnd, e_bOr, e_bChain, e_iSeq, e_iRange1, e_iRange2, e_vCut, e_vOpt0, e_vOpt, e_sNx, e_sBk, e_sCt, e_sSeq, e_sSet, e_sOwn, e_sPut, e_sFreeze, e_sRet, e_sExpr, e_sIf, e_sApp, e_sPar, e_sFor, runD, slots, so_ok, rb_ok, rb_none, so_none, po_some, List.getElem?_cons_zero, List.getElem?_cons_succ, List.set_cons_zero, List.set_cons_succ, List.map_cons, List.map_nil, List.length_cons, List.length_nil, List.replicate, List.append_nil, List.cons_append, List.nil_append, rb_er, so_er, e_sErr, e_sTry, e_iEnumE, e_sSetIx, e_uX, e_w1, e_w2, e_wc2, e_wl1, e_wl2, e_wL, e_wB, e_wTr, e_wNot, e_wAnd, e_wOr, e_wIf, e_wArgs0, e_wArgs, e_wTup, e_wCall, e_zSet, e_zOwn, e_zPut, e_zRet, e_zRt, e_zExpr, e_zIf, e_zFor, e_sRetL, sb_ok, sb_none, up_ok, up_none, up_po, soS_ok, soS_none, below])
  simp [f_are_numbers_below, b_are_numbers_below, e_vVar, e_vRd, e_vC, e_v1, e_v2, e_c1, e_c2, e_l1, e_l2, e_vL, e_vB, e_vArgs0, e_vArgs, e_vTup, e_vCall, e_vIf, e_bTr, e_bNot, e_bAnd, e_bOr, e_bChain, e_iSeq, e_iRange1, e_iRange2, e_vCut, e_vOpt0, e_vOpt, e_sNx, e_sBk, e_sCt, e_sSeq, e_sSet, e_sOwn, e_sPut, e_sFreeze, e_sRet, e_sExpr, e_sIf, e_sApp, e_sPar, e_sFor, runD, slots, so_ok, rb_ok, rb_none, so_none, po_some, List.getElem?_cons_zero, List.getElem?_cons_succ, List.set_cons_zero, List.set_cons_succ, List.map_cons, List.map_nil, List.length_cons, List.length_nil, List.replicate, List.append_nil, List.cons_append, List.nil_append, rb_er, so_er, e_sErr, e_sTry, e_iEnumE, e_sSetIx, e_uX, e_w1, e_w2, e_wc2, e_wl1, e_wl2, e_wL, e_wB, e_wTr, e_wNot, e_wAnd, e_wOr, e_wIf, e_wArgs0, e_wArgs, e_wTup, e_wCall, e_zSet, e_zOwn, e_zPut, e_zRet, e_zRt, e_zExpr, e_zIf, e_zFor, e_sRetL, sb_ok, sb_none, up_ok, up_none, up_po, soS_ok, soS_none, this, cAll_map]
/-- a rule of a book with n states -/
def isRule (n : Int) : D → Bool
  | .tuple [a, b, c, .tuple s] => isNum 0 (n - 1) a && isNum 0 (n - 1) b && isNum 0 (n - 1) c && !(PyData.eqv b c) && (((s.length : Nat) : Int) == n) && s.all (isNum 0 (n - 1))
  | _ => false
theorem four (xs : List D) (h : xs.length = 4) : ∃ a b c d, xs = [a, b, c, d] := by
  match xs, h with
  | [a, b, c, d], _ => exact ⟨a, b, c, d, rfl⟩
theorem two (xs : List D) (h : xs.length = 2) : ∃ a b, xs = [a, b] := by
  match xs, h with
  | [a, b], _ => exact ⟨a, b, rfl⟩
theorem eq_num {lo hi : Int} {x y : D} (h1 : isNum lo hi x = true) (h2 : isNum lo hi y = true) : cEq x y = some (PyData.eqv x y) := by
  obtain ⟨i, rfl, _⟩ := isNum_int h1
  obtain ⟨j, rfl, _⟩ := isNum_int h2
  rfl
theorem is_rule_ (n : Int) (hn : n ≤ lim) (d : D) : f_is_rule [.int n, d] = ok (.bool (isRule n d)) := by
  by_cases h4 : isTup 4 d = true
  · cases d with
    | tuple xs =>
      obtain ⟨a, b, c, s, rfl⟩ := four xs (by simp [isTup] at h4; omega)
      have h3 : ([a, b, c] : List D).length ≤ lim := (show 3 ≤ lim by decide)
      have e0 : (Tg.many [2, 3, 4, 5]).put (.tuple [a, b, c, s]) [.d (.int n), .d (.tuple [a, b, c, s]), .un, .un, .un, .un] = some [.d (.int n), .d (.tuple [a, b, c, s]), .d a, .d b, .d c, .d s] := rfl
      by_cases ha : (([a, b, c] : List D).all (isNum 0 (n - 1))) = true
      · have hbc : isNum 0 (n - 1) a = true ∧ isNum 0 (n - 1) b = true ∧ isNum 0 (n - 1) c = true := by simpa using ha
        have e1 := eq_num hbc.2.1 hbc.2.2
        by_cases he : PyData.eqv b c = true
        · have : isRule n (.tuple [a, b, c, s]) = false := by cases s <;> simp [isRule, he]
          simp [f_is_rule, b_is_rule, e_vVar, e_vRd, e_vC, e_v1, e_v2, e_c1, e_c2, e_l1, e_l2, e_vL, e_vB, e_vArgs0, e_vArgs, e_vTup, e_vCall, e_vIf, e_bTr, e_bNot, e_bAnd, e_bOr, e_bChain, e_iSeq, e_iRange1, e_iRange2, e_vCut, e_vOpt0, e_vOpt, e_sNx, e_sBk, e_sCt, e_sSeq, e_sSet, e_sOwn, e_sPut, e_sFreeze, e_sRet, e_sExpr, e_sIf, e_sApp, e_sPar, e_sFor, runD, slots, so_ok, rb_ok, rb_none, so_none, po_some, List.getElem?_cons_zero, List.getElem?_cons_succ, List.set_cons_zero, List.set_cons_succ, List.map_cons, List.map_nil, List.length_cons, List.length_nil, List.replicate, List.append_nil, List.cons_append, List.nil_append, rb_er, so_er, e_sErr, e_sTry, e_iEnumE, e_sSetIx, e_uX, e_w1, e_w2, e_wc2, e_wl1, e_wl2, e_wL, e_wB, e_wTr, e_wNot, e_wAnd, e_wOr, e_wIf, e_wArgs0, e_wArgs, e_wTup, e_wCall, e_zSet, e_zOwn, e_zPut, e_zRet, e_zRt, e_zExpr, e_zIf, e_zFor, e_sRetL, sb_ok, sb_none, up_ok, up_none, up_po, soS_ok, soS_none, tup_of, h4, dTr, e0, are_below _ _ h3, ha, e1, he, this]
        · by_cases hs : isTup n s = true
          · cases s with
            | tuple s =>
              have hs' : ((s.length : Nat) : Int) = n := by simpa [isTup] using hs
              have hl : s.length ≤ lim := by omega
              simp [f_is_rule, b_is_rule, e_vVar, e_vRd, e_vC, e_v1, e_v2, e_c1, e_c2, e_l1, e_l2, e_vL, e_vB, e_vArgs0, e_vArgs, e_vTup, e_vCall, e_vIf, e_bTr, e_bNot, e_bAnd, e_bOr, e_bChain, e_iSeq, e_iRange1, e_iRange2, e_vCut, e_vOpt0, e_vOpt, e_sNx, e_sBk, e_sCt, e_sSeq, e_sSet, e_sOwn, e_sPut, e_sFreeze, e_sRet, e_sExpr, e_sIf, e_sApp, e_sPar, e_sFor, runD, slots, so_ok, rb_ok, rb_none, so_none, po_some, List.getElem?_cons_zero, List.getElem?_cons_succ, List.set_cons_zero, List.set_cons_succ, List.map_cons, List.map_nil, List.length_cons, List.length_nil, List.replicate, List.append_nil, List.cons_append, List.nil_append, rb_er, so_er, e_sErr, e_sTry, e_iEnumE, e_sSetIx, e_uX, e_w1, e_w2, e_wc2, e_wl1, e_wl2, e_wL, e_wB, e_wTr, e_wNot, e_wAnd, e_wOr, e_wIf, e_wArgs0, e_wArgs, e_wTup, e_wCall, e_zSet, e_zOwn, e_zPut, e_zRet, e_zRt, e_zExpr, e_zIf, e_zFor, e_sRetL, sb_ok, sb_none, up_ok, up_none, up_po, soS_ok, soS_none, tup_of, h4, dTr, e0, are_below _ _ h3, ha, e1, he, hs, are_below _ _ hl, isRule, hbc, hs']
            | _ => cases hs
          · have : isRule n (.tuple [a, b, c, s]) = false := by
              cases s with
              | tuple s => simp only [isTup, Bool.not_eq_true] at hs; simp [isRule, hs]
              | _ => rfl
            simp [f_is_rule, b_is_rule, e_vVar, e_vRd, e_vC, e_v1, e_v2, e_c1, e_c2, e_l1, e_l2, e_vL, e_vB, e_vArgs0, e_vArgs, e_vTup, e_vCall, e_vIf, e_bTr, e_bNot, e_bAnd, e_bOr, e_bChain, e_iSeq, e_iRange1, e_iRange2, e_vCut, e_vOpt0, e_vOpt, e_sNx, e_sBk, e_sCt, e_sSeq, e_sSet, e_sOwn, e_sPut, e_sFreeze, e_sRet, e_sExpr, e_sIf, e_sApp, e_sPar, e_sFor, runD, slots, so_ok, rb_ok, rb_none, so_none, po_some, List.getElem?_cons_zero, List.getElem?_cons_succ, List.set_cons_zero, List.set_cons_succ, List.map_cons, List.map_nil, List.length_cons, List.length_nil, List.replicate, List.append_nil, List.cons_append, List.nil_append, rb_er, so_er, e_sErr, e_sTry, e_iEnumE, e_sSetIx, e_uX, e_w1, e_w2, e_wc2, e_wl1, e_wl2, e_wL, e_wB, e_wTr, e_wNot, e_wAnd, e_wOr, e_wIf, e_wArgs0, e_wArgs, e_wTup, e_wCall, e_zSet, e_zOwn, e_zPut, e_zRet, e_zRt, e_zExpr, e_zIf, e_zFor, e_sRetL, sb_ok, sb_none, up_ok, up_none, up_po, soS_ok, soS_none, tup_of, h4, dTr, e0, are_below _ _ h3, ha, e1, he, hs, this]
      · have : isRule n (.tuple [a, b, c, s]) = false := by
          cases s with
          | tuple s => simp only [List.all_cons, List.all_nil, Bool.and_true, Bool.not_eq_true] at ha; simp only [isRule, Bool.and_assoc]; revert ha; cases isNum 0 (n - 1) a <;> cases isNum 0 (n - 1) b <;> cases isNum 0 (n - 1) c <;> simp
          | _ => rfl
        simp [f_is_rule, b_is_rule, e_vVar, e_vRd, e_vC, e_v1, e_v2, e_c1, e_c2, e_l1, e_l2, e_vL, e_vB, e_vArgs0, e_vArgs, e_vTup, e_vCall, e_vIf, e_bTr, e_bNot, e_bAnd, e_bOr, e_bChain, e_iSeq, e_iRange1, e_iRange2, e_vCut, e_vOpt0, e_vOpt, e_sNx, e_sBk, e_sCt, e_sSeq, e_sSet, e_sOwn, e_sPut, e_sFreeze, e_sRet, e_sExpr, e_sIf, e_sApp, e_sPar, e_sFor, runD, slots, so_ok, rb_ok, rb_none, so_none, po_some, List.getElem?_cons_zero, List.getElem?_cons_succ, List.set_cons_zero, List.set_cons_succ, List.map_cons, List.map_nil, List.length_cons, List.length_nil, List.replicate, List.append_nil, List.cons_append, List.nil_append, rb_er, so_er, e_sErr, e_sTry, e_iEnumE, e_sSetIx, e_uX, e_w1, e_w2, e_wc2, e_wl1, e_wl2, e_wL, e_wB, e_wTr, e_wNot, e_wAnd, e_wOr, e_wIf, e_wArgs0, e_wArgs, e_wTup, e_wCall, e_zSet, e_zOwn, e_zPut, e_zRet, e_zRt, e_zExpr, e_zIf, e_zFor, e_sRetL, sb_ok, sb_none, up_ok, up_none, up_po, soS_ok, soS_none, tup_of, h4, dTr, e0, are_below _ _ h3, ha, this]
    | _ => cases h4
  · have : isRule n d = false := by
      unfold isRule
      split
      · exact absurd rfl h4
      · rfl
    simp [f_is_rule, b_is_rule, e_vVar, e_vRd, e_vC, e_v1, e_v2, e_c1, e_c2, e_l1, e_l2, e_vL, e_vB, e_vArgs0, e_vArgs, e_vTup, e_vCall, e_vIf, e_bTr, e_bNot, e_bAnd, e_bOr, e_bChain, e_iSeq, e_iRange1, e_iRange2, e_vCut, e_vOpt0, e_vOpt, e_sNx, e_sBk, e_sCt, e_sSeq, e_sSet, e_sOwn, e_sPut, e_sFreeze, e_sRet, e_sExpr, e_sIf, e_sApp, e_sPar, e_sFor, runD, slots, so_ok, rb_ok, rb_none, so_none, po_some, List.getElem?_cons_zero, List.getElem?_cons_succ, List.set_cons_zero, List.set_cons_succ, List.map_cons, List.map_nil, List.length_cons, List.length_nil, List.replicate, List.append_nil, List.cons_append, List.nil_append, rb_er, so_er, e_sErr, e_sTry, e_iEnumE, e_sSetIx, e_uX, e_w1, e_w2, e_wc2, e_wl1, e_wl2, e_wL, e_wB, e_wTr, e_wNot, e_wAnd, e_wOr, e_wIf, e_wArgs0, e_wArgs, e_wTup, e_wCall, e_zSet, e_zOwn, e_zPut, e_zRet, e_zRt, e_zExpr, e_zIf, e_zFor, e_sRetL, sb_ok, sb_none, up_ok, up_none, up_po, soS_ok, soS_none, tup_of, h4, dTr, this]
def isBook : D → Bool
  | .tuple [.int n, .tuple rs] => isNum 1 4 (.int n) && decide (rs.length ≤ 12) && rs.all (isRule n) && fresh [] rs
  | _ => false
theorem rule_deep {n : Int} {d : D} (h : isRule n d = true) : deepI 2 d = true ∧ ∃ xs, d = .tuple xs := by
  unfold isRule at h
  split at h
  · rename_i a b c s
    simp only [Bool.and_eq_true] at h
    obtain ⟨⟨⟨⟨⟨h1, h2⟩, h3⟩, _⟩, _⟩, h4⟩ := h
    refine ⟨?_, _, rfl⟩
    obtain ⟨i, rfl, _⟩ := isNum_int h1
    obtain ⟨j, rfl, _⟩ := isNum_int h2
    obtain ⟨k, rfl, _⟩ := isNum_int h3
    have : s.all (deepI 0) = true := List.all_eq_true.mpr fun x hx => by
      obtain ⟨m, rfl, _⟩ := isNum_int (List.all_eq_true.mp h4 x hx)
      rfl
    simp only [deepI, List.all_cons, List.all_nil, this, Bool.and_true]
  · cases h
theorem deep_up : ∀ (n : Nat) {d : D}, deepI n d = true → deepI (n + 1) d = true := by
  intro n
  induction n with
  | zero => intro d h; cases d <;> first | rfl | cases h
  | succ n ih =>
    intro d h
    cases d with
    | int i => rfl
    | tuple xs => exact List.all_eq_true.mpr fun x hx => ih (List.all_eq_true.mp (show xs.all (deepI n) = true from h) x hx)
    | _ => cases h
theorem shaped_of {n : Nat} {d : D} (h : deepI n d = true) (hn : n ≤ 64 := by omega) : SeqAt.shaped d = true := by
  obtain ⟨h1, h2⟩ := deepI_lay n h
  unfold SeqAt.shaped
  rw [h1, decide_eq_true (Nat.le_trans h2 hn)]
  rfl
theorem len_set {n : Int} {rs : List D} (h : rs.all (isRule n) = true) (hl : rs.length ≤ 40) : dLenSet (.tuple rs) = some (.int ((unlike [] rs).length : Nat)) := by
  have : (rs.all (fun d => (match d with | .tuple _ => true | _ => false) && deepI 3 d) && decide (rs.length ≤ 40)) = true := by
    rw [Bool.and_eq_true, decide_eq_true_eq]
    refine ⟨List.all_eq_true.mpr fun x hx => ?_, hl⟩
    obtain ⟨h1, xs, rfl⟩ := rule_deep (List.all_eq_true.mp h x hx)
    exact deep_up 2 h1
  exact if_pos this
theorem len_fresh (rs : List D) : ((((unlike [] rs).length : Nat) : Int) == ((rs.length : Nat) : Int)) = fresh [] rs := by
  have h := (unlike_len rs []).2
  rw [← h, List.length_nil, Nat.zero_add]
  rw [Bool.eq_iff_iff, beq_iff_eq, beq_iff_eq]
  omega
theorem is_book_ (d : D) : f_is_book [d] = ok (.bool (isBook d)) := by
  by_cases h2 : isTup 2 d = true
  · cases d with
    | tuple xs =>
      obtain ⟨n, rs, rfl⟩ := two xs (by simp [isTup] at h2; omega)
      have e0 : (Tg.many [1, 2]).put (.tuple [n, rs]) [.d (.tuple [n, rs]), .un, .un, .un] = some [.d (.tuple [n, rs]), .d n, .d rs, .un] := rfl
      by_cases hn : isNum 1 4 n = true
      · obtain ⟨n, rfl, n1, n4⟩ := isNum_int hn
        cases rs with
        | tuple rs =>
          by_cases hl : rs.length ≤ 12
          · have hl' : ¬ (12 : Int) < ((rs.length : Nat) : Int) := by omega
            have hlim : rs.length ≤ lim := Nat.le_trans hl (by decide)
            have e1 := lcomp_map (it := iSeq (vVar 2)) (i := 3) (e := vCall f_is_rule [vVar 1, vVar 3]) (r := [.d (.tuple [.int n, .tuple rs]), .d (.int n), .d (.tuple rs), .un]) (xs := rs) (fun x => .bool (isRule n x)) rfl hlim
              (fun x _ => by simp [e_vVar, e_vRd, e_vC, e_v1, e_v2, e_c1, e_c2, e_l1, e_l2, e_vL, e_vB, e_vArgs0, e_vArgs, e_vTup, e_vCall, e_vIf, e_bTr, e_bNot, e_bAnd, e_bOr, e_bChain, e_iSeq, e_iRange1, e_iRange2, e_vCut, e_vOpt0, e_vOpt, e_sNx, e_sBk, e_sCt, e_sSeq, e_sSet, e_sOwn, e_sPut, e_sFreeze, e_sRet, e_sExpr, e_sIf, e_sApp, e_sPar, e_sFor, runD, slots, so_ok, rb_ok, rb_none, so_none, po_some, List.getElem?_cons_zero, List.getElem?_cons_succ, List.set_cons_zero, List.set_cons_succ, List.map_cons, List.map_nil, List.length_cons, List.length_nil, List.replicate, List.append_nil, List.cons_append, List.nil_append, rb_er, so_er, e_sErr, e_sTry, e_iEnumE, e_sSetIx, e_uX, e_w1, e_w2, e_wc2, e_wl1, e_wl2, e_wL, e_wB, e_wTr, e_wNot, e_wAnd, e_wOr, e_wIf, e_wArgs0, e_wArgs, e_wTup, e_wCall, e_zSet, e_zOwn, e_zPut, e_zRet, e_zRt, e_zExpr, e_zIf, e_zFor, e_sRetL, sb_ok, sb_none, up_ok, up_none, up_po, soS_ok, soS_none, is_rule_ n (Int.le_trans n4 (by decide))])
            by_cases hr : rs.all (isRule n) = true
            · have e2 := len_set hr (by omega)
              have e3 := len_fresh rs
              simp [f_is_book, b_is_book, e_vVar, e_vRd, e_vC, e_v1, e_v2, e_c1, e_c2, e_l1, e_l2, e_vL, e_vB, e_vArgs0, e_vArgs, e_vTup, e_vCall, e_vIf, e_bTr, e_bNot, e_bAnd, e_bOr, e_bChain, e_iSeq, e_iRange1, e_iRange2, e_vCut, e_vOpt0, e_vOpt, e_sNx, e_sBk, e_sCt, e_sSeq, e_sSet, e_sOwn, e_sPut, e_sFreeze, e_sRet, e_sExpr, e_sIf, e_sApp, e_sPar, e_sFor, runD, slots, so_ok, rb_ok, rb_none, so_none, po_some, List.getElem?_cons_zero, List.getElem?_cons_succ, List.set_cons_zero, List.set_cons_succ, List.map_cons, List.map_nil, List.length_cons, List.length_nil, List.replicate, List.append_nil, List.cons_append, List.nil_append, rb_er, so_er, e_sErr, e_sTry, e_iEnumE, e_sSetIx, e_uX, e_w1, e_w2, e_wc2, e_wl1, e_wl2, e_wL, e_wB, e_wTr, e_wNot, e_wAnd, e_wOr, e_wIf, e_wArgs0, e_wArgs, e_wTup, e_wCall, e_zSet, e_zOwn, e_zPut, e_zRet, e_zRt, e_zExpr, e_zIf, e_zFor, e_sRetL, sb_ok, sb_none, up_ok, up_none, up_po, soS_ok, soS_none, tup_of, h2, dTr, e0, int_from, hn, cIsi, isInst, tyName, dLen, cGt, hl', e1, cAll_map, hr, e2, eq_int, e3, isBook, hl]
            · simp [f_is_book, b_is_book, e_vVar, e_vRd, e_vC, e_v1, e_v2, e_c1, e_c2, e_l1, e_l2, e_vL, e_vB, e_vArgs0, e_vArgs, e_vTup, e_vCall, e_vIf, e_bTr, e_bNot, e_bAnd, e_bOr, e_bChain, e_iSeq, e_iRange1, e_iRange2, e_vCut, e_vOpt0, e_vOpt, e_sNx, e_sBk, e_sCt, e_sSeq, e_sSet, e_sOwn, e_sPut, e_sFreeze, e_sRet, e_sExpr, e_sIf, e_sApp, e_sPar, e_sFor, runD, slots, so_ok, rb_ok, rb_none, so_none, po_some, List.getElem?_cons_zero, List.getElem?_cons_succ, List.set_cons_zero, List.set_cons_succ, List.map_cons, List.map_nil, List.length_cons, List.length_nil, List.replicate, List.append_nil, List.cons_append, List.nil_append, rb_er, so_er, e_sErr, e_sTry, e_iEnumE, e_sSetIx, e_uX, e_w1, e_w2, e_wc2, e_wl1, e_wl2, e_wL, e_wB, e_wTr, e_wNot, e_wAnd, e_wOr, e_wIf, e_wArgs0, e_wArgs, e_wTup, e_wCall, e_zSet, e_zOwn, e_zPut, e_zRet, e_zRt, e_zExpr, e_zIf, e_zFor, e_sRetL, sb_ok, sb_none, up_ok, up_none, up_po, soS_ok, soS_none, tup_of, h2, dTr, e0, int_from, hn, cIsi, isInst, tyName, dLen, cGt, hl', e1, cAll_map, hr, isBook]
          · have hl' : (12 : Int) < ((rs.length : Nat) : Int) := by omega
            simp [f_is_book, b_is_book, e_vVar, e_vRd, e_vC, e_v1, e_v2, e_c1, e_c2, e_l1, e_l2, e_vL, e_vB, e_vArgs0, e_vArgs, e_vTup, e_vCall, e_vIf, e_bTr, e_bNot, e_bAnd, e_bOr, e_bChain, e_iSeq, e_iRange1, e_iRange2, e_vCut, e_vOpt0, e_vOpt, e_sNx, e_sBk, e_sCt, e_sSeq, e_sSet, e_sOwn, e_sPut, e_sFreeze, e_sRet, e_sExpr, e_sIf, e_sApp, e_sPar, e_sFor, runD, slots, so_ok, rb_ok, rb_none, so_none, po_some, List.getElem?_cons_zero, List.getElem?_cons_succ, List.set_cons_zero, List.set_cons_succ, List.map_cons, List.map_nil, List.length_cons, List.length_nil, List.replicate, List.append_nil, List.cons_append, List.nil_append, rb_er, so_er, e_sErr, e_sTry, e_iEnumE, e_sSetIx, e_uX, e_w1, e_w2, e_wc2, e_wl1, e_wl2, e_wL, e_wB, e_wTr, e_wNot, e_wAnd, e_wOr, e_wIf, e_wArgs0, e_wArgs, e_wTup, e_wCall, e_zSet, e_zOwn, e_zPut, e_zRet, e_zRt, e_zExpr, e_zIf, e_zFor, e_sRetL, sb_ok, sb_none, up_ok, up_none, up_po, soS_ok, soS_none, tup_of, h2, dTr, e0, int_from, hn, cIsi, isInst, tyName, dLen, cGt, hl', isBook, hl]
        | _ => simp [f_is_book, b_is_book, e_vVar, e_vRd, e_vC, e_v1, e_v2, e_c1, e_c2, e_l1, e_l2, e_vL, e_vB, e_vArgs0, e_vArgs, e_vTup, e_vCall, e_vIf, e_bTr, e_bNot, e_bAnd, e_bOr, e_bChain, e_iSeq, e_iRange1, e_iRange2, e_vCut, e_vOpt0, e_vOpt, e_sNx, e_sBk, e_sCt, e_sSeq, e_sSet, e_sOwn, e_sPut, e_sFreeze, e_sRet, e_sExpr, e_sIf, e_sApp, e_sPar, e_sFor, runD, slots, so_ok, rb_ok, rb_none, so_none, po_some, List.getElem?_cons_zero, List.getElem?_cons_succ, List.set_cons_zero, List.set_cons_succ, List.map_cons, List.map_nil, List.length_cons, List.length_nil, List.replicate, List.append_nil, List.cons_append, List.nil_append, rb_er, so_er, e_sErr, e_sTry, e_iEnumE, e_sSetIx, e_uX, e_w1, e_w2, e_wc2, e_wl1, e_wl2, e_wL, e_wB, e_wTr, e_wNot, e_wAnd, e_wOr, e_wIf, e_wArgs0, e_wArgs, e_wTup, e_wCall, e_zSet, e_zOwn, e_zPut, e_zRet, e_zRt, e_zExpr, e_zIf, e_zFor, e_sRetL, sb_ok, sb_none, up_ok, up_none, up_po, soS_ok, soS_none, tup_of, h2, dTr, e0, int_from, hn, cIsi, isInst, tyName, isBook]
      · have : isBook (.tuple [n, rs]) = false := by
          cases n <;> cases rs <;> first | rfl | (simp only [Bool.not_eq_true] at hn; simp [isBook, hn])
        simp [f_is_book, b_is_book, e_vVar, e_vRd, e_vC, e_v1, e_v2, e_c1, e_c2, e_l1, e_l2, e_vL, e_vB, e_vArgs0, e_vArgs, e_vTup, e_vCall, e_vIf, e_bTr, e_bNot, e_bAnd, e_bOr, e_bChain, e_iSeq, e_iRange1, e_iRange2, e_vCut, e_vOpt0, e_vOpt, e_sNx, e_sBk, e_sCt, e_sSeq, e_sSet, e_sOwn, e_sPut, e_sFreeze, e_sRet, e_sExpr, e_sIf, e_sApp, e_sPar, e_sFor, runD, slots, so_ok, rb_ok, rb_none, so_none, po_some, List.getElem?_cons_zero, List.getElem?_cons_succ, List.set_cons_zero, List.set_cons_succ, List.map_cons, List.map_nil, List.length_cons, List.length_nil, List.replicate, List.append_nil, List.cons_append, List.nil_append, rb_er, so_er, e_sErr, e_sTry, e_iEnumE, e_sSetIx, e_uX, e_w1, e_w2, e_wc2, e_wl1, e_wl2, e_wL, e_wB, e_wTr, e_wNot, e_wAnd, e_wOr, e_wIf, e_wArgs0, e_wArgs, e_wTup, e_wCall, e_zSet, e_zOwn, e_zPut, e_zRet, e_zRt, e_zExpr, e_zIf, e_zFor, e_sRetL, sb_ok, sb_none, up_ok, up_none, up_po, soS_ok, soS_none, tup_of, h2, dTr, e0, int_from, hn, this]
    | _ => cases h2
  · have : isBook d = false := by
      unfold isBook
      split
      · exact absurd rfl h2
      · rfl
    simp [f_is_book, b_is_book, e_vVar, e_vRd, e_vC, e_v1, e_v2, e_c1, e_c2, e_l1, e_l2, e_vL, e_vB, e_vArgs0, e_vArgs, e_vTup, e_vCall, e_vIf, e_bTr, e_bNot, e_bAnd, e_bOr, e_bChain, e_iSeq, e_iRange1, e_iRange2, e_vCut, e_vOpt0, e_vOpt, e_sNx, e_sBk, e_sCt, e_sSeq, e_sSet, e_sOwn, e_sPut, e_sFreeze, e_sRet, e_sExpr, e_sIf, e_sApp, e_sPar, e_sFor, runD, slots, so_ok, rb_ok, rb_none, so_none, po_some, List.getElem?_cons_zero, List.getElem?_cons_succ, List.set_cons_zero, List.set_cons_succ, List.map_cons, List.map_nil, List.length_cons, List.length_nil, List.replicate, List.append_nil, List.cons_append, List.nil_append, rb_er, so_er, e_sErr, e_sTry, e_iEnumE, e_sSetIx, e_uX, e_w1, e_w2, e_wc2, e_wl1, e_wl2, e_wL, e_wB, e_wTr, e_wNot, e_wAnd, e_wOr, e_wIf, e_wArgs0, e_wArgs, e_wTup, e_wCall, e_zSet, e_zOwn, e_zPut, e_zRet, e_zRt, e_zExpr, e_zIf, e_zFor, e_sRetL, sb_ok, sb_none, up_ok, up_none, up_po, soS_ok, soS_none, tup_of, h2, dTr, this]
theorem rules_shaped {n : Int} {rs : List D} (h : rs.all (isRule n) = true) : SeqAt.shaped (.tuple rs) = true ∧ SeqAt.shaped (.list rs) = true := by
  have h1 : rs.all (deepI 2) = true := List.all_eq_true.mpr fun x hx => (rule_deep (List.all_eq_true.mp h x hx)).1
  have h3 := shaped_of (n := 3) (d := PyData.tuple rs) h1
  exact ⟨h3, h3⟩
theorem notIn_of {n : Int} {rs : List D} {x : D} (h : rs.all (isRule n) = true) (hx : isRule n x = true) : cNotIn x (.tuple rs) = some (!rs.any fun z => PyData.eqv z x) ∧ cNotIn x (.list rs) = some (!rs.any fun z => PyData.eqv z x) := by
  have h1 := shaped_of (rule_deep hx).1
  have h2 := rules_shaped h
  constructor
  · show (if _ then _ else _) = _
    rw [if_pos (by rw [h1, h2.1]; rfl)]
  · show (if _ then _ else _) = _
    rw [if_pos (by rw [h1, h2.2]; rfl)]
def again (rs : List D) : D → Bool
  | .int i => (rs.take i.toNat).any fun z => PyData.eqv z (rs[i.toNat]?.getD .none)
  | _ => false
/-- a list of whole numbers -/
abbrev nums (ns : List Int) : D := .list (ns.map PyData.int)
/-! ### rules -/
theorem num_is {lo hi i : Int} (h1 : lo ≤ i) (h2 : i ≤ hi) : isNum lo hi (.int i) = true := by simp [isNum, h1, h2]
/-- what a law's book is like -/
structure Bk (d : D) (n : Int) (rs : List D) : Prop where
  eq : d = .tuple [.int n, .tuple rs]
  n1 : 1 ≤ n
  n4 : n ≤ 4
  len : rs.length ≤ 12
  ok : rs.all (isRule n) = true
  once : fresh [] rs = true
theorem Bk.is {d : D} {n : Int} {rs : List D} (b : Bk d n rs) : isBook d = true := by
  rw [b.eq]
  simp [isBook, num_is b.n1 b.n4, b.len, b.ok, b.once]
theorem big : lim = 16777216 := rfl
/-! ### the law -/
theorem Bk.size {d : D} {n : Int} {rs : List D} (b : Bk d n rs) : lv 4 d = true ∧ wt d ≤ 200 := by
  have one : ∀ x, isRule n x = true → lv 2 x = true ∧ wt x ≤ 9 := by
    intro x hx
    unfold isRule at hx
    split at hx
    · rename_i p q r s
      simp only [Bool.and_eq_true] at hx
      obtain ⟨⟨⟨⟨⟨h1, h2⟩, h3⟩, _⟩, h5⟩, h4⟩ := hx
      obtain ⟨i, rfl, _⟩ := isNum_int h1
      obtain ⟨j, rfl, _⟩ := isNum_int h2
      obtain ⟨k, rfl, _⟩ := isNum_int h3
      have hs : s.all (lv 0) = true ∧ wts s = s.length := by
        clear h5
        induction s with
        | nil => exact ⟨rfl, rfl⟩
        | cons y s ih =>
          rw [List.all_cons, Bool.and_eq_true] at h4
          obtain ⟨m, rfl, _⟩ := isNum_int h4.1
          obtain ⟨g1, g2⟩ := ih h4.2
          exact ⟨by rw [List.all_cons, g1]; rfl, by rw [wts, g2, List.length_cons]; simp only [wt]; omega⟩
      have hl : s.length ≤ 4 := by
        have := b.n4
        rw [beq_iff_eq] at h5
        omega
      refine ⟨?_, ?_⟩
      · show (lv 1 (.int i) && (lv 1 (.int j) && (lv 1 (.int k) && (s.all (lv 0) && true)))) = true
        rw [hs.1]
        rfl
      · simp only [wt, wts, hs.2]
        omega
    · cases hx
  have all : ∀ rs : List D, rs.all (isRule n) = true → rs.all (lv 2) = true ∧ wts rs ≤ 9 * rs.length := by
    intro rs
    induction rs with
    | nil => exact fun _ => ⟨rfl, Nat.le_refl _⟩
    | cons r rs ih =>
      intro h
      rw [List.all_cons, Bool.and_eq_true] at h
      obtain ⟨g1, g2⟩ := ih h.2
      obtain ⟨o1, o2⟩ := one r h.1
      exact ⟨by rw [List.all_cons, o1, g1]; rfl, by rw [wts, List.length_cons]; omega⟩
  obtain ⟨a1, a2⟩ := all rs b.ok
  have hl := b.len
  rw [b.eq]
  refine ⟨?_, ?_⟩
  · show (lv 3 (.int n) && (rs.all (lv 2) && true)) = true
    rw [a1]
    rfl
  · simp only [wt, wts]
    omega
end K38
namespace K38
open PySem DL
theorem check_book_ (d : D) : f_check_book [d] = if isBook d = true then ok .none else er ⟨"BadBook", none⟩ := by
  cases h : isBook d <;> simp [f_check_book, b_check_book, e_vVar, e_vRd, e_vC, e_v1, e_v2, e_c1, e_c2, e_l1, e_l2, e_vL, e_vB, e_vArgs0, e_vArgs, e_vTup, e_vCall, e_vIf, e_bTr, e_bNot, e_bAnd, e_bOr, e_bChain, e_iSeq, e_iRange1, e_iRange2, e_vCut, e_vOpt0, e_vOpt, e_sNx, e_sBk, e_sCt, e_sSeq, e_sSet, e_sOwn, e_sPut, e_sFreeze, e_sRet, e_sExpr, e_sIf, e_sApp, e_sPar, e_sFor, runD, slots, so_ok, rb_ok, rb_none, so_none, po_some, List.getElem?_cons_zero, List.getElem?_cons_succ, List.set_cons_zero, List.set_cons_succ, List.map_cons, List.map_nil, List.length_cons, List.length_nil, List.replicate, List.append_nil, List.cons_append, List.nil_append, rb_er, so_er, e_sErr, e_sTry, e_iEnumE, e_sSetIx, e_uX, e_w1, e_w2, e_wc2, e_wl1, e_wl2, e_wL, e_wB, e_wTr, e_wNot, e_wAnd, e_wOr, e_wIf, e_wArgs0, e_wArgs, e_wTup, e_wCall, e_zSet, e_zOwn, e_zPut, e_zRet, e_zRt, e_zExpr, e_zIf, e_zFor, e_sRetL, sb_ok, sb_none, up_ok, up_none, up_po, soS_ok, soS_none, is_book_, h, tr_bool]
def isTree (n : Int) : D → Bool
  | .tuple [o, .tuple ps, .tuple ss] => isNum 0 (n - 1) o && (decide (ps.length ≤ 250) && pOk 0 ps) && (((ss.length : Nat) : Int) == ((ps.length : Nat) : Int)) && ss.all (isNum 0 (n - 1))
  | _ => false
end K38
namespace K38
open PySem DL
/-- plain data: no dict -/
def pl : Nat → D → Bool
  | _, .none => true
  | _, .bool _ => true
  | _, .int _ => true
  | _, .str x => cEq (.str x) (.str x) == some true
  | n + 1, .list xs => xs.all (pl n)
  | n + 1, .tuple xs => xs.all (pl n)
  | _, _ => false
end K38
namespace K38
open PySem DL
/-! Books, trees and runs with their parts as numbers. -/
abbrev nd (k : Nat) : D := .int (k : Nat)
abbrev ndl (xs : List Nat) : List D := xs.map nd
abbrev idl (xs : List Int) : List D := xs.map PyData.int
structure Rl where
  a : Nat
  o : Nat
  w : Nat
  sg : List Nat
abbrev eR (r : Rl) : D := .tuple [nd r.a, nd r.o, nd r.w, .tuple (ndl r.sg)]
structure okR (n : Nat) (r : Rl) : Prop where
  a : r.a < n
  o : r.o < n
  w : r.w < n
  ne : r.o ≠ r.w
  len : r.sg.length = n
  sg : ∀ x ∈ r.sg, x < n
abbrev eB (n : Nat) (R : List Rl) : D := .tuple [nd n, .tuple (R.map eR)]
structure Bo (n : Nat) (R : List Rl) : Prop where
  n1 : 1 ≤ n
  n4 : n ≤ 4
  len : R.length ≤ 12
  ok : ∀ r ∈ R, okR n r
  is : isBook (eB n R) = true
theorem num_nat {n : Nat} {d : D} (h : isNum 0 ((n : Nat) - 1) d = true) : ∃ k : Nat, d = nd k ∧ k < n := by
  obtain ⟨i, rfl, h1, h2⟩ := isNum_int h
  exact ⟨i.toNat, by show PyData.int i = .int _; congr 1; omega, by omega⟩
theorem nums_nat {n : Nat} : ∀ {xs : List D}, xs.all (isNum 0 ((n : Nat) - 1)) = true → ∃ ks : List Nat, xs = ndl ks ∧ ∀ k ∈ ks, k < n
  | [], _ => ⟨[], rfl, fun _ h => nomatch h⟩
  | x :: xs, h => by
    rw [List.all_cons, Bool.and_eq_true] at h
    obtain ⟨k, rfl, hk⟩ := num_nat h.1
    obtain ⟨ks, rfl, hks⟩ := nums_nat h.2
    exact ⟨k :: ks, rfl, fun j hj => (List.mem_cons.mp hj).elim (fun e => e ▸ hk) (hks j)⟩
theorem rule_nat {n : Nat} {d : D} (h : isRule (n : Nat) d = true) : ∃ r, d = eR r ∧ okR n r := by
  unfold isRule at h
  split at h
  · rename_i a b c s
    simp only [Bool.and_eq_true] at h
    obtain ⟨⟨⟨⟨⟨h1, h2⟩, h3⟩, h6⟩, h5⟩, h4⟩ := h
    obtain ⟨i, rfl, hi⟩ := num_nat h1
    obtain ⟨j, rfl, hj⟩ := num_nat h2
    obtain ⟨k, rfl, hk⟩ := num_nat h3
    obtain ⟨ks, rfl, hks⟩ := nums_nat h4
    refine ⟨⟨i, j, k, ks⟩, rfl, hi, hj, hk, fun e => ?_, ?_, hks⟩
    · have e : j = k := e
      subst e
      have : PyData.eqv (nd j) (nd j) = true := by show (((j : Nat) : Int) == ((j : Nat) : Int)) = true; simp
      rw [this] at h6
      cases h6
    · rw [List.length_map, beq_iff_eq] at h5
      show ks.length = n
      omega
  · cases h
theorem rules_nat {n : Nat} : ∀ {xs : List D}, xs.all (isRule (n : Nat)) = true → ∃ R : List Rl, xs = R.map eR ∧ ∀ r ∈ R, okR n r
  | [], _ => ⟨[], rfl, fun _ h => nomatch h⟩
  | x :: xs, h => by
    rw [List.all_cons, Bool.and_eq_true] at h
    obtain ⟨k, rfl, hk⟩ := rule_nat h.1
    obtain ⟨ks, rfl, hks⟩ := rules_nat h.2
    exact ⟨k :: ks, rfl, fun j hj => (List.mem_cons.mp hj).elim (fun e => e ▸ hk) (hks j)⟩
/-! ### trees -/
abbrev eT (o : Nat) (ps : List Int) (ss : List Nat) : D := .tuple [nd o, .tuple (idl ps), .tuple (ndl ss)]
structure Te (n o : Nat) (ps : List Int) (ss : List Nat) : Prop where
  o : o < n
  par : ∀ (i : Nat) (p : Int), ps[i]? = some p → -1 ≤ p ∧ p < i
  len : ss.length = ps.length
  most : ps.length ≤ 250
  ok : ∀ x ∈ ss, x < n
theorem pOk_of : ∀ (ps : List Int) (k : Nat), (∀ (i : Nat) (p : Int), ps[i]? = some p → -1 ≤ p ∧ p < ((k + i : Nat) : Int)) → pOk k (idl ps) = true
  | [], _, _ => rfl
  | p :: ps, k, h => by
    have h0 := h 0 p rfl
    show (isNum (-1) ((k : Nat) - 1) (.int p) && pOk (k + 1) (idl ps)) = true
    rw [pOk_of ps (k + 1) fun i q hq => by
      have := h (i + 1) q hq
      rw [show k + 1 + i = k + (i + 1) by omega]
      exact this]
    rw [num_is h0.1 (by omega)]
    rfl
theorem all_nat {n : Nat} {ks : List Nat} (h : ∀ k ∈ ks, k < n) : (ndl ks).all (isNum 0 ((n : Nat) - 1)) = true := List.all_eq_true.mpr fun x hx => by
  obtain ⟨k, hk, rfl⟩ := List.mem_map.mp hx
  have := h k hk
  exact num_is (by omega) (by omega)
theorem Te.is {n o : Nat} {ps : List Int} {ss : List Nat} (T : Te n o ps ss) : isTree (n : Nat) (eT o ps ss) = true := by
  have h1 : pOk 0 (idl ps) = true := pOk_of ps 0 fun i p h => by rw [Nat.zero_add]; exact T.par i p h
  have h2 := all_nat T.ok
  have ho := T.o
  have h3 : isNum 0 ((n : Nat) - 1) (nd o) = true := num_is (by omega) (by omega)
  have h4 : ps.length ≤ 250 := T.most
  have h5 := T.len
  simp only [isTree, h1, h2, h3, List.length_map, h4, h5, decide_true, Bool.and_self, beq_self_eq_true]
section
variable {n o : Nat} {R : List Rl} {ps : List Int} {ss : List Nat}
theorem xrule {k : Nat} {r : Rl} (h : R[k]? = some r) : dIx (.tuple (R.map eR)) (.int (k : Nat)) = some (eR r) := by rw [ixt, List.getElem?_map, h]; rfl
theorem Bo.at (B : Bo n R) {k : Nat} {r : Rl} (h : R[k]? = some r) : okR n r := B.ok r (List.mem_of_getElem? h)
end
end K38
namespace K38
open PySem DL
/-! The deck: one whole number from which the law draws. -/
theorem deck_ (ns : List Int) (p : Nat) (hp : p ≤ 1000) : ∃ v : Int, f_law_deck [nums ns, .int (p : Nat)] = ok [.int v] := by
  have p18 : dPow (.int 10) (.int 18) = some (.int 1000000000000000000) := rfl
  have p12 : dPow (.int 10) (.int 12) = some (.int 1000000000000) := rfl
  have hr : rng1 (.int 10) = some (rng 0 10) := rng1_nat (n := 10) (by decide)
  have s1 : small64 69069 = true := by decide
  have s2 : small64 1000000000000 = true := by decide
  have s3 : small64 89 = true := by decide
  have s4 : small64 7 = true := by decide
  suffices h : ∃ v : Int, b_law_deck (slots 6 [nums ns, .int (p : Nat)]) = some (.rl [.int v]) by
    obtain ⟨v, h⟩ := h
    exact ⟨v, by simp only [f_law_deck, runO, h, List.length_cons, List.length_nil, if_true]⟩
  have tail : ∀ c : Int, ∃ v : Int, (sSeq (sIf (c2 cGe (vVar 2) (v2 dPow (vC (.int 10)) (vC (.int 18)))) (sRetL (vArgs [(v2 dSub (vVar 2) (v2 dPow (vC (.int 10)) (vC (.int 18))))])) sNx) (sSeq (sSet 3 (v2 dAdd (v2 dAdd (v2 dMul (v2 dMod (v1 dInt (vVar 2)) (v2 dPow (vC (.int 10)) (vC (.int 18)))) (vC (.int 89))) (v2 dMul (vC (.int 7)) (vVar 1))) (vC (.int 5)))) (sSeq (sSet 4 (vC (.int 0))) (sSeq (sFor (iRange1 (vC (.int 10))) (.one 5) (sSeq (sSet 3 (v2 dMod (v1 dInt (v2 dAdd (v2 dAdd (v2 dAdd (v2 dMul (vVar 3) (vVar 3)) (v2 dMul (vC (.int 69069)) (vVar 3))) (v2 dMul (vVar 5) (vVar 5))) (vC (.int 11)))) (vC (.int 1000000000039)))) (sSet 4 (v2 dAdd (v2 dMul (vVar 4) (v2 dPow (vC (.int 10)) (vC (.int 12)))) (vVar 3))))) (sRetL (vArgs [(vVar 4)])))))) [.d (nums ns), .d (.int (p : Nat)), .d (.int c), .un, .un, .un] = some (.rl [.int v]) := by
    intro c
    by_cases hc : 1000000000000000000 ≤ c
    · exact ⟨c - 1000000000000000000, by simp only [e_vVar, e_vRd, e_vC, e_v1, e_v2, e_c1, e_c2, e_l1, e_l2, e_vL, e_vB, e_vArgs0, e_vArgs, e_vTup, e_vCall, e_vIf, e_bTr, e_bNot, e_bAnd, e_bOr, e_bChain, e_iSeq, e_iRange1, e_iRange2, e_vCut, e_vOpt0, e_vOpt, e_sNx, e_sBk, e_sCt, e_sSeq, e_sSet, e_sOwn, e_sPut, e_sFreeze, e_sRet, e_sExpr, e_sIf, e_sApp, e_sPar, e_sFor, runD, slots, so_ok, rb_ok, rb_none, so_none, po_some, List.getElem?_cons_zero, List.getElem?_cons_succ, List.set_cons_zero, List.set_cons_succ, List.map_cons, List.map_nil, List.length_cons, List.length_nil, List.replicate, List.append_nil, List.cons_append, List.nil_append, rb_er, so_er, e_sErr, e_sTry, e_iEnumE, e_sSetIx, e_uX, e_w1, e_w2, e_wc2, e_wl1, e_wl2, e_wL, e_wB, e_wTr, e_wNot, e_wAnd, e_wOr, e_wIf, e_wArgs0, e_wArgs, e_wTup, e_wCall, e_zSet, e_zOwn, e_zPut, e_zRet, e_zRt, e_zExpr, e_zIf, e_zFor, e_sRetL, sb_ok, sb_none, up_ok, up_none, up_po, soS_ok, soS_none, Bool.not_true, Bool.not_false, Bool.false_eq_true, Bool.true_and, Bool.false_and, Bool.and_true, Bool.and_false, Bool.true_or, Bool.false_or, Bool.or_true, Bool.or_false, if_true, if_false, Option.map_some, tr_bool, int_int, add_int, sub_int, e_sRetL, p18, ge_int, hc, decide_true]⟩
    · simp only [e_vVar, e_vRd, e_vC, e_v1, e_v2, e_c1, e_c2, e_l1, e_l2, e_vL, e_vB, e_vArgs0, e_vArgs, e_vTup, e_vCall, e_vIf, e_bTr, e_bNot, e_bAnd, e_bOr, e_bChain, e_iSeq, e_iRange1, e_iRange2, e_vCut, e_vOpt0, e_vOpt, e_sNx, e_sBk, e_sCt, e_sSeq, e_sSet, e_sOwn, e_sPut, e_sFreeze, e_sRet, e_sExpr, e_sIf, e_sApp, e_sPar, e_sFor, runD, slots, so_ok, rb_ok, rb_none, so_none, po_some, List.getElem?_cons_zero, List.getElem?_cons_succ, List.set_cons_zero, List.set_cons_succ, List.map_cons, List.map_nil, List.length_cons, List.length_nil, List.replicate, List.append_nil, List.cons_append, List.nil_append, rb_er, so_er, e_sErr, e_sTry, e_iEnumE, e_sSetIx, e_uX, e_w1, e_w2, e_wc2, e_wl1, e_wl2, e_wL, e_wB, e_wTr, e_wNot, e_wAnd, e_wOr, e_wIf, e_wArgs0, e_wArgs, e_wTup, e_wCall, e_zSet, e_zOwn, e_zPut, e_zRet, e_zRt, e_zExpr, e_zIf, e_zFor, e_sRetL, sb_ok, sb_none, up_ok, up_none, up_po, soS_ok, soS_none, Bool.not_true, Bool.not_false, Bool.false_eq_true, Bool.true_and, Bool.false_and, Bool.and_true, Bool.and_false, Bool.true_or, Bool.false_or, Bool.or_true, Bool.or_false, if_true, if_false, Option.map_some, tr_bool, int_int, add_int, sub_int, e_sRetL, p18, ge_int, hc, decide_false, mod_int _ _ (show (0 : Int) < 1000000000000000000 by decide), mulR _ _ s3, mulL _ _ s4, hr]
      generalize hv : c % 1000000000000000000 * 89 + 7 * ((p : Nat) : Int) + 5 = v0
      have hv0 : 0 ≤ v0 ∧ v0 < 2 ^ 100 := by
        have a1 := Int.emod_nonneg c (show (1000000000000000000 : Int) ≠ 0 by decide)
        have a2 := Int.emod_lt_of_pos c (show (0 : Int) < 1000000000000000000 by decide)
        omega
      generalize hL : loopF _ _ _ _ = L
      obtain ⟨r', rfl, v, w, s5, rfl, _⟩ := loop_out hL (fun k r => ∃ (v w : Int) (s5 : Slot), r = [.d (nums ns), .d (.int (p : Nat)), .d (.int c), .d (.int v), .d (.int w), s5] ∧ (0 ≤ v ∧ v < 2 ^ 100)) ⟨v0, 0, .un, rfl, hv0⟩ (by
        rintro k x r hx ⟨v, w, s5, rfl, hv⟩
        have hk : k < 10 := by have := (List.getElem?_eq_some_iff.mp hx).1; rw [rng_size] at this; exact this
        rw [rng_at 0 10 k hk] at hx
        cases hx
        have j1 : small64 (0 + (k : Nat)) = true := small_of _ (by omega) (by omega)
        have m1 : dMul (.int v) (.int v) = some (.int (v * v)) := mulM _ _ (by omega) (by omega)
        generalize (0 + ((k : Nat) : Int)) = j at j1 ⊢
        refine ⟨_, [.d (nums ns), .d (.int (p : Nat)), .d (.int c), .d (.int ((v * v + 69069 * v + j * j + 11) % 1000000000039)), .d (.int (w * 1000000000000 + (v * v + 69069 * v + j * j + 11) % 1000000000039)), .d (.int j)], rfl, ?_, _, _, _, rfl, ?_⟩
        · simp only [e_vVar, e_vRd, e_vC, e_v1, e_v2, e_c1, e_c2, e_l1, e_l2, e_vL, e_vB, e_vArgs0, e_vArgs, e_vTup, e_vCall, e_vIf, e_bTr, e_bNot, e_bAnd, e_bOr, e_bChain, e_iSeq, e_iRange1, e_iRange2, e_vCut, e_vOpt0, e_vOpt, e_sNx, e_sBk, e_sCt, e_sSeq, e_sSet, e_sOwn, e_sPut, e_sFreeze, e_sRet, e_sExpr, e_sIf, e_sApp, e_sPar, e_sFor, runD, slots, so_ok, rb_ok, rb_none, so_none, po_some, List.getElem?_cons_zero, List.getElem?_cons_succ, List.set_cons_zero, List.set_cons_succ, List.map_cons, List.map_nil, List.length_cons, List.length_nil, List.replicate, List.append_nil, List.cons_append, List.nil_append, rb_er, so_er, e_sErr, e_sTry, e_iEnumE, e_sSetIx, e_uX, e_w1, e_w2, e_wc2, e_wl1, e_wl2, e_wL, e_wB, e_wTr, e_wNot, e_wAnd, e_wOr, e_wIf, e_wArgs0, e_wArgs, e_wTup, e_wCall, e_zSet, e_zOwn, e_zPut, e_zRet, e_zRt, e_zExpr, e_zIf, e_zFor, e_sRetL, sb_ok, sb_none, up_ok, up_none, up_po, soS_ok, soS_none, Bool.not_true, Bool.not_false, Bool.false_eq_true, Bool.true_and, Bool.false_and, Bool.and_true, Bool.and_false, Bool.true_or, Bool.false_or, Bool.or_true, Bool.or_false, if_true, if_false, Option.map_some, tr_bool, int_int, add_int, sub_int, m1, mulL _ _ s1, mulL _ _ j1, mod_int _ _ (show (0 : Int) < 1000000000039 by decide), p12, mulR _ _ s2]
        · generalize v * v + 69069 * v + j * j + 11 = z
          have a1 := Int.emod_nonneg z (show (1000000000039 : Int) ≠ 0 by decide)
          have a2 := Int.emod_lt_of_pos z (show (0 : Int) < 1000000000039 by decide)
          omega)
      exact ⟨w, by simp only [e_vVar, e_vRd, e_vC, e_v1, e_v2, e_c1, e_c2, e_l1, e_l2, e_vL, e_vB, e_vArgs0, e_vArgs, e_vTup, e_vCall, e_vIf, e_bTr, e_bNot, e_bAnd, e_bOr, e_bChain, e_iSeq, e_iRange1, e_iRange2, e_vCut, e_vOpt0, e_vOpt, e_sNx, e_sBk, e_sCt, e_sSeq, e_sSet, e_sOwn, e_sPut, e_sFreeze, e_sRet, e_sExpr, e_sIf, e_sApp, e_sPar, e_sFor, runD, slots, so_ok, rb_ok, rb_none, so_none, po_some, List.getElem?_cons_zero, List.getElem?_cons_succ, List.set_cons_zero, List.set_cons_succ, List.map_cons, List.map_nil, List.length_cons, List.length_nil, List.replicate, List.append_nil, List.cons_append, List.nil_append, rb_er, so_er, e_sErr, e_sTry, e_iEnumE, e_sSetIx, e_uX, e_w1, e_w2, e_wc2, e_wl1, e_wl2, e_wL, e_wB, e_wTr, e_wNot, e_wAnd, e_wOr, e_wIf, e_wArgs0, e_wArgs, e_wTup, e_wCall, e_zSet, e_zOwn, e_zPut, e_zRet, e_zRt, e_zExpr, e_zIf, e_zFor, e_sRetL, sb_ok, sb_none, up_ok, up_none, up_po, soS_ok, soS_none, Bool.not_true, Bool.not_false, Bool.false_eq_true, Bool.true_and, Bool.false_and, Bool.and_true, Bool.and_false, Bool.true_or, Bool.false_or, Bool.or_true, Bool.or_false, if_true, if_false, Option.map_some, tr_bool, int_int, add_int, sub_int, e_sRetL]⟩
  by_cases h : p < ns.length
  · have e : (ns.map PyData.int)[p]? = some (.int ns[p]) := by rw [List.getElem?_map, List.getElem?_eq_getElem h]; rfl
    obtain ⟨v, hv⟩ := tail ns[p]
    refine ⟨v, ?_⟩
    rw [b_law_deck]
    refine seq_nx (r1 := [.d (nums ns), .d (.int (p : Nat)), .d (.int 0), .un, .un, .un]) (by simp only [e_vVar, e_vRd, e_vC, e_v1, e_v2, e_c1, e_c2, e_l1, e_l2, e_vL, e_vB, e_vArgs0, e_vArgs, e_vTup, e_vCall, e_vIf, e_bTr, e_bNot, e_bAnd, e_bOr, e_bChain, e_iSeq, e_iRange1, e_iRange2, e_vCut, e_vOpt0, e_vOpt, e_sNx, e_sBk, e_sCt, e_sSeq, e_sSet, e_sOwn, e_sPut, e_sFreeze, e_sRet, e_sExpr, e_sIf, e_sApp, e_sPar, e_sFor, runD, slots, so_ok, rb_ok, rb_none, so_none, po_some, List.getElem?_cons_zero, List.getElem?_cons_succ, List.set_cons_zero, List.set_cons_succ, List.map_cons, List.map_nil, List.length_cons, List.length_nil, List.replicate, List.append_nil, List.cons_append, List.nil_append, rb_er, so_er, e_sErr, e_sTry, e_iEnumE, e_sSetIx, e_uX, e_w1, e_w2, e_wc2, e_wl1, e_wl2, e_wL, e_wB, e_wTr, e_wNot, e_wAnd, e_wOr, e_wIf, e_wArgs0, e_wArgs, e_wTup, e_wCall, e_zSet, e_zOwn, e_zPut, e_zRet, e_zRt, e_zExpr, e_zIf, e_zFor, e_sRetL, sb_ok, sb_none, up_ok, up_none, up_po, soS_ok, soS_none, Bool.not_true, Bool.not_false, Bool.false_eq_true, Bool.true_and, Bool.false_and, Bool.and_true, Bool.and_false, Bool.true_or, Bool.false_or, Bool.or_true, Bool.or_false, if_true, if_false, Option.map_some, tr_bool, int_int, add_int, sub_int]) ?_
    refine seq_nx (r1 := [.d (nums ns), .d (.int (p : Nat)), .d (.int ns[p]), .un, .un, .un]) (by simp [e_vVar, e_vRd, e_vC, e_v1, e_v2, e_c1, e_c2, e_l1, e_l2, e_vL, e_vB, e_vArgs0, e_vArgs, e_vTup, e_vCall, e_vIf, e_bTr, e_bNot, e_bAnd, e_bOr, e_bChain, e_iSeq, e_iRange1, e_iRange2, e_vCut, e_vOpt0, e_vOpt, e_sNx, e_sBk, e_sCt, e_sSeq, e_sSet, e_sOwn, e_sPut, e_sFreeze, e_sRet, e_sExpr, e_sIf, e_sApp, e_sPar, e_sFor, runD, slots, so_ok, rb_ok, rb_none, so_none, po_some, List.getElem?_cons_zero, List.getElem?_cons_succ, List.set_cons_zero, List.set_cons_succ, List.map_cons, List.map_nil, List.length_cons, List.length_nil, List.replicate, List.append_nil, List.cons_append, List.nil_append, rb_er, so_er, e_sErr, e_sTry, e_iEnumE, e_sSetIx, e_uX, e_w1, e_w2, e_wc2, e_wl1, e_wl2, e_wL, e_wB, e_wTr, e_wNot, e_wAnd, e_wOr, e_wIf, e_wArgs0, e_wArgs, e_wTup, e_wCall, e_zSet, e_zOwn, e_zPut, e_zRet, e_zRt, e_zExpr, e_zIf, e_zFor, e_sRetL, sb_ok, sb_none, up_ok, up_none, up_po, soS_ok, soS_none, Bool.not_true, Bool.not_false, Bool.false_eq_true, Bool.true_and, Bool.false_and, Bool.and_true, Bool.and_false, Bool.true_or, Bool.false_or, Bool.or_true, Bool.or_false, if_true, if_false, Option.map_some, tr_bool, int_int, add_int, sub_int, len_list, lt_int, h, ixl, e]) ?_
    exact hv
  · obtain ⟨v, hv⟩ := tail 0
    refine ⟨v, ?_⟩
    rw [b_law_deck]
    refine seq_nx (r1 := [.d (nums ns), .d (.int (p : Nat)), .d (.int 0), .un, .un, .un]) (by simp only [e_vVar, e_vRd, e_vC, e_v1, e_v2, e_c1, e_c2, e_l1, e_l2, e_vL, e_vB, e_vArgs0, e_vArgs, e_vTup, e_vCall, e_vIf, e_bTr, e_bNot, e_bAnd, e_bOr, e_bChain, e_iSeq, e_iRange1, e_iRange2, e_vCut, e_vOpt0, e_vOpt, e_sNx, e_sBk, e_sCt, e_sSeq, e_sSet, e_sOwn, e_sPut, e_sFreeze, e_sRet, e_sExpr, e_sIf, e_sApp, e_sPar, e_sFor, runD, slots, so_ok, rb_ok, rb_none, so_none, po_some, List.getElem?_cons_zero, List.getElem?_cons_succ, List.set_cons_zero, List.set_cons_succ, List.map_cons, List.map_nil, List.length_cons, List.length_nil, List.replicate, List.append_nil, List.cons_append, List.nil_append, rb_er, so_er, e_sErr, e_sTry, e_iEnumE, e_sSetIx, e_uX, e_w1, e_w2, e_wc2, e_wl1, e_wl2, e_wL, e_wB, e_wTr, e_wNot, e_wAnd, e_wOr, e_wIf, e_wArgs0, e_wArgs, e_wTup, e_wCall, e_zSet, e_zOwn, e_zPut, e_zRet, e_zRt, e_zExpr, e_zIf, e_zFor, e_sRetL, sb_ok, sb_none, up_ok, up_none, up_po, soS_ok, soS_none, Bool.not_true, Bool.not_false, Bool.false_eq_true, Bool.true_and, Bool.false_and, Bool.and_true, Bool.and_false, Bool.true_or, Bool.false_or, Bool.or_true, Bool.or_false, if_true, if_false, Option.map_some, tr_bool, int_int, add_int, sub_int]) ?_
    refine seq_nx (r1 := [.d (nums ns), .d (.int (p : Nat)), .d (.int 0), .un, .un, .un]) (by simp [e_vVar, e_vRd, e_vC, e_v1, e_v2, e_c1, e_c2, e_l1, e_l2, e_vL, e_vB, e_vArgs0, e_vArgs, e_vTup, e_vCall, e_vIf, e_bTr, e_bNot, e_bAnd, e_bOr, e_bChain, e_iSeq, e_iRange1, e_iRange2, e_vCut, e_vOpt0, e_vOpt, e_sNx, e_sBk, e_sCt, e_sSeq, e_sSet, e_sOwn, e_sPut, e_sFreeze, e_sRet, e_sExpr, e_sIf, e_sApp, e_sPar, e_sFor, runD, slots, so_ok, rb_ok, rb_none, so_none, po_some, List.getElem?_cons_zero, List.getElem?_cons_succ, List.set_cons_zero, List.set_cons_succ, List.map_cons, List.map_nil, List.length_cons, List.length_nil, List.replicate, List.append_nil, List.cons_append, List.nil_append, rb_er, so_er, e_sErr, e_sTry, e_iEnumE, e_sSetIx, e_uX, e_w1, e_w2, e_wc2, e_wl1, e_wl2, e_wL, e_wB, e_wTr, e_wNot, e_wAnd, e_wOr, e_wIf, e_wArgs0, e_wArgs, e_wTup, e_wCall, e_zSet, e_zOwn, e_zPut, e_zRet, e_zRt, e_zExpr, e_zIf, e_zFor, e_sRetL, sb_ok, sb_none, up_ok, up_none, up_po, soS_ok, soS_none, Bool.not_true, Bool.not_false, Bool.false_eq_true, Bool.true_and, Bool.false_and, Bool.and_true, Bool.and_false, Bool.true_or, Bool.false_or, Bool.or_true, Bool.or_false, if_true, if_false, Option.map_some, tr_bool, int_int, add_int, sub_int, len_list, lt_int, h]) ?_
    exact hv
theorem pick_ (a : Addr) (v m : Int) (h : 0 < m) (h2 : m < 1073741824) : f_law_pick [.io a [.int v], .d (.int m)] = some (.ok (.int (v % m)), [[.int (v / m)]]) := by
  have i0 : dIx (.list [.int v]) (.int 0) = some (.int v) := ixl [.int v] 0
  have x0 : ixAt 1 0 = some 0 := rfl
  suffices h : b_law_pick [.io a [.int v], .d (.int m), .un] = some (.ri (.int (v % m)) [.io a [.int (v / m)], .d (.int m), .d (.int (v % m))]) by
    simp only [f_law_pick, runI, List.length_cons, List.length_nil, if_true]
    show (match b_law_pick [.io a [.int v], .d (.int m), .un] with | some (.ri x r) => _ | some (.nx r) => _ | some (.er e r) => _ | _ => _) = _
    rw [h]
    simp only [ioOut, if_true, Option.map_some]
  rw [b_law_pick]
  simp only [e_vVar, e_vRd, e_vC, e_v1, e_v2, e_c1, e_c2, e_l1, e_l2, e_vL, e_vB, e_vArgs0, e_vArgs, e_vTup, e_vCall, e_vIf, e_bTr, e_bNot, e_bAnd, e_bOr, e_bChain, e_iSeq, e_iRange1, e_iRange2, e_vCut, e_vOpt0, e_vOpt, e_sNx, e_sBk, e_sCt, e_sSeq, e_sSet, e_sOwn, e_sPut, e_sFreeze, e_sRet, e_sExpr, e_sIf, e_sApp, e_sPar, e_sFor, runD, slots, so_ok, rb_ok, rb_none, so_none, po_some, List.getElem?_cons_zero, List.getElem?_cons_succ, List.set_cons_zero, List.set_cons_succ, List.map_cons, List.map_nil, List.length_cons, List.length_nil, List.replicate, List.append_nil, List.cons_append, List.nil_append, rb_er, so_er, e_sErr, e_sTry, e_iEnumE, e_sSetIx, e_uX, e_w1, e_w2, e_wc2, e_wl1, e_wl2, e_wL, e_wB, e_wTr, e_wNot, e_wAnd, e_wOr, e_wIf, e_wArgs0, e_wArgs, e_wTup, e_wCall, e_zSet, e_zOwn, e_zPut, e_zRet, e_zRt, e_zExpr, e_zIf, e_zFor, e_sRetL, sb_ok, sb_none, up_ok, up_none, up_po, soS_ok, soS_none, Bool.not_true, Bool.not_false, Bool.false_eq_true, Bool.true_and, Bool.false_and, Bool.and_true, Bool.and_false, Bool.true_or, Bool.false_or, Bool.or_true, Bool.or_false, if_true, if_false, Option.map_some, tr_bool, int_int, add_int, sub_int, i0, mod_int _ _ h, div_int _ _ h h2, x0]
theorem pickA {r : DL.Env} {i : Nat} {v m : Int} (hr : ioXs r i = some [.int v]) (h : 0 < m) (h2 : m < 1073741824) : callI f_law_pick [.io i, .d (.int m)] r = okS (.int (v % m)) (ioSet r i [.int (v / m)]) :=
  call1 hr fun b => pick_ b v m h h2
theorem pick0i {r : DL.Env} {a : Addr} {v m : Int} (h : 0 < m) (h2 : m < 1073741824) : callI f_law_pick [.io 0, .d (.int m)] (.io a [.int v] :: r) = okS (.int (v % m)) (.io a [.int (v / m)] :: r) := pickA rfl h h2
theorem pick1o {r : DL.Env} {s : Slot} {v m : Int} (h : 0 < m) (h2 : m < 1073741824) : callI f_law_pick [.io 1, .d (.int m)] (s :: .own [.int v] :: r) = okS (.int (v % m)) (s :: .own [.int (v / m)] :: r) := pickA rfl h h2
theorem mod_in (x : Int) {n : Int} (h : 0 < n) : 0 ≤ x % n ∧ x % n < n := ⟨Int.emod_nonneg _ (by omega), Int.emod_lt_of_pos _ h⟩
end K38
namespace K38
open PySem DL
/-! Books that are drawn from a deck. -/
/-- the rules of a book -/
structure RB (n : Int) (rs : List D) : Prop where
  len : rs.length ≤ 12
  ok : rs.all (isRule n) = true
  once : fresh [] rs = true
theorem RB.nil (n : Int) : RB n [] := ⟨by decide, rfl, rfl⟩
theorem signal_ (n : Int) (h1 : 1 ≤ n) (h2 : n ≤ 1000) (v : Int) : ∃ (sg : List D) (v' : Int), sg.length = n.toNat ∧ sg.all (isNum 0 (n - 1)) = true ∧ ∀ a, f_law_signal [.io a [.int v], .d (.int n)] = some (.ok (.tuple sg), [[.int v']]) := by
  obtain ⟨m, rfl⟩ : ∃ m : Nat, n = m := ⟨n.toNat, by omega⟩
  have hr : rng1 (.int (m : Nat)) = some (rng 0 m) := rng1_nat (by have : lim = 16777216 := rfl; omega)
  obtain ⟨ys, v', k1, k2, _, k3⟩ := compS (i := 2) (e := wCallI f_law_pick [.io 0, .ex (uX (vVar 1))]) (fun (a : Addr) (v : Int) => [.io a [.int v], .d (.int (m : Nat)), .un]) (fun y => isNum 0 (((m : Nat) : Int) - 1) y = true) (fun _ _ _ => rfl) (fun _ => True)
    (fun s x _ => ⟨.int (s % m), s / m, num_is (Int.emod_nonneg _ (by omega)) (by have := Int.emod_lt_of_pos s (show (0 : Int) < m by omega); omega), trivial, fun a => by simp only [e_vVar, e_vRd, e_vC, e_v1, e_v2, e_c1, e_c2, e_l1, e_l2, e_vL, e_vB, e_vArgs0, e_vArgs, e_vTup, e_vCall, e_vIf, e_bTr, e_bNot, e_bAnd, e_bOr, e_bChain, e_iSeq, e_iRange1, e_iRange2, e_vCut, e_vOpt0, e_vOpt, e_sNx, e_sBk, e_sCt, e_sSeq, e_sSet, e_sOwn, e_sPut, e_sFreeze, e_sRet, e_sExpr, e_sIf, e_sApp, e_sPar, e_sFor, runD, slots, so_ok, rb_ok, rb_none, so_none, po_some, List.getElem?_cons_zero, List.getElem?_cons_succ, List.set_cons_zero, List.set_cons_succ, List.map_cons, List.map_nil, List.length_cons, List.length_nil, List.replicate, List.append_nil, List.cons_append, List.nil_append, rb_er, so_er, e_sErr, e_sTry, e_iEnumE, e_sSetIx, e_uX, e_w1, e_w2, e_wc2, e_wl1, e_wl2, e_wL, e_wB, e_wTr, e_wNot, e_wAnd, e_wOr, e_wIf, e_wArgs0, e_wArgs, e_wTup, e_wCall, e_zSet, e_zOwn, e_zPut, e_zRet, e_zRt, e_zExpr, e_zIf, e_zFor, e_sRetL, sb_ok, sb_none, up_ok, up_none, up_po, soS_ok, soS_none, Bool.not_true, Bool.not_false, Bool.false_eq_true, Bool.true_and, Bool.false_and, Bool.and_true, Bool.and_false, Bool.true_or, Bool.false_or, Bool.or_true, Bool.or_false, if_true, if_false, Option.map_some, tr_bool, int_int, add_int, sub_int, e_wCallI, e_wCallN, e_wArgI0, e_wArgIx, e_wArgIo, e_ioXs, e_ioSet, resl_own, resl_io, e_zApp, lCall_e, pick0i (show (0 : Int) < m by omega) (show (m : Int) < 1073741824 by omega)]; rfl⟩) (rng 0 m) v trivial
  refine ⟨ys, v', by rw [k1, rng_size]; omega, List.all_eq_true.mpr k2, fun a => runI_ri (r := [.io a [.int v'], .d (.int (m : Nat)), .un]) ?_ rfl (out1 a _ _ [.int (m : Nat)] _ (by simp))⟩
  have c := comp_fin (it := uX (iRange1 (vVar 1))) (i := 2) (e := wCallI f_law_pick [.io 0, .ex (uX (vVar 1))]) (r := [.io a [.int v], .d (.int (m : Nat)), .un]) (r1 := [.io a [.int v], .d (.int (m : Nat)), .un]) (xs := rng 0 m) (by simp only [e_vVar, e_vRd, e_vC, e_v1, e_v2, e_c1, e_c2, e_l1, e_l2, e_vL, e_vB, e_vArgs0, e_vArgs, e_vTup, e_vCall, e_vIf, e_bTr, e_bNot, e_bAnd, e_bOr, e_bChain, e_iSeq, e_iRange1, e_iRange2, e_vCut, e_vOpt0, e_vOpt, e_sNx, e_sBk, e_sCt, e_sSeq, e_sSet, e_sOwn, e_sPut, e_sFreeze, e_sRet, e_sExpr, e_sIf, e_sApp, e_sPar, e_sFor, runD, slots, so_ok, rb_ok, rb_none, so_none, po_some, List.getElem?_cons_zero, List.getElem?_cons_succ, List.set_cons_zero, List.set_cons_succ, List.map_cons, List.map_nil, List.length_cons, List.length_nil, List.replicate, List.append_nil, List.cons_append, List.nil_append, rb_er, so_er, e_sErr, e_sTry, e_iEnumE, e_sSetIx, e_uX, e_w1, e_w2, e_wc2, e_wl1, e_wl2, e_wL, e_wB, e_wTr, e_wNot, e_wAnd, e_wOr, e_wIf, e_wArgs0, e_wArgs, e_wTup, e_wCall, e_zSet, e_zOwn, e_zPut, e_zRet, e_zRt, e_zExpr, e_zIf, e_zFor, e_sRetL, sb_ok, sb_none, up_ok, up_none, up_po, soS_ok, soS_none, Bool.not_true, Bool.not_false, Bool.false_eq_true, Bool.true_and, Bool.false_and, Bool.and_true, Bool.and_false, Bool.true_or, Bool.false_or, Bool.or_true, Bool.or_false, if_true, if_false, Option.map_some, tr_bool, int_int, add_int, sub_int, hr]; rfl) (by rw [rng_size]; have : lim = 16777216 := rfl; omega) (k3 a)
  show b_law_signal [.io a [.int v], .d (.int (m : Nat)), .un] = _
  rw [b_law_signal]
  simp only [e_vVar, e_vRd, e_vC, e_v1, e_v2, e_c1, e_c2, e_l1, e_l2, e_vL, e_vB, e_vArgs0, e_vArgs, e_vTup, e_vCall, e_vIf, e_bTr, e_bNot, e_bAnd, e_bOr, e_bChain, e_iSeq, e_iRange1, e_iRange2, e_vCut, e_vOpt0, e_vOpt, e_sNx, e_sBk, e_sCt, e_sSeq, e_sSet, e_sOwn, e_sPut, e_sFreeze, e_sRet, e_sExpr, e_sIf, e_sApp, e_sPar, e_sFor, runD, slots, so_ok, rb_ok, rb_none, so_none, po_some, List.getElem?_cons_zero, List.getElem?_cons_succ, List.set_cons_zero, List.set_cons_succ, List.map_cons, List.map_nil, List.length_cons, List.length_nil, List.replicate, List.append_nil, List.cons_append, List.nil_append, rb_er, so_er, e_sErr, e_sTry, e_iEnumE, e_sSetIx, e_uX, e_w1, e_w2, e_wc2, e_wl1, e_wl2, e_wL, e_wB, e_wTr, e_wNot, e_wAnd, e_wOr, e_wIf, e_wArgs0, e_wArgs, e_wTup, e_wCall, e_zSet, e_zOwn, e_zPut, e_zRet, e_zRt, e_zExpr, e_zIf, e_zFor, e_sRetL, sb_ok, sb_none, up_ok, up_none, up_po, soS_ok, soS_none, Bool.not_true, Bool.not_false, Bool.false_eq_true, Bool.true_and, Bool.false_and, Bool.and_true, Bool.and_false, Bool.true_or, Bool.false_or, Bool.or_true, Bool.or_false, if_true, if_false, Option.map_some, tr_bool, int_int, add_int, sub_int, c, tup_list]
theorem put_x {n : Int} {rs : List D} (R : RB n rs) {x : D} (hx : isRule n x = true) : ∃ rs', RB n rs' ∧ rs' ≠ [] ∧ ∀ a, f_law_put [.io a rs, .d x] = some (.ok .none, [rs']) := by
  have ni := (notIn_of R.ok hx).2
  have hl : rs.length < lim := by have := R.len; have : lim = 16777216 := rfl; omega
  by_cases hm : (rs.any fun z => PyData.eqv z x) = true
  · rw [hm] at ni
    refine ⟨rs, R, (fun (e : rs = []) => by subst e; exact nomatch hm), fun a => runI_nx (r := [.io a rs, .d x]) ?_ rfl (out1 a _ _ [x] _ (by simp))⟩
    show b_law_put [.io a rs, .d x] = _
    rw [b_law_put]
    simp only [e_vVar, e_vRd, e_vC, e_v1, e_v2, e_c1, e_c2, e_l1, e_l2, e_vL, e_vB, e_vArgs0, e_vArgs, e_vTup, e_vCall, e_vIf, e_bTr, e_bNot, e_bAnd, e_bOr, e_bChain, e_iSeq, e_iRange1, e_iRange2, e_vCut, e_vOpt0, e_vOpt, e_sNx, e_sBk, e_sCt, e_sSeq, e_sSet, e_sOwn, e_sPut, e_sFreeze, e_sRet, e_sExpr, e_sIf, e_sApp, e_sPar, e_sFor, runD, slots, so_ok, rb_ok, rb_none, so_none, po_some, List.getElem?_cons_zero, List.getElem?_cons_succ, List.set_cons_zero, List.set_cons_succ, List.map_cons, List.map_nil, List.length_cons, List.length_nil, List.replicate, List.append_nil, List.cons_append, List.nil_append, rb_er, so_er, e_sErr, e_sTry, e_iEnumE, e_sSetIx, e_uX, e_w1, e_w2, e_wc2, e_wl1, e_wl2, e_wL, e_wB, e_wTr, e_wNot, e_wAnd, e_wOr, e_wIf, e_wArgs0, e_wArgs, e_wTup, e_wCall, e_zSet, e_zOwn, e_zPut, e_zRet, e_zRt, e_zExpr, e_zIf, e_zFor, e_sRetL, sb_ok, sb_none, up_ok, up_none, up_po, soS_ok, soS_none, Bool.not_true, Bool.not_false, Bool.false_eq_true, Bool.true_and, Bool.false_and, Bool.and_true, Bool.and_false, Bool.true_or, Bool.false_or, Bool.or_true, Bool.or_false, if_true, if_false, Option.map_some, tr_bool, int_int, add_int, sub_int, ni]
  · rw [Bool.not_eq_true] at hm
    rw [hm] at ni
    by_cases h12 : rs.length < 12
    · refine ⟨rs ++ [x], ⟨by rw [List.length_append, List.length_singleton]; omega, by rw [List.all_append, R.ok]; simp [hx], fresh_snoc R.once hm⟩, by simp, fun a => runI_nx (r := [.io a (rs ++ [x]), .d x]) ?_ rfl (out1 a _ _ [x] _ (by simp))⟩
      show b_law_put [.io a rs, .d x] = _
      rw [b_law_put]
      have : ((rs.length : Nat) : Int) < 12 := by omega
      simp only [e_vVar, e_vRd, e_vC, e_v1, e_v2, e_c1, e_c2, e_l1, e_l2, e_vL, e_vB, e_vArgs0, e_vArgs, e_vTup, e_vCall, e_vIf, e_bTr, e_bNot, e_bAnd, e_bOr, e_bChain, e_iSeq, e_iRange1, e_iRange2, e_vCut, e_vOpt0, e_vOpt, e_sNx, e_sBk, e_sCt, e_sSeq, e_sSet, e_sOwn, e_sPut, e_sFreeze, e_sRet, e_sExpr, e_sIf, e_sApp, e_sPar, e_sFor, runD, slots, so_ok, rb_ok, rb_none, so_none, po_some, List.getElem?_cons_zero, List.getElem?_cons_succ, List.set_cons_zero, List.set_cons_succ, List.map_cons, List.map_nil, List.length_cons, List.length_nil, List.replicate, List.append_nil, List.cons_append, List.nil_append, rb_er, so_er, e_sErr, e_sTry, e_iEnumE, e_sSetIx, e_uX, e_w1, e_w2, e_wc2, e_wl1, e_wl2, e_wL, e_wB, e_wTr, e_wNot, e_wAnd, e_wOr, e_wIf, e_wArgs0, e_wArgs, e_wTup, e_wCall, e_zSet, e_zOwn, e_zPut, e_zRet, e_zRt, e_zExpr, e_zIf, e_zFor, e_sRetL, sb_ok, sb_none, up_ok, up_none, up_po, soS_ok, soS_none, Bool.not_true, Bool.not_false, Bool.false_eq_true, Bool.true_and, Bool.false_and, Bool.and_true, Bool.and_false, Bool.true_or, Bool.false_or, Bool.or_true, Bool.or_false, if_true, if_false, Option.map_some, tr_bool, int_int, add_int, sub_int, ni, len_list, lt_int, this, decide_true, hl]
    · refine ⟨rs, R, (fun (e : rs = []) => by subst e; exact h12 (by decide)), fun a => runI_nx (r := [.io a rs, .d x]) ?_ rfl (out1 a _ _ [x] _ (by simp))⟩
      show b_law_put [.io a rs, .d x] = _
      rw [b_law_put]
      have : ¬ ((rs.length : Nat) : Int) < 12 := by omega
      simp only [e_vVar, e_vRd, e_vC, e_v1, e_v2, e_c1, e_c2, e_l1, e_l2, e_vL, e_vB, e_vArgs0, e_vArgs, e_vTup, e_vCall, e_vIf, e_bTr, e_bNot, e_bAnd, e_bOr, e_bChain, e_iSeq, e_iRange1, e_iRange2, e_vCut, e_vOpt0, e_vOpt, e_sNx, e_sBk, e_sCt, e_sSeq, e_sSet, e_sOwn, e_sPut, e_sFreeze, e_sRet, e_sExpr, e_sIf, e_sApp, e_sPar, e_sFor, runD, slots, so_ok, rb_ok, rb_none, so_none, po_some, List.getElem?_cons_zero, List.getElem?_cons_succ, List.set_cons_zero, List.set_cons_succ, List.map_cons, List.map_nil, List.length_cons, List.length_nil, List.replicate, List.append_nil, List.cons_append, List.nil_append, rb_er, so_er, e_sErr, e_sTry, e_iEnumE, e_sSetIx, e_uX, e_w1, e_w2, e_wc2, e_wl1, e_wl2, e_wL, e_wB, e_wTr, e_wNot, e_wAnd, e_wOr, e_wIf, e_wArgs0, e_wArgs, e_wTup, e_wCall, e_zSet, e_zOwn, e_zPut, e_zRet, e_zRt, e_zExpr, e_zIf, e_zFor, e_sRetL, sb_ok, sb_none, up_ok, up_none, up_po, soS_ok, soS_none, Bool.not_true, Bool.not_false, Bool.false_eq_true, Bool.true_and, Bool.false_and, Bool.and_true, Bool.and_false, Bool.true_or, Bool.false_or, Bool.or_true, Bool.or_false, if_true, if_false, Option.map_some, tr_bool, int_int, add_int, sub_int, ni, len_list, lt_int, this, decide_false]
theorem rule_is {n a o w : Int} {sg : List D} (ha : 0 ≤ a ∧ a < n) (ho : 0 ≤ o ∧ o < n) (hw : 0 ≤ w ∧ w < n) (ne : o ≠ w) (s1 : sg.length = n.toNat) (s2 : sg.all (isNum 0 (n - 1)) = true) : isRule n (.tuple [.int a, .int o, .int w, .tuple sg]) = true := by
  have e : PyData.eqv (.int o) (.int w) = false := by simpa [PyData.eqv] using ne
  have s3 : (((sg.length : Nat) : Int) == n) = true := by rw [s1]; simp; omega
  simp [isRule, num_is ha.1 (show a ≤ n - 1 by omega), num_is ho.1 (show o ≤ n - 1 by omega), num_is hw.1 (show w ≤ n - 1 by omega), e, s3, s2]
theorem far (o k n : Int) (h : 2 ≤ n) (ho : 0 ≤ o ∧ o < n) (hk : 0 ≤ k ∧ k < n - 1) : o ≠ (o + 1 + k) % n := by
  intro e
  have h1 := Int.mul_ediv_add_emod (o + 1 + k) n
  have h2 : (o + 1 + k) / n = 0 ∨ (o + 1 + k) / n = 1 := by
    have a1 : 0 ≤ (o + 1 + k) / n := Int.ediv_nonneg (by omega) (by omega)
    have a2 : (o + 1 + k) / n < 2 := Int.ediv_lt_of_lt_mul (by omega) (by omega)
    omega
  rcases h2 with c | c <;> rw [c] at h1 <;> omega
theorem free_x {n : Int} (h2 : 2 ≤ n) (h4 : n ≤ 4) (v : Int) {rs : List D} (R : RB n rs) (c : Nat) (hc : c ≤ 1000) : ∃ rs' v', RB n rs' ∧ (1 ≤ c → rs' ≠ []) ∧ ∀ a b, f_law_free [.io a [.int v], .d (.int n), .io b rs, .d (.int (c : Nat))] = some (.ok .none, [[.int v'], rs']) := by
  have hr : rng1 (.int (c : Nat)) = some (rng 0 c) := rng1_nat (by have : lim = 16777216 := rfl; omega)
  have n0 : 0 < n := by omega
  have nb : n < 1073741824 := by omega
  have m0 : 0 < n - 1 := by omega
  have mb : n - 1 < 1073741824 := by omega
  obtain ⟨⟨v', rs', t, o, w⟩, k1, k2⟩ := loopS (g := .one 4) (b := (sSeq (zSet 5 (wCallI f_law_pick [(.io 0), (.ex (uX (vVar 1)))])) (sSeq (zSet 6 (DL.w2 dMod (DL.w1 dInt (DL.w2 dAdd (uX (v2 dAdd (vVar 5) (vC (.int 1)))) (wCallI f_law_pick [(.io 0), (.ex (uX (v2 dSub (vVar 1) (vC (.int 1)))))]))) (uX (vVar 1)))) (zExpr (wCallI f_law_put [(.io 2), (.ex (wTup [(wCallI f_law_pick [(.io 0), (.ex (uX (vVar 1)))]), (uX (vVar 5)), (uX (vVar 6)), (wCallI f_law_signal [(.io 0), (.ex (uX (vVar 1)))])]))]))))) (fun (A : Addr × Addr) (s : Int × List D × Slot × Slot × Slot) => [.io A.1 [.int s.1], .d (.int n), .io A.2 s.2.1, .d (.int (c : Nat)), s.2.2.1, s.2.2.2.1, s.2.2.2.2]) (fun j s => RB n s.2.1 ∧ (1 ≤ j → s.2.1 ≠ [])) (rng 0 c) 0 (v, rs, .un, .un, .un) ⟨R, fun h => absurd h (by decide)⟩ (by
    rintro k ⟨v, rs, t, o, w⟩ x hx ⟨R, _⟩
    have hv := mod_in v n0
    have hk := mod_in (v / n) m0
    obtain ⟨sg, v4, q1, q2, q3⟩ := signal_ n (by omega) (by omega) (v / n / (n - 1) / n)
    have hw := mod_in (v % n + 1 + v / n % (n - 1)) n0
    have hr := rule_is (mod_in (v / n / (n - 1)) n0) hv hw (far _ _ n h2 hv hk) q1 q2
    obtain ⟨rs2, p1, p3, p2⟩ := put_x R hr
    refine ⟨(v4, rs2, .d x, .d (.int (v % n)), .d (.int ((v % n + 1 + v / n % (n - 1)) % n))), ⟨p1, fun _ => p3⟩, fun A => ⟨_, rfl, .inl ?_⟩⟩
    have c1 := call1 (g := f_law_signal) (i := 0) (r := [.io A.1 [.int (v / n / (n - 1) / n)], .d (.int n), .io A.2 rs, .d (.int (c : Nat)), .d x, .d (.int (v % n)), .d (.int ((v % n + 1 + v / n % (n - 1)) % n))]) rfl q3
    have c2 := call1 (g := f_law_put) (i := 2) (r := [.io A.1 [.int v4], .d (.int n), .io A.2 rs, .d (.int (c : Nat)), .d x, .d (.int (v % n)), .d (.int ((v % n + 1 + v / n % (n - 1)) % n))]) rfl p2
    simp only [e_vVar, e_vRd, e_vC, e_v1, e_v2, e_c1, e_c2, e_l1, e_l2, e_vL, e_vB, e_vArgs0, e_vArgs, e_vTup, e_vCall, e_vIf, e_bTr, e_bNot, e_bAnd, e_bOr, e_bChain, e_iSeq, e_iRange1, e_iRange2, e_vCut, e_vOpt0, e_vOpt, e_sNx, e_sBk, e_sCt, e_sSeq, e_sSet, e_sOwn, e_sPut, e_sFreeze, e_sRet, e_sExpr, e_sIf, e_sApp, e_sPar, e_sFor, runD, slots, so_ok, rb_ok, rb_none, so_none, po_some, List.getElem?_cons_zero, List.getElem?_cons_succ, List.set_cons_zero, List.set_cons_succ, List.map_cons, List.map_nil, List.length_cons, List.length_nil, List.replicate, List.append_nil, List.cons_append, List.nil_append, rb_er, so_er, e_sErr, e_sTry, e_iEnumE, e_sSetIx, e_uX, e_w1, e_w2, e_wc2, e_wl1, e_wl2, e_wL, e_wB, e_wTr, e_wNot, e_wAnd, e_wOr, e_wIf, e_wArgs0, e_wArgs, e_wTup, e_wCall, e_zSet, e_zOwn, e_zPut, e_zRet, e_zRt, e_zExpr, e_zIf, e_zFor, e_sRetL, sb_ok, sb_none, up_ok, up_none, up_po, soS_ok, soS_none, Bool.not_true, Bool.not_false, Bool.false_eq_true, Bool.true_and, Bool.false_and, Bool.and_true, Bool.and_false, Bool.true_or, Bool.false_or, Bool.or_true, Bool.or_false, if_true, if_false, Option.map_some, tr_bool, int_int, add_int, sub_int, e_wCallI, e_wCallN, e_wArgI0, e_wArgIx, e_wArgIo, e_ioXs, e_ioSet, resl_own, resl_io, e_zApp, lCall_e, pick0i n0 nb, pick0i m0 mb, mod_int _ _ n0, c1, sb_some, c2, soS_some])
  rw [rng_size, Nat.zero_add] at k1
  refine ⟨rs', v', k1.1, k1.2, fun a b => runI_nx (r := [.io a [.int v'], .d (.int n), .io b rs', .d (.int (c : Nat)), t, o, w]) ?_ rfl (by simp [ioOut])⟩
  show b_law_free [.io a [.int v], .d (.int n), .io b rs, .d (.int (c : Nat)), .un, .un, .un] = _
  rw [b_law_free]
  simp only [e_vVar, e_vRd, e_vC, e_v1, e_v2, e_c1, e_c2, e_l1, e_l2, e_vL, e_vB, e_vArgs0, e_vArgs, e_vTup, e_vCall, e_vIf, e_bTr, e_bNot, e_bAnd, e_bOr, e_bChain, e_iSeq, e_iRange1, e_iRange2, e_vCut, e_vOpt0, e_vOpt, e_sNx, e_sBk, e_sCt, e_sSeq, e_sSet, e_sOwn, e_sPut, e_sFreeze, e_sRet, e_sExpr, e_sIf, e_sApp, e_sPar, e_sFor, runD, slots, so_ok, rb_ok, rb_none, so_none, po_some, List.getElem?_cons_zero, List.getElem?_cons_succ, List.set_cons_zero, List.set_cons_succ, List.map_cons, List.map_nil, List.length_cons, List.length_nil, List.replicate, List.append_nil, List.cons_append, List.nil_append, rb_er, so_er, e_sErr, e_sTry, e_iEnumE, e_sSetIx, e_uX, e_w1, e_w2, e_wc2, e_wl1, e_wl2, e_wL, e_wB, e_wTr, e_wNot, e_wAnd, e_wOr, e_wIf, e_wArgs0, e_wArgs, e_wTup, e_wCall, e_zSet, e_zOwn, e_zPut, e_zRet, e_zRt, e_zExpr, e_zIf, e_zFor, e_sRetL, sb_ok, sb_none, up_ok, up_none, up_po, soS_ok, soS_none, Bool.not_true, Bool.not_false, Bool.false_eq_true, Bool.true_and, Bool.false_and, Bool.and_true, Bool.and_false, Bool.true_or, Bool.false_or, Bool.or_true, Bool.or_false, if_true, if_false, Option.map_some, tr_bool, int_int, add_int, sub_int, hr]
  exact k2 (a, b)
end K38
namespace K38
open PySem DL
theorem num_out {lo hi i : Int} (h : i < lo ∨ hi < i) : isNum lo hi (.int i) = false := by
  show (decide (lo ≤ i) && decide (i ≤ hi)) = false
  rcases h with h | h
  · rw [decide_eq_false (by omega)]; rfl
  · rw [decide_eq_false (p := i ≤ hi) (by omega), Bool.and_false]
theorem all_mid {T : D → Bool} {A B : List D} {d : D} (h : T d = false) : ((A ++ [d]) ++ B).all T = false := by
  rw [List.all_append, List.all_append, List.all_cons, h, Bool.false_and, Bool.and_false, Bool.false_and]
theorem add_mid {xs : List D} {d : D} {a b c e : Option Int} (h : xs.length ≤ 1000000) : ∃ t1, dAdd (.tuple (cutD xs a b)) (.tuple [d]) = some t1 ∧ dAdd t1 (.tuple (cutD xs c e)) = some (.tuple ((cutD xs a b ++ [d]) ++ cutD xs c e)) := by
  have LIM := big
  have l1 := cut_len xs a b
  have l2 := cut_len xs c e
  refine ⟨.tuple (cutD xs a b ++ [d]), ?_, ?_⟩
  · show asList _ _ = _
    unfold asList
    rw [if_pos (by rw [List.length_append, List.length_singleton]; omega)]
  · show asList _ _ = _
    unfold asList
    rw [if_pos (by rw [List.length_append, List.length_append, List.length_singleton]; omega)]
theorem add_l (xs ys : List D) (h : (xs ++ ys).length ≤ lim) : dAdd (.list xs) (.list ys) = some (.list (xs ++ ys)) := by
  show asList _ _ = _
  unfold asList
  rw [if_pos h]
theorem add_t (xs ys : List D) (h : (xs ++ ys).length ≤ lim) : dAdd (.tuple xs) (.tuple ys) = some (.tuple (xs ++ ys)) := by
  show asList _ _ = _
  unfold asList
  rw [if_pos h]
/-- a rule with one part that is none -/
theorem rule_4 {n : Int} {a b c s : D} (h : isNum 0 (n - 1) a = false ∨ isNum 0 (n - 1) b = false ∨ isNum 0 (n - 1) c = false) : isRule n (.tuple [a, b, c, s]) = false := by
  cases s with
  | tuple s =>
    show (isNum 0 (n - 1) a && isNum 0 (n - 1) b && isNum 0 (n - 1) c && !(PyData.eqv b c) && (((s.length : Nat) : Int) == n) && s.all (isNum 0 (n - 1))) = false
    rcases h with h | h | h <;> rw [h] <;> simp
  | _ => rfl
theorem rule_s {n : Int} {a b c : D} {s : List D} (h : (((s.length : Nat) : Int) == n) = false ∨ s.all (isNum 0 (n - 1)) = false) : isRule n (.tuple [a, b, c, .tuple s]) = false := by
  show (isNum 0 (n - 1) a && isNum 0 (n - 1) b && isNum 0 (n - 1) c && !(PyData.eqv b c) && (((s.length : Nat) : Int) == n) && s.all (isNum 0 (n - 1))) = false
  rcases h with h | h <;> rw [h] <;> simp
theorem bad_rule_ {n : Nat} (n2 : 2 ≤ n) (n4 : n ≤ 4) (v : Int) {r : Rl} (hr : okR n r) {k : Nat} (hk : k < 14) : ∃ (d : D) (v' : Int), isRule (n : Nat) d = false ∧ ∀ a, f_law_bad_rule [.io a [.int v], .d (eR r), .d (nd n), .d (nd k)] = some (.ok d, [[.int v']]) := by
  have LIM := big
  have n0 : (0 : Int) < ((n : Nat) : Int) := by omega
  have nb : ((n : Nat) : Int) < 1073741824 := by omega
  have hl := hr.len
  generalize hpl : v % ((n : Nat) : Int) = pl
  have ls : (ndl r.sg).length = n := by rw [List.length_map, hl]
  obtain ⟨t5, m1, m2⟩ := add_mid (xs := ndl r.sg) (d := nd n) (a := none) (b := some pl) (c := some (pl + 1)) (e := none) (by omega)
  obtain ⟨t13, q1, q2⟩ := add_mid (xs := ndl r.sg) (d := .none) (a := none) (b := some pl) (c := some (pl + 1)) (e := none) (by omega)
  have a12 : dAdd (.tuple (ndl r.sg)) (.tuple [.int 0]) = some (.tuple (ndl r.sg ++ [.int 0])) := add_t _ _ (by rw [List.length_append, ls, List.length_singleton]; omega)
  have f2 : isRule (n : Nat) (.tuple [nd r.a, nd r.o, nd r.w, .tuple (cutD (ndl r.sg) (some 1) none)]) = false := rule_s (.inl (by
    have e := cut_from (ndl r.sg) 1 (by omega)
    rw [show (some (((1 : Nat) : Int))) = some 1 from rfl] at e
    rw [e, List.length_drop, ls]
    exact beq_false_of_ne (by omega)))
  have f5 : isRule (n : Nat) (.tuple [nd r.a, nd r.o, nd r.w, .tuple ((cutD (ndl r.sg) none (some pl) ++ [nd n]) ++ cutD (ndl r.sg) (some (pl + 1)) none)]) = false := rule_s (.inr (all_mid (num_out (.inr (by omega)))))
  have f13 : isRule (n : Nat) (.tuple [nd r.a, nd r.o, nd r.w, .tuple ((cutD (ndl r.sg) none (some pl) ++ [.none]) ++ cutD (ndl r.sg) (some (pl + 1)) none)]) = false := rule_s (.inr (all_mid rfl))
  have f12 : isRule (n : Nat) (.tuple [nd r.a, nd r.o, nd r.w, .tuple (ndl r.sg ++ [.int 0])]) = false := rule_s (.inl (by rw [List.length_append, ls, List.length_singleton]; exact beq_false_of_ne (by omega)))
  have f0 : isRule (n : Nat) (.tuple [nd r.a, nd r.o, nd r.o, .tuple (ndl r.sg)]) = false := by
    have e : PyData.eqv (nd r.o) (nd r.o) = true := by show (((r.o : Nat) : Int) == _) = true; simp
    show (isNum 0 (((n : Nat) : Int) - 1) (nd r.a) && isNum 0 (((n : Nat) : Int) - 1) (nd r.o) && isNum 0 (((n : Nat) : Int) - 1) (nd r.o) && !(PyData.eqv (nd r.o) (nd r.o)) && _ && _) = false
    rw [e]; simp
  have f1 : isRule (n : Nat) (.tuple [nd n, nd r.o, nd r.w, .tuple (ndl r.sg)]) = false := rule_4 (.inl (num_out (.inr (by omega))))
  have f7 : isRule (n : Nat) (.tuple [.int (-1), nd r.o, nd r.w, .tuple (ndl r.sg)]) = false := rule_4 (.inl (num_out (.inl (by omega))))
  have f8 : isRule (n : Nat) (.tuple [nd r.a, nd n, nd r.w, .tuple (ndl r.sg)]) = false := rule_4 (.inr (.inl (num_out (.inr (by omega)))))
  have f9 : isRule (n : Nat) (.tuple [nd r.a, nd r.o, nd n, .tuple (ndl r.sg)]) = false := rule_4 (.inr (.inr (num_out (.inr (by omega)))))
  generalize hz5 : (cutD (ndl r.sg) none (some pl) ++ [nd n]) ++ cutD (ndl r.sg) (some (pl + 1)) none = z5 at m2 f5
  generalize hz13 : (cutD (ndl r.sg) none (some pl) ++ [.none]) ++ cutD (ndl r.sg) (some (pl + 1)) none = z13 at q2 f13
  generalize hz2 : cutD (ndl r.sg) (some 1) none = z2 at f2
  generalize hz12 : ndl r.sg ++ [.int 0] = z12 at a12 f12
  have ng1 : dNeg (.int 1) = some (.int (-1)) := rfl
  generalize hs : ndl r.sg = sg at *
  have ga : ∀ x : D, ∃ xs : List D, (xs = [.tuple [nd r.a, nd r.o, nd r.o, .tuple sg], .tuple [nd n, nd r.o, nd r.w, .tuple sg], .tuple [nd r.a, nd r.o, nd r.w, .tuple z2], .list [nd r.a, nd r.o, nd r.w, .tuple sg], .tuple [nd r.a, nd r.o, nd r.w]] ++ [.tuple [nd r.a, nd r.o, nd r.w, .tuple z5], .tuple [nd r.a, nd r.o, nd r.w, .list sg]] ++ [.tuple [.int (-1), nd r.o, nd r.w, .tuple sg], .tuple [nd r.a, nd n, nd r.w, .tuple sg], .tuple [nd r.a, nd r.o, nd n, .tuple sg], .none, .str (PySem.Str.ofString "rule")] ++ [.tuple [nd r.a, nd r.o, nd r.w, .tuple z12], .tuple [nd r.a, nd r.o, nd r.w, .tuple z13]]) := fun _ => ⟨_, rfl⟩
  obtain ⟨d, hd, hg⟩ : ∃ d : D, isRule (n : Nat) d = false ∧ dIx (.list ([.tuple [nd r.a, nd r.o, nd r.o, .tuple sg], .tuple [nd n, nd r.o, nd r.w, .tuple sg], .tuple [nd r.a, nd r.o, nd r.w, .tuple z2], .list [nd r.a, nd r.o, nd r.w, .tuple sg], .tuple [nd r.a, nd r.o, nd r.w]] ++ [.tuple [nd r.a, nd r.o, nd r.w, .tuple z5], .tuple [nd r.a, nd r.o, nd r.w, .list sg]] ++ [.tuple [.int (-1), nd r.o, nd r.w, .tuple sg], .tuple [nd r.a, nd n, nd r.w, .tuple sg], .tuple [nd r.a, nd r.o, nd n, .tuple sg], .none, .str (PySem.Str.ofString "rule")] ++ [.tuple [nd r.a, nd r.o, nd r.w, .tuple z12], .tuple [nd r.a, nd r.o, nd r.w, .tuple z13]])) (nd k) = some d := by
    have : k = 0 ∨ k = 1 ∨ k = 2 ∨ k = 3 ∨ k = 4 ∨ k = 5 ∨ k = 6 ∨ k = 7 ∨ k = 8 ∨ k = 9 ∨ k = 10 ∨ k = 11 ∨ k = 12 ∨ k = 13 := by omega
    rcases this with rfl | rfl | rfl | rfl | rfl | rfl | rfl | rfl | rfl | rfl | rfl | rfl | rfl | rfl
    · exact ⟨_, f0, rfl⟩
    · exact ⟨_, f1, rfl⟩
    · exact ⟨_, f2, rfl⟩
    · exact ⟨_, rfl, rfl⟩
    · exact ⟨_, rfl, rfl⟩
    · exact ⟨_, f5, rfl⟩
    · exact ⟨_, rfl, rfl⟩
    · exact ⟨_, f7, rfl⟩
    · exact ⟨_, f8, rfl⟩
    · exact ⟨_, f9, rfl⟩
    · exact ⟨_, rfl, rfl⟩
    · exact ⟨_, rfl, rfl⟩
    · exact ⟨_, f12, rfl⟩
    · exact ⟨_, f13, rfl⟩
  refine ⟨d, v / ((n : Nat) : Int), hd, fun a => ?_⟩
  have ap1 := add_l [.tuple [nd r.a, nd r.o, nd r.o, .tuple sg], .tuple [nd n, nd r.o, nd r.w, .tuple sg], .tuple [nd r.a, nd r.o, nd r.w, .tuple z2], .list [nd r.a, nd r.o, nd r.w, .tuple sg], .tuple [nd r.a, nd r.o, nd r.w]] [.tuple [nd r.a, nd r.o, nd r.w, .tuple z5], .tuple [nd r.a, nd r.o, nd r.w, .list sg]] (by exact (show (7 : Nat) ≤ 16777216 by decide))
  have ap2 := add_l ([.tuple [nd r.a, nd r.o, nd r.o, .tuple sg], .tuple [nd n, nd r.o, nd r.w, .tuple sg], .tuple [nd r.a, nd r.o, nd r.w, .tuple z2], .list [nd r.a, nd r.o, nd r.w, .tuple sg], .tuple [nd r.a, nd r.o, nd r.w]] ++ [.tuple [nd r.a, nd r.o, nd r.w, .tuple z5], .tuple [nd r.a, nd r.o, nd r.w, .list sg]]) [.tuple [.int (-1), nd r.o, nd r.w, .tuple sg], .tuple [nd r.a, nd n, nd r.w, .tuple sg], .tuple [nd r.a, nd r.o, nd n, .tuple sg], .none, .str (PySem.Str.ofString "rule")] (by exact (show (12 : Nat) ≤ 16777216 by decide))
  have ap3 := add_l ([.tuple [nd r.a, nd r.o, nd r.o, .tuple sg], .tuple [nd n, nd r.o, nd r.w, .tuple sg], .tuple [nd r.a, nd r.o, nd r.w, .tuple z2], .list [nd r.a, nd r.o, nd r.w, .tuple sg], .tuple [nd r.a, nd r.o, nd r.w]] ++ [.tuple [nd r.a, nd r.o, nd r.w, .tuple z5], .tuple [nd r.a, nd r.o, nd r.w, .list sg]] ++ [.tuple [.int (-1), nd r.o, nd r.w, .tuple sg], .tuple [nd r.a, nd n, nd r.w, .tuple sg], .tuple [nd r.a, nd r.o, nd n, .tuple sg], .none, .str (PySem.Str.ofString "rule")]) [.tuple [nd r.a, nd r.o, nd r.w, .tuple z12], .tuple [nd r.a, nd r.o, nd r.w, .tuple z13]] (by exact (show (14 : Nat) ≤ 16777216 by decide))
  generalize [PyData.tuple [nd r.a, nd r.o, nd r.o, .tuple sg], .tuple [nd n, nd r.o, nd r.w, .tuple sg], .tuple [nd r.a, nd r.o, nd r.w, .tuple z2], .list [nd r.a, nd r.o, nd r.w, .tuple sg], .tuple [nd r.a, nd r.o, nd r.w]] ++ [.tuple [nd r.a, nd r.o, nd r.w, .tuple z5], .tuple [nd r.a, nd r.o, nd r.w, .list sg]] ++ [.tuple [.int (-1), nd r.o, nd r.w, .tuple sg], .tuple [nd r.a, nd n, nd r.w, .tuple sg], .tuple [nd r.a, nd r.o, nd n, .tuple sg], .none, .str (PySem.Str.ofString "rule")] ++ [.tuple [nd r.a, nd r.o, nd r.w, .tuple z12], .tuple [nd r.a, nd r.o, nd r.w, .tuple z13]] = Y4 at ap3 hg
  generalize hY3 : [PyData.tuple [nd r.a, nd r.o, nd r.o, .tuple sg], .tuple [nd n, nd r.o, nd r.w, .tuple sg], .tuple [nd r.a, nd r.o, nd r.w, .tuple z2], .list [nd r.a, nd r.o, nd r.w, .tuple sg], .tuple [nd r.a, nd r.o, nd r.w]] ++ [.tuple [nd r.a, nd r.o, nd r.w, .tuple z5], .tuple [nd r.a, nd r.o, nd r.w, .list sg]] ++ [.tuple [.int (-1), nd r.o, nd r.w, .tuple sg], .tuple [nd r.a, nd n, nd r.w, .tuple sg], .tuple [nd r.a, nd r.o, nd n, .tuple sg], .none, .str (PySem.Str.ofString "rule")] = Y3 at ap2 ap3
  generalize hY2 : [PyData.tuple [nd r.a, nd r.o, nd r.o, .tuple sg], .tuple [nd n, nd r.o, nd r.w, .tuple sg], .tuple [nd r.a, nd r.o, nd r.w, .tuple z2], .list [nd r.a, nd r.o, nd r.w, .tuple sg], .tuple [nd r.a, nd r.o, nd r.w]] ++ [.tuple [nd r.a, nd r.o, nd r.w, .tuple z5], .tuple [nd r.a, nd r.o, nd r.w, .list sg]] = Y2 at ap1 ap2
  have p1 := fun rr => pick0i (r := rr) (a := a) (v := v) n0 nb
  rw [hpl] at p1
  have pt : ∀ r2 : DL.Env, (Tg.many [4, 5, 6, 7]).put (.tuple [nd r.a, nd r.o, nd r.w, .tuple sg]) r2 = some ((((r2.set 4 (.d (nd r.a))).set 5 (.d (nd r.o))).set 6 (.d (nd r.w))).set 7 (.d (.tuple sg))) := fun _ => rfl
  have lo : lOf (.tuple [nd r.a, nd r.o, nd r.w, .tuple sg]) = some [nd r.a, nd r.o, nd r.w, .tuple sg] := rfl
  have ct : dCut none (some 3) (.tuple [nd r.a, nd r.o, nd r.w, .tuple sg]) = some (.tuple [nd r.a, nd r.o, nd r.w]) := rfl
  have lo2 : lOf (.tuple sg) = some sg := rfl
  have c2 : dCut (some 1) none (.tuple sg) = some (.tuple z2) := by rw [cut_tup, hz2]
  have ca := cut_tup none (some pl) sg
  have cb := cut_tup (some (pl + 1)) none sg
  generalize PyData.tuple (cutD sg none (some pl)) = C1 at m1 q1 ca
  generalize PyData.tuple (cutD sg (some (pl + 1)) none) = C2 at m2 q2 cb
  have eE : eR r = .tuple [nd r.a, nd r.o, nd r.w, .tuple sg] := by rw [← hs]
  rw [eE]
  generalize hE : PyData.tuple [nd r.a, nd r.o, nd r.w, .tuple sg] = E0 at pt lo ct
  refine runI_ri (r := [.io a [.int (v / ((n : Nat) : Int))], .d E0, .d (nd n), .d (nd k), .d (nd r.a), .d (nd r.o), .d (nd r.w), .d (.tuple sg), .d (.int pl), .d (.list Y4)]) ?_ rfl (out1 a _ _ [E0, nd n, nd k] _ (by simp))
  show b_law_bad_rule [.io a [.int v], .d E0, .d (nd n), .d (nd k), .un, .un, .un, .un, .un, .un] = _
  rw [b_law_bad_rule]
  refine seq_nx (r1 := [.io a [.int v], .d E0, .d (nd n), .d (nd k), .d (nd r.a), .d (nd r.o), .d (nd r.w), .d (.tuple sg), .un, .un]) (by simp only [e_vVar, e_vRd, e_vC, e_v1, e_v2, e_c1, e_c2, e_l1, e_l2, e_vL, e_vB, e_vArgs0, e_vArgs, e_vTup, e_vCall, e_vIf, e_bTr, e_bNot, e_bAnd, e_bOr, e_bChain, e_iSeq, e_iRange1, e_iRange2, e_vCut, e_vOpt0, e_vOpt, e_sNx, e_sBk, e_sCt, e_sSeq, e_sSet, e_sOwn, e_sPut, e_sFreeze, e_sRet, e_sExpr, e_sIf, e_sApp, e_sPar, e_sFor, runD, slots, so_ok, rb_ok, rb_none, so_none, po_some, List.getElem?_cons_zero, List.getElem?_cons_succ, List.set_cons_zero, List.set_cons_succ, List.map_cons, List.map_nil, List.length_cons, List.length_nil, List.replicate, List.append_nil, List.cons_append, List.nil_append, rb_er, so_er, e_sErr, e_sTry, e_iEnumE, e_sSetIx, e_uX, e_w1, e_w2, e_wc2, e_wl1, e_wl2, e_wL, e_wB, e_wTr, e_wNot, e_wAnd, e_wOr, e_wIf, e_wArgs0, e_wArgs, e_wTup, e_wCall, e_zSet, e_zOwn, e_zPut, e_zRet, e_zRt, e_zExpr, e_zIf, e_zFor, e_sRetL, sb_ok, sb_none, up_ok, up_none, up_po, soS_ok, soS_none, Bool.not_true, Bool.not_false, Bool.false_eq_true, Bool.true_and, Bool.false_and, Bool.and_true, Bool.and_false, Bool.true_or, Bool.false_or, Bool.or_true, Bool.or_false, if_true, if_false, Option.map_some, tr_bool, int_int, add_int, sub_int, pt]) ?_
  refine seq_nx (r1 := [.io a [.int (v / ((n : Nat) : Int))], .d E0, .d (nd n), .d (nd k), .d (nd r.a), .d (nd r.o), .d (nd r.w), .d (.tuple sg), .d (.int pl), .un]) (by simp only [e_vVar, e_vRd, e_vC, e_v1, e_v2, e_c1, e_c2, e_l1, e_l2, e_vL, e_vB, e_vArgs0, e_vArgs, e_vTup, e_vCall, e_vIf, e_bTr, e_bNot, e_bAnd, e_bOr, e_bChain, e_iSeq, e_iRange1, e_iRange2, e_vCut, e_vOpt0, e_vOpt, e_sNx, e_sBk, e_sCt, e_sSeq, e_sSet, e_sOwn, e_sPut, e_sFreeze, e_sRet, e_sExpr, e_sIf, e_sApp, e_sPar, e_sFor, runD, slots, so_ok, rb_ok, rb_none, so_none, po_some, List.getElem?_cons_zero, List.getElem?_cons_succ, List.set_cons_zero, List.set_cons_succ, List.map_cons, List.map_nil, List.length_cons, List.length_nil, List.replicate, List.append_nil, List.cons_append, List.nil_append, rb_er, so_er, e_sErr, e_sTry, e_iEnumE, e_sSetIx, e_uX, e_w1, e_w2, e_wc2, e_wl1, e_wl2, e_wL, e_wB, e_wTr, e_wNot, e_wAnd, e_wOr, e_wIf, e_wArgs0, e_wArgs, e_wTup, e_wCall, e_zSet, e_zOwn, e_zPut, e_zRet, e_zRt, e_zExpr, e_zIf, e_zFor, e_sRetL, sb_ok, sb_none, up_ok, up_none, up_po, soS_ok, soS_none, Bool.not_true, Bool.not_false, Bool.false_eq_true, Bool.true_and, Bool.false_and, Bool.and_true, Bool.and_false, Bool.true_or, Bool.false_or, Bool.or_true, Bool.or_false, if_true, if_false, Option.map_some, tr_bool, int_int, add_int, sub_int, e_wCallI, e_wCallN, e_wArgI0, e_wArgIx, e_wArgIo, e_ioXs, e_ioSet, resl_own, resl_io, e_zApp, lCall_e, p1, sb_some, soS_some] <;> rfl) ?_
  refine seq_nx (r1 := _) (by simp only [e_vVar, e_vRd, e_vC, e_v1, e_v2, e_c1, e_c2, e_l1, e_l2, e_vL, e_vB, e_vArgs0, e_vArgs, e_vTup, e_vCall, e_vIf, e_bTr, e_bNot, e_bAnd, e_bOr, e_bChain, e_iSeq, e_iRange1, e_iRange2, e_vCut, e_vOpt0, e_vOpt, e_sNx, e_sBk, e_sCt, e_sSeq, e_sSet, e_sOwn, e_sPut, e_sFreeze, e_sRet, e_sExpr, e_sIf, e_sApp, e_sPar, e_sFor, runD, slots, so_ok, rb_ok, rb_none, so_none, po_some, List.getElem?_cons_zero, List.getElem?_cons_succ, List.set_cons_zero, List.set_cons_succ, List.map_cons, List.map_nil, List.length_cons, List.length_nil, List.replicate, List.append_nil, List.cons_append, List.nil_append, rb_er, so_er, e_sErr, e_sTry, e_iEnumE, e_sSetIx, e_uX, e_w1, e_w2, e_wc2, e_wl1, e_wl2, e_wL, e_wB, e_wTr, e_wNot, e_wAnd, e_wOr, e_wIf, e_wArgs0, e_wArgs, e_wTup, e_wCall, e_zSet, e_zOwn, e_zPut, e_zRet, e_zRt, e_zExpr, e_zIf, e_zFor, e_sRetL, sb_ok, sb_none, up_ok, up_none, up_po, soS_ok, soS_none, Bool.not_true, Bool.not_false, Bool.false_eq_true, Bool.true_and, Bool.false_and, Bool.and_true, Bool.and_false, Bool.true_or, Bool.false_or, Bool.or_true, Bool.or_false, if_true, if_false, Option.map_some, tr_bool, int_int, add_int, sub_int, c2, lo, ct]; rfl) ?_
  refine seq_nx (r1 := [.io a [.int (v / ((n : Nat) : Int))], .d E0, .d (nd n), .d (nd k), .d (nd r.a), .d (nd r.o), .d (nd r.w), .d (.tuple sg), .d (.int pl), .d (.list Y2)]) (by simp only [e_vVar, e_vRd, e_vC, e_v1, e_v2, e_c1, e_c2, e_l1, e_l2, e_vL, e_vB, e_vArgs0, e_vArgs, e_vTup, e_vCall, e_vIf, e_bTr, e_bNot, e_bAnd, e_bOr, e_bChain, e_iSeq, e_iRange1, e_iRange2, e_vCut, e_vOpt0, e_vOpt, e_sNx, e_sBk, e_sCt, e_sSeq, e_sSet, e_sOwn, e_sPut, e_sFreeze, e_sRet, e_sExpr, e_sIf, e_sApp, e_sPar, e_sFor, runD, slots, so_ok, rb_ok, rb_none, so_none, po_some, List.getElem?_cons_zero, List.getElem?_cons_succ, List.set_cons_zero, List.set_cons_succ, List.map_cons, List.map_nil, List.length_cons, List.length_nil, List.replicate, List.append_nil, List.cons_append, List.nil_append, rb_er, so_er, e_sErr, e_sTry, e_iEnumE, e_sSetIx, e_uX, e_w1, e_w2, e_wc2, e_wl1, e_wl2, e_wL, e_wB, e_wTr, e_wNot, e_wAnd, e_wOr, e_wIf, e_wArgs0, e_wArgs, e_wTup, e_wCall, e_zSet, e_zOwn, e_zPut, e_zRet, e_zRt, e_zExpr, e_zIf, e_zFor, e_sRetL, sb_ok, sb_none, up_ok, up_none, up_po, soS_ok, soS_none, Bool.not_true, Bool.not_false, Bool.false_eq_true, Bool.true_and, Bool.false_and, Bool.and_true, Bool.and_false, Bool.true_or, Bool.false_or, Bool.or_true, Bool.or_false, if_true, if_false, Option.map_some, tr_bool, int_int, add_int, sub_int, ca, cb, m1, m2, lo2, ap1]) ?_
  refine seq_nx (r1 := [.io a [.int (v / ((n : Nat) : Int))], .d E0, .d (nd n), .d (nd k), .d (nd r.a), .d (nd r.o), .d (nd r.w), .d (.tuple sg), .d (.int pl), .d (.list Y3)]) (by simp only [e_vVar, e_vRd, e_vC, e_v1, e_v2, e_c1, e_c2, e_l1, e_l2, e_vL, e_vB, e_vArgs0, e_vArgs, e_vTup, e_vCall, e_vIf, e_bTr, e_bNot, e_bAnd, e_bOr, e_bChain, e_iSeq, e_iRange1, e_iRange2, e_vCut, e_vOpt0, e_vOpt, e_sNx, e_sBk, e_sCt, e_sSeq, e_sSet, e_sOwn, e_sPut, e_sFreeze, e_sRet, e_sExpr, e_sIf, e_sApp, e_sPar, e_sFor, runD, slots, so_ok, rb_ok, rb_none, so_none, po_some, List.getElem?_cons_zero, List.getElem?_cons_succ, List.set_cons_zero, List.set_cons_succ, List.map_cons, List.map_nil, List.length_cons, List.length_nil, List.replicate, List.append_nil, List.cons_append, List.nil_append, rb_er, so_er, e_sErr, e_sTry, e_iEnumE, e_sSetIx, e_uX, e_w1, e_w2, e_wc2, e_wl1, e_wl2, e_wL, e_wB, e_wTr, e_wNot, e_wAnd, e_wOr, e_wIf, e_wArgs0, e_wArgs, e_wTup, e_wCall, e_zSet, e_zOwn, e_zPut, e_zRet, e_zRt, e_zExpr, e_zIf, e_zFor, e_sRetL, sb_ok, sb_none, up_ok, up_none, up_po, soS_ok, soS_none, Bool.not_true, Bool.not_false, Bool.false_eq_true, Bool.true_and, Bool.false_and, Bool.and_true, Bool.and_false, Bool.true_or, Bool.false_or, Bool.or_true, Bool.or_false, if_true, if_false, Option.map_some, tr_bool, int_int, add_int, sub_int, ng1, ap2]) ?_
  refine seq_nx (r1 := [.io a [.int (v / ((n : Nat) : Int))], .d E0, .d (nd n), .d (nd k), .d (nd r.a), .d (nd r.o), .d (nd r.w), .d (.tuple sg), .d (.int pl), .d (.list Y4)]) (by simp only [e_vVar, e_vRd, e_vC, e_v1, e_v2, e_c1, e_c2, e_l1, e_l2, e_vL, e_vB, e_vArgs0, e_vArgs, e_vTup, e_vCall, e_vIf, e_bTr, e_bNot, e_bAnd, e_bOr, e_bChain, e_iSeq, e_iRange1, e_iRange2, e_vCut, e_vOpt0, e_vOpt, e_sNx, e_sBk, e_sCt, e_sSeq, e_sSet, e_sOwn, e_sPut, e_sFreeze, e_sRet, e_sExpr, e_sIf, e_sApp, e_sPar, e_sFor, runD, slots, so_ok, rb_ok, rb_none, so_none, po_some, List.getElem?_cons_zero, List.getElem?_cons_succ, List.set_cons_zero, List.set_cons_succ, List.map_cons, List.map_nil, List.length_cons, List.length_nil, List.replicate, List.append_nil, List.cons_append, List.nil_append, rb_er, so_er, e_sErr, e_sTry, e_iEnumE, e_sSetIx, e_uX, e_w1, e_w2, e_wc2, e_wl1, e_wl2, e_wL, e_wB, e_wTr, e_wNot, e_wAnd, e_wOr, e_wIf, e_wArgs0, e_wArgs, e_wTup, e_wCall, e_zSet, e_zOwn, e_zPut, e_zRet, e_zRt, e_zExpr, e_zIf, e_zFor, e_sRetL, sb_ok, sb_none, up_ok, up_none, up_po, soS_ok, soS_none, Bool.not_true, Bool.not_false, Bool.false_eq_true, Bool.true_and, Bool.false_and, Bool.and_true, Bool.and_false, Bool.true_or, Bool.false_or, Bool.or_true, Bool.or_false, if_true, if_false, Option.map_some, tr_bool, int_int, add_int, sub_int, a12, ca, cb, q1, q2, ap3]) ?_
  simp only [e_vVar, e_vRd, e_vC, e_v1, e_v2, e_c1, e_c2, e_l1, e_l2, e_vL, e_vB, e_vArgs0, e_vArgs, e_vTup, e_vCall, e_vIf, e_bTr, e_bNot, e_bAnd, e_bOr, e_bChain, e_iSeq, e_iRange1, e_iRange2, e_vCut, e_vOpt0, e_vOpt, e_sNx, e_sBk, e_sCt, e_sSeq, e_sSet, e_sOwn, e_sPut, e_sFreeze, e_sRet, e_sExpr, e_sIf, e_sApp, e_sPar, e_sFor, runD, slots, so_ok, rb_ok, rb_none, so_none, po_some, List.getElem?_cons_zero, List.getElem?_cons_succ, List.set_cons_zero, List.set_cons_succ, List.map_cons, List.map_nil, List.length_cons, List.length_nil, List.replicate, List.append_nil, List.cons_append, List.nil_append, rb_er, so_er, e_sErr, e_sTry, e_iEnumE, e_sSetIx, e_uX, e_w1, e_w2, e_wc2, e_wl1, e_wl2, e_wL, e_wB, e_wTr, e_wNot, e_wAnd, e_wOr, e_wIf, e_wArgs0, e_wArgs, e_wTup, e_wCall, e_zSet, e_zOwn, e_zPut, e_zRet, e_zRt, e_zExpr, e_zIf, e_zFor, e_sRetL, sb_ok, sb_none, up_ok, up_none, up_po, soS_ok, soS_none, Bool.not_true, Bool.not_false, Bool.false_eq_true, Bool.true_and, Bool.false_and, Bool.and_true, Bool.and_false, Bool.true_or, Bool.false_or, Bool.or_true, Bool.or_false, if_true, if_false, Option.map_some, tr_bool, int_int, add_int, sub_int, hg]
/-! books that are none -/
theorem not_book {n : D} {xs : List D} (h : ∀ i : Int, n = .int i → xs.all (isRule i) = false) : isBook (.tuple [n, .tuple xs]) = false := by
  cases n with
  | int i =>
    show (isNum 1 4 (.int i) && decide (xs.length ≤ 12) && xs.all (isRule i) && DL.fresh [] xs) = false
    rw [h i rfl, Bool.and_false, Bool.false_and]
  | _ => rfl
theorem fresh_dup {z x : D} (h : PyData.eqv z x = true) : ∀ (xs seen : List D), z ∈ seen → x ∈ xs → DL.fresh seen xs = false
  | y :: ys, seen, h1, h2 => by
    show (!(seen.any fun z => PyData.eqv z y) && DL.fresh (seen ++ [y]) ys) = false
    rcases List.mem_cons.mp h2 with rfl | h2
    · have : (seen.any fun z => PyData.eqv z x) = true := List.any_eq_true.mpr ⟨z, h1, h⟩
      rw [this]
      rfl
    · rw [fresh_dup h ys (seen ++ [y]) (List.mem_append_left _ h1) h2, Bool.and_false]
theorem twice_no {n : Nat} {x : D} {xs ys : List D} (hx : isRule (n : Nat) x = true) : isBook (.tuple [nd n, .tuple (x :: (ys ++ x :: xs))]) = false := by
  have e : PyData.eqv x x = true := (eqv_same 2 (rule_deep hx).1 (rule_deep hx).1).mpr rfl
  have f : DL.fresh [] (x :: (ys ++ x :: xs)) = false := by
    show (!(([] : List D).any fun z => PyData.eqv z x) && DL.fresh ([] ++ [x]) (ys ++ x :: xs)) = false
    rw [fresh_dup e (ys ++ x :: xs) ([] ++ [x]) (List.mem_singleton.mpr rfl) (List.mem_append_right _ List.mem_cons_self), Bool.and_false]
  show (_ && DL.fresh [] (x :: (ys ++ x :: xs))) = false
  rw [f, Bool.and_false]
theorem thirteen_ : ∃ d, f_law_thirteen [] = ok d ∧ isBook d = false := ⟨_, rfl, by decide +kernel⟩
theorem bad_ {n : Nat} {R : List Rl} (B : Bo n R) (n2 : 2 ≤ n) (hR : R ≠ []) (v : Int) {k : Nat} (hk : k < 24) : ∃ (d : D) (v' : Int), isBook d = false ∧ ∀ a, f_law_bad [.io a [.int v], .d (eB n R), .d (nd k)] = some (.ok d, [[.int v']]) := by
  have LIM := big
  have n4 := B.n4
  have hl := B.len
  have hp : 0 < R.length := List.length_pos_iff.mpr hR
  have m0 : (0 : Int) < ((R.length : Nat) : Int) := by omega
  have mb : ((R.length : Nat) : Int) < 1073741824 := by omega
  have hm := mod_in v m0
  obtain ⟨j, ej⟩ : ∃ j : Nat, v % ((R.length : Nat) : Int) = j := ⟨(v % ((R.length : Nat) : Int)).toNat, by omega⟩
  have hj : j < R.length := by omega
  have ll : dLen (.tuple (R.map eR)) = some (.int ((R.length : Nat) : Int)) := by rw [len_tup, List.length_map]
  have pt : ∀ r2 : DL.Env, (Tg.many [3, 4]).put (eB n R) r2 = some ((r2.set 3 (.d (nd n))).set 4 (.d (.tuple (R.map eR)))) := fun _ => rfl
  have bookA : dAdd (eB n R) (.tuple [.int 0]) = some (.tuple [nd n, .tuple (R.map eR), .int 0]) := rfl
  have lo : lOf (.tuple (R.map eR)) = some (R.map eR) := rfl
  obtain ⟨d13, h13, b13⟩ := thirteen_
  by_cases h14 : k < 14
  · obtain ⟨b, v', hb, eb⟩ := bad_rule_ n2 n4 (v / ((R.length : Nat) : Int)) (B.ok _ (List.getElem_mem hj)) h14
    have gx : dIx (.tuple (R.map eR)) (nd j) = some (eR R[j]) := xrule (List.getElem?_eq_getElem hj)
    generalize eR R[j] = e at eb gx
    obtain ⟨t1, m1, m2⟩ := add_mid (xs := R.map eR) (d := b) (a := none) (b := some ((j : Nat) : Int)) (c := some (((j : Nat) : Int) + 1)) (e := none) (by rw [List.length_map]; omega)
    have ff : isBook (.tuple [nd n, .tuple ((cutD (R.map eR) none (some ((j : Nat) : Int)) ++ [b]) ++ cutD (R.map eR) (some (((j : Nat) : Int) + 1)) none)]) = false := not_book fun i hi => by
      cases hi
      exact all_mid hb
    refine ⟨_, v', ff, fun a => ?_⟩
    generalize hZ : (cutD (R.map eR) none (some ((j : Nat) : Int)) ++ [b]) ++ cutD (R.map eR) (some (((j : Nat) : Int) + 1)) none = Z at m2
    have cz := cut_tup none (some ((j : Nat) : Int)) (R.map eR)
    have cz2 := cut_tup (some (((j : Nat) : Int) + 1)) none (R.map eR)
    generalize PyData.tuple (cutD (R.map eR) none (some ((j : Nat) : Int))) = Z1 at cz m1
    generalize PyData.tuple (cutD (R.map eR) (some (((j : Nat) : Int) + 1)) none) = Z2 at cz2 m2
    generalize eB n R = E0 at pt
    generalize PyData.tuple (R.map eR) = T at pt ll gx cz cz2
    have lt : ((k : Nat) : Int) < 14 := by omega
    refine runI_ri (r := [.io a [.int v'], .d E0, .d (nd k), .d (nd n), .d T, .d (nd j), .d b, .un, .un]) ?_ rfl (out1 a _ _ [E0, nd k] _ (by simp))
    show b_law_bad [.io a [.int v], .d E0, .d (nd k), .un, .un, .un, .un, .un, .un] = _
    have p1 := fun rr => pick0i (r := rr) (a := a) (v := v) m0 mb
    rw [ej] at p1
    have c2 := callI_of (g := f_law_bad_rule) (r := [.io a [.int (v / ((R.length : Nat) : Int))], .d E0, .d (nd k), .d (nd n), .d T, .d (nd j), .un, .un, .un]) (bs := [.io 0, .d e, .d (nd n), .d (nd k)]) (fun ad => [.io (ad 0) [.int (v / ((R.length : Nat) : Int))], .d e, .d (nd n), .d (nd k)]) (fun ad => by simp [mkS, e_ioXs]) (fun ad => eb _) rfl
    rw [b_law_bad]
    refine seq_nx (r1 := [.io a [.int v], .d E0, .d (nd k), .d (nd n), .d T, .un, .un, .un, .un]) (by simp only [e_vVar, e_vRd, e_vC, e_v1, e_v2, e_c1, e_c2, e_l1, e_l2, e_vL, e_vB, e_vArgs0, e_vArgs, e_vTup, e_vCall, e_vIf, e_bTr, e_bNot, e_bAnd, e_bOr, e_bChain, e_iSeq, e_iRange1, e_iRange2, e_vCut, e_vOpt0, e_vOpt, e_sNx, e_sBk, e_sCt, e_sSeq, e_sSet, e_sOwn, e_sPut, e_sFreeze, e_sRet, e_sExpr, e_sIf, e_sApp, e_sPar, e_sFor, runD, slots, so_ok, rb_ok, rb_none, so_none, po_some, List.getElem?_cons_zero, List.getElem?_cons_succ, List.set_cons_zero, List.set_cons_succ, List.map_cons, List.map_nil, List.length_cons, List.length_nil, List.replicate, List.append_nil, List.cons_append, List.nil_append, rb_er, so_er, e_sErr, e_sTry, e_iEnumE, e_sSetIx, e_uX, e_w1, e_w2, e_wc2, e_wl1, e_wl2, e_wL, e_wB, e_wTr, e_wNot, e_wAnd, e_wOr, e_wIf, e_wArgs0, e_wArgs, e_wTup, e_wCall, e_zSet, e_zOwn, e_zPut, e_zRet, e_zRt, e_zExpr, e_zIf, e_zFor, e_sRetL, sb_ok, sb_none, up_ok, up_none, up_po, soS_ok, soS_none, Bool.not_true, Bool.not_false, Bool.false_eq_true, Bool.true_and, Bool.false_and, Bool.and_true, Bool.and_false, Bool.true_or, Bool.false_or, Bool.or_true, Bool.or_false, if_true, if_false, Option.map_some, tr_bool, int_int, add_int, sub_int, pt]) ?_
    rw [e_sSeq]
    simp only [e_vVar, e_vRd, e_vC, e_v1, e_v2, e_c1, e_c2, e_l1, e_l2, e_vL, e_vB, e_vArgs0, e_vArgs, e_vTup, e_vCall, e_vIf, e_bTr, e_bNot, e_bAnd, e_bOr, e_bChain, e_iSeq, e_iRange1, e_iRange2, e_vCut, e_vOpt0, e_vOpt, e_sNx, e_sBk, e_sCt, e_sSeq, e_sSet, e_sOwn, e_sPut, e_sFreeze, e_sRet, e_sExpr, e_sIf, e_sApp, e_sPar, e_sFor, runD, slots, so_ok, rb_ok, rb_none, so_none, po_some, List.getElem?_cons_zero, List.getElem?_cons_succ, List.set_cons_zero, List.set_cons_succ, List.map_cons, List.map_nil, List.length_cons, List.length_nil, List.replicate, List.append_nil, List.cons_append, List.nil_append, rb_er, so_er, e_sErr, e_sTry, e_iEnumE, e_sSetIx, e_uX, e_w1, e_w2, e_wc2, e_wl1, e_wl2, e_wL, e_wB, e_wTr, e_wNot, e_wAnd, e_wOr, e_wIf, e_wArgs0, e_wArgs, e_wTup, e_wCall, e_zSet, e_zOwn, e_zPut, e_zRet, e_zRt, e_zExpr, e_zIf, e_zFor, e_sRetL, sb_ok, sb_none, up_ok, up_none, up_po, soS_ok, soS_none, Bool.not_true, Bool.not_false, Bool.false_eq_true, Bool.true_and, Bool.false_and, Bool.and_true, Bool.and_false, Bool.true_or, Bool.false_or, Bool.or_true, Bool.or_false, if_true, if_false, Option.map_some, tr_bool, int_int, add_int, sub_int, e_wCallI, e_wCallN, e_wArgI0, e_wArgIx, e_wArgIo, e_ioXs, e_ioSet, resl_own, resl_io, e_zApp, lCall_e, lt_int, lt, decide_true, ll, p1, sb_some, soS_some, gx, c2, cz, cz2, m1, m2]
  · -- another object
    have hmap : R.map eR ≠ [] := fun e => hR (List.map_eq_nil_iff.mp e)
    have cu : cutD (R.map eR) none (some (((j : Nat) : Int) + 1)) = (R.map eR).take (j + 1) := cut_to _ (j + 1) (by rw [List.length_map]; omega)
    have ad : dAdd (.tuple ((R.map eR).take (j + 1))) (.tuple (R.map eR)) = some (.tuple ((R.map eR).take (j + 1) ++ R.map eR)) := add_t _ _ (by rw [List.length_append, List.length_take, List.length_map]; omega)
    have ct : dCut none (some (((j : Nat) : Int) + 1)) (.tuple (R.map eR)) = some (.tuple ((R.map eR).take (j + 1))) := by rw [cut_tup, cu]
    have tw : isBook (.tuple [nd n, .tuple ((R.map eR).take (j + 1) ++ R.map eR)]) = false := by
      cases R with
      | nil => exact absurd rfl hR
      | cons r R =>
        show isBook (.tuple [nd n, .tuple (eR r :: ((R.map eR).take j ++ eR r :: R.map eR))]) = false
        refine twice_no ?_
        have := B.is
        unfold isBook eB at this
        simp only [Bool.and_eq_true, List.map_cons, List.all_cons] at this
        exact this.1.2.1
    generalize (R.map eR).take (j + 1) ++ R.map eR = TW at ad tw
    generalize (R.map eR).take (j + 1) = TK at ad ct
    obtain ⟨d, hd, hg⟩ : ∃ d : D, isBook d = false ∧ dIx (.list ([.tuple [nd n, .tuple TW], .list [nd n, .tuple (R.map eR)], .tuple [nd n, .list (R.map eR)], .tuple [.int 0, .tuple []], .tuple [.int 5, .tuple []], .tuple [.bool true, .tuple []], .tuple [nd n], .tuple [nd n, .tuple (R.map eR), .int 0]] ++ [.none, d13])) (.int (((k : Nat) : Int) - 14)) = some d := by
      have : k = 14 ∨ k = 15 ∨ k = 16 ∨ k = 17 ∨ k = 18 ∨ k = 19 ∨ k = 20 ∨ k = 21 ∨ k = 22 ∨ k = 23 := by omega
      rcases this with rfl | rfl | rfl | rfl | rfl | rfl | rfl | rfl | rfl | rfl
      · exact ⟨_, tw, rfl⟩
      · exact ⟨_, rfl, rfl⟩
      · exact ⟨_, rfl, rfl⟩
      · exact ⟨_, rfl, rfl⟩
      · exact ⟨_, rfl, rfl⟩
      · exact ⟨_, rfl, rfl⟩
      · exact ⟨_, rfl, rfl⟩
      · exact ⟨_, rfl, rfl⟩
      · exact ⟨_, rfl, rfl⟩
      · exact ⟨_, b13, rfl⟩
    have ap := add_l [.tuple [nd n, .tuple TW], .list [nd n, .tuple (R.map eR)], .tuple [nd n, .list (R.map eR)], .tuple [.int 0, .tuple []], .tuple [.int 5, .tuple []], .tuple [.bool true, .tuple []], .tuple [nd n], .tuple [nd n, .tuple (R.map eR), .int 0]] [.none, d13] (by exact (show (10 : Nat) ≤ 16777216 by decide))
    refine ⟨d, v / ((R.length : Nat) : Int), hd, fun a => ?_⟩
    generalize eB n R = E0 at pt bookA
    generalize hT : R.map eR = rs at *
    generalize hT : PyData.tuple rs = T at *
    generalize [PyData.tuple [nd n, .tuple TW], .list [nd n, T], .tuple [nd n, .list rs], .tuple [.int 0, .tuple []], .tuple [.int 5, .tuple []], .tuple [.bool true, .tuple []], .tuple [nd n], .tuple [nd n, T, .int 0]] ++ [.none, d13] = Y at ap hg
    have lt : ¬ ((k : Nat) : Int) < 14 := by omega
    have p1 := fun rr => pick0i (r := rr) (a := a) (v := v) m0 mb
    rw [ej] at p1
    refine runI_ri (r := [.io a [.int (v / ((R.length : Nat) : Int))], .d E0, .d (nd k), .d (nd n), .d T, .un, .un, .d (.tuple TW), .d (.list Y)]) ?_ rfl (out1 a _ _ [E0, nd k] _ (by simp))
    show b_law_bad [.io a [.int v], .d E0, .d (nd k), .un, .un, .un, .un, .un, .un] = _
    rw [b_law_bad]
    refine seq_nx (r1 := [.io a [.int v], .d E0, .d (nd k), .d (nd n), .d T, .un, .un, .un, .un]) (by simp only [e_vVar, e_vRd, e_vC, e_v1, e_v2, e_c1, e_c2, e_l1, e_l2, e_vL, e_vB, e_vArgs0, e_vArgs, e_vTup, e_vCall, e_vIf, e_bTr, e_bNot, e_bAnd, e_bOr, e_bChain, e_iSeq, e_iRange1, e_iRange2, e_vCut, e_vOpt0, e_vOpt, e_sNx, e_sBk, e_sCt, e_sSeq, e_sSet, e_sOwn, e_sPut, e_sFreeze, e_sRet, e_sExpr, e_sIf, e_sApp, e_sPar, e_sFor, runD, slots, so_ok, rb_ok, rb_none, so_none, po_some, List.getElem?_cons_zero, List.getElem?_cons_succ, List.set_cons_zero, List.set_cons_succ, List.map_cons, List.map_nil, List.length_cons, List.length_nil, List.replicate, List.append_nil, List.cons_append, List.nil_append, rb_er, so_er, e_sErr, e_sTry, e_iEnumE, e_sSetIx, e_uX, e_w1, e_w2, e_wc2, e_wl1, e_wl2, e_wL, e_wB, e_wTr, e_wNot, e_wAnd, e_wOr, e_wIf, e_wArgs0, e_wArgs, e_wTup, e_wCall, e_zSet, e_zOwn, e_zPut, e_zRet, e_zRt, e_zExpr, e_zIf, e_zFor, e_sRetL, sb_ok, sb_none, up_ok, up_none, up_po, soS_ok, soS_none, Bool.not_true, Bool.not_false, Bool.false_eq_true, Bool.true_and, Bool.false_and, Bool.and_true, Bool.and_false, Bool.true_or, Bool.false_or, Bool.or_true, Bool.or_false, if_true, if_false, Option.map_some, tr_bool, int_int, add_int, sub_int, pt]) ?_
    refine seq_nx (r1 := [.io a [.int v], .d E0, .d (nd k), .d (nd n), .d T, .un, .un, .un, .un]) (by simp only [e_vVar, e_vRd, e_vC, e_v1, e_v2, e_c1, e_c2, e_l1, e_l2, e_vL, e_vB, e_vArgs0, e_vArgs, e_vTup, e_vCall, e_vIf, e_bTr, e_bNot, e_bAnd, e_bOr, e_bChain, e_iSeq, e_iRange1, e_iRange2, e_vCut, e_vOpt0, e_vOpt, e_sNx, e_sBk, e_sCt, e_sSeq, e_sSet, e_sOwn, e_sPut, e_sFreeze, e_sRet, e_sExpr, e_sIf, e_sApp, e_sPar, e_sFor, runD, slots, so_ok, rb_ok, rb_none, so_none, po_some, List.getElem?_cons_zero, List.getElem?_cons_succ, List.set_cons_zero, List.set_cons_succ, List.map_cons, List.map_nil, List.length_cons, List.length_nil, List.replicate, List.append_nil, List.cons_append, List.nil_append, rb_er, so_er, e_sErr, e_sTry, e_iEnumE, e_sSetIx, e_uX, e_w1, e_w2, e_wc2, e_wl1, e_wl2, e_wL, e_wB, e_wTr, e_wNot, e_wAnd, e_wOr, e_wIf, e_wArgs0, e_wArgs, e_wTup, e_wCall, e_zSet, e_zOwn, e_zPut, e_zRet, e_zRt, e_zExpr, e_zIf, e_zFor, e_sRetL, sb_ok, sb_none, up_ok, up_none, up_po, soS_ok, soS_none, Bool.not_true, Bool.not_false, Bool.false_eq_true, Bool.true_and, Bool.false_and, Bool.and_true, Bool.and_false, Bool.true_or, Bool.false_or, Bool.or_true, Bool.or_false, if_true, if_false, Option.map_some, tr_bool, int_int, add_int, sub_int, lt_int, lt, decide_false]) ?_
    refine seq_nx (r1 := [.io a [.int (v / ((R.length : Nat) : Int))], .d E0, .d (nd k), .d (nd n), .d T, .un, .un, .d (.tuple TW), .un]) (by simp only [e_vVar, e_vRd, e_vC, e_v1, e_v2, e_c1, e_c2, e_l1, e_l2, e_vL, e_vB, e_vArgs0, e_vArgs, e_vTup, e_vCall, e_vIf, e_bTr, e_bNot, e_bAnd, e_bOr, e_bChain, e_iSeq, e_iRange1, e_iRange2, e_vCut, e_vOpt0, e_vOpt, e_sNx, e_sBk, e_sCt, e_sSeq, e_sSet, e_sOwn, e_sPut, e_sFreeze, e_sRet, e_sExpr, e_sIf, e_sApp, e_sPar, e_sFor, runD, slots, so_ok, rb_ok, rb_none, so_none, po_some, List.getElem?_cons_zero, List.getElem?_cons_succ, List.set_cons_zero, List.set_cons_succ, List.map_cons, List.map_nil, List.length_cons, List.length_nil, List.replicate, List.append_nil, List.cons_append, List.nil_append, rb_er, so_er, e_sErr, e_sTry, e_iEnumE, e_sSetIx, e_uX, e_w1, e_w2, e_wc2, e_wl1, e_wl2, e_wL, e_wB, e_wTr, e_wNot, e_wAnd, e_wOr, e_wIf, e_wArgs0, e_wArgs, e_wTup, e_wCall, e_zSet, e_zOwn, e_zPut, e_zRet, e_zRt, e_zExpr, e_zIf, e_zFor, e_sRetL, sb_ok, sb_none, up_ok, up_none, up_po, soS_ok, soS_none, Bool.not_true, Bool.not_false, Bool.false_eq_true, Bool.true_and, Bool.false_and, Bool.and_true, Bool.and_false, Bool.true_or, Bool.false_or, Bool.or_true, Bool.or_false, if_true, if_false, Option.map_some, tr_bool, int_int, add_int, sub_int, e_wCallI, e_wCallN, e_wArgI0, e_wArgIx, e_wArgIo, e_ioXs, e_ioSet, resl_own, resl_io, e_zApp, lCall_e, wCutT, ll, p1, sb_some, soS_some, ct, ad]) ?_
    refine seq_nx (r1 := _) (by simp only [e_vVar, e_vRd, e_vC, e_v1, e_v2, e_c1, e_c2, e_l1, e_l2, e_vL, e_vB, e_vArgs0, e_vArgs, e_vTup, e_vCall, e_vIf, e_bTr, e_bNot, e_bAnd, e_bOr, e_bChain, e_iSeq, e_iRange1, e_iRange2, e_vCut, e_vOpt0, e_vOpt, e_sNx, e_sBk, e_sCt, e_sSeq, e_sSet, e_sOwn, e_sPut, e_sFreeze, e_sRet, e_sExpr, e_sIf, e_sApp, e_sPar, e_sFor, runD, slots, so_ok, rb_ok, rb_none, so_none, po_some, List.getElem?_cons_zero, List.getElem?_cons_succ, List.set_cons_zero, List.set_cons_succ, List.map_cons, List.map_nil, List.length_cons, List.length_nil, List.replicate, List.append_nil, List.cons_append, List.nil_append, rb_er, so_er, e_sErr, e_sTry, e_iEnumE, e_sSetIx, e_uX, e_w1, e_w2, e_wc2, e_wl1, e_wl2, e_wL, e_wB, e_wTr, e_wNot, e_wAnd, e_wOr, e_wIf, e_wArgs0, e_wArgs, e_wTup, e_wCall, e_zSet, e_zOwn, e_zPut, e_zRet, e_zRt, e_zExpr, e_zIf, e_zFor, e_sRetL, sb_ok, sb_none, up_ok, up_none, up_po, soS_ok, soS_none, Bool.not_true, Bool.not_false, Bool.false_eq_true, Bool.true_and, Bool.false_and, Bool.and_true, Bool.and_false, Bool.true_or, Bool.false_or, Bool.or_true, Bool.or_false, if_true, if_false, Option.map_some, tr_bool, int_int, add_int, sub_int, lo, bookA]; rfl) ?_
    refine seq_nx (r1 := [.io a [.int (v / ((R.length : Nat) : Int))], .d E0, .d (nd k), .d (nd n), .d T, .un, .un, .d (.tuple TW), .d (.list Y)]) (by simp only [e_vVar, e_vRd, e_vC, e_v1, e_v2, e_c1, e_c2, e_l1, e_l2, e_vL, e_vB, e_vArgs0, e_vArgs, e_vTup, e_vCall, e_vIf, e_bTr, e_bNot, e_bAnd, e_bOr, e_bChain, e_iSeq, e_iRange1, e_iRange2, e_vCut, e_vOpt0, e_vOpt, e_sNx, e_sBk, e_sCt, e_sSeq, e_sSet, e_sOwn, e_sPut, e_sFreeze, e_sRet, e_sExpr, e_sIf, e_sApp, e_sPar, e_sFor, runD, slots, so_ok, rb_ok, rb_none, so_none, po_some, List.getElem?_cons_zero, List.getElem?_cons_succ, List.set_cons_zero, List.set_cons_succ, List.map_cons, List.map_nil, List.length_cons, List.length_nil, List.replicate, List.append_nil, List.cons_append, List.nil_append, rb_er, so_er, e_sErr, e_sTry, e_iEnumE, e_sSetIx, e_uX, e_w1, e_w2, e_wc2, e_wl1, e_wl2, e_wL, e_wB, e_wTr, e_wNot, e_wAnd, e_wOr, e_wIf, e_wArgs0, e_wArgs, e_wTup, e_wCall, e_zSet, e_zOwn, e_zPut, e_zRet, e_zRt, e_zExpr, e_zIf, e_zFor, e_sRetL, sb_ok, sb_none, up_ok, up_none, up_po, soS_ok, soS_none, Bool.not_true, Bool.not_false, Bool.false_eq_true, Bool.true_and, Bool.false_and, Bool.and_true, Bool.and_false, Bool.true_or, Bool.false_or, Bool.or_true, Bool.or_false, if_true, if_false, Option.map_some, tr_bool, int_int, add_int, sub_int, h13, ap]) ?_
    simp only [e_vVar, e_vRd, e_vC, e_v1, e_v2, e_c1, e_c2, e_l1, e_l2, e_vL, e_vB, e_vArgs0, e_vArgs, e_vTup, e_vCall, e_vIf, e_bTr, e_bNot, e_bAnd, e_bOr, e_bChain, e_iSeq, e_iRange1, e_iRange2, e_vCut, e_vOpt0, e_vOpt, e_sNx, e_sBk, e_sCt, e_sSeq, e_sSet, e_sOwn, e_sPut, e_sFreeze, e_sRet, e_sExpr, e_sIf, e_sApp, e_sPar, e_sFor, runD, slots, so_ok, rb_ok, rb_none, so_none, po_some, List.getElem?_cons_zero, List.getElem?_cons_succ, List.set_cons_zero, List.set_cons_succ, List.map_cons, List.map_nil, List.length_cons, List.length_nil, List.replicate, List.append_nil, List.cons_append, List.nil_append, rb_er, so_er, e_sErr, e_sTry, e_iEnumE, e_sSetIx, e_uX, e_w1, e_w2, e_wc2, e_wl1, e_wl2, e_wL, e_wB, e_wTr, e_wNot, e_wAnd, e_wOr, e_wIf, e_wArgs0, e_wArgs, e_wTup, e_wCall, e_zSet, e_zOwn, e_zPut, e_zRet, e_zRt, e_zExpr, e_zIf, e_zFor, e_sRetL, sb_ok, sb_none, up_ok, up_none, up_po, soS_ok, soS_none, Bool.not_true, Bool.not_false, Bool.false_eq_true, Bool.true_and, Bool.false_and, Bool.and_true, Bool.and_false, Bool.true_or, Bool.false_or, Bool.or_true, Bool.or_false, if_true, if_false, Option.map_some, tr_bool, int_int, add_int, sub_int, hg]
/-! the doors -/
theorem sIf_no {c : EB} {p q : SX} {r : DL.Env} {x : Option Out} (h : c r = ok false) (g : q r = x) : sIf c p q r = x := by
  rw [e_sIf, h]
  exact g
theorem sIf_yes {c : EB} {p q : SX} {r : DL.Env} {x : Option Out} (h : c r = ok true) (g : p r = x) : sIf c p q r = x := by
  rw [e_sIf, h]
  exact g
section
variable {b : D} (hb : f_check_book [b] = er ⟨"BadBook", none⟩) {n : Nat} (hg : f_check_book [.tuple [nd n, .tuple []]] = ok .none)
include hb
theorem tree_no (t : D) : f_check_tree [b, t] = er ⟨"BadBook", none⟩ := by
  have h : f_is_tree [b, t] = er ⟨"BadBook", none⟩ := by simp only [f_is_tree, b_is_tree, e_vVar, e_vRd, e_vC, e_v1, e_v2, e_c1, e_c2, e_l1, e_l2, e_vL, e_vB, e_vArgs0, e_vArgs, e_vTup, e_vCall, e_vIf, e_bTr, e_bNot, e_bAnd, e_bOr, e_bChain, e_iSeq, e_iRange1, e_iRange2, e_vCut, e_vOpt0, e_vOpt, e_sNx, e_sBk, e_sCt, e_sSeq, e_sSet, e_sOwn, e_sPut, e_sFreeze, e_sRet, e_sExpr, e_sIf, e_sApp, e_sPar, e_sFor, runD, slots, so_ok, rb_ok, rb_none, so_none, po_some, List.getElem?_cons_zero, List.getElem?_cons_succ, List.set_cons_zero, List.set_cons_succ, List.map_cons, List.map_nil, List.length_cons, List.length_nil, List.replicate, List.append_nil, List.cons_append, List.nil_append, rb_er, so_er, e_sErr, e_sTry, e_iEnumE, e_sSetIx, e_uX, e_w1, e_w2, e_wc2, e_wl1, e_wl2, e_wL, e_wB, e_wTr, e_wNot, e_wAnd, e_wOr, e_wIf, e_wArgs0, e_wArgs, e_wTup, e_wCall, e_zSet, e_zOwn, e_zPut, e_zRet, e_zRt, e_zExpr, e_zIf, e_zFor, e_sRetL, sb_ok, sb_none, up_ok, up_none, up_po, soS_ok, soS_none, Bool.not_true, Bool.not_false, Bool.false_eq_true, Bool.true_and, Bool.false_and, Bool.and_true, Bool.and_false, Bool.true_or, Bool.false_or, Bool.or_true, Bool.or_false, if_true, if_false, Option.map_some, tr_bool, int_int, add_int, sub_int, hb]
  simp only [f_check_tree, b_check_tree, e_vVar, e_vRd, e_vC, e_v1, e_v2, e_c1, e_c2, e_l1, e_l2, e_vL, e_vB, e_vArgs0, e_vArgs, e_vTup, e_vCall, e_vIf, e_bTr, e_bNot, e_bAnd, e_bOr, e_bChain, e_iSeq, e_iRange1, e_iRange2, e_vCut, e_vOpt0, e_vOpt, e_sNx, e_sBk, e_sCt, e_sSeq, e_sSet, e_sOwn, e_sPut, e_sFreeze, e_sRet, e_sExpr, e_sIf, e_sApp, e_sPar, e_sFor, runD, slots, so_ok, rb_ok, rb_none, so_none, po_some, List.getElem?_cons_zero, List.getElem?_cons_succ, List.set_cons_zero, List.set_cons_succ, List.map_cons, List.map_nil, List.length_cons, List.length_nil, List.replicate, List.append_nil, List.cons_append, List.nil_append, rb_er, so_er, e_sErr, e_sTry, e_iEnumE, e_sSetIx, e_uX, e_w1, e_w2, e_wc2, e_wl1, e_wl2, e_wL, e_wB, e_wTr, e_wNot, e_wAnd, e_wOr, e_wIf, e_wArgs0, e_wArgs, e_wTup, e_wCall, e_zSet, e_zOwn, e_zPut, e_zRet, e_zRt, e_zExpr, e_zIf, e_zFor, e_sRetL, sb_ok, sb_none, up_ok, up_none, up_po, soS_ok, soS_none, Bool.not_true, Bool.not_false, Bool.false_eq_true, Bool.true_and, Bool.false_and, Bool.and_true, Bool.and_false, Bool.true_or, Bool.false_or, Bool.or_true, Bool.or_false, if_true, if_false, Option.map_some, tr_bool, int_int, add_int, sub_int, h]
theorem reader_no : f_reader_of [b] = er ⟨"BadBook", none⟩ := by simp only [f_reader_of, b_reader_of, e_vVar, e_vRd, e_vC, e_v1, e_v2, e_c1, e_c2, e_l1, e_l2, e_vL, e_vB, e_vArgs0, e_vArgs, e_vTup, e_vCall, e_vIf, e_bTr, e_bNot, e_bAnd, e_bOr, e_bChain, e_iSeq, e_iRange1, e_iRange2, e_vCut, e_vOpt0, e_vOpt, e_sNx, e_sBk, e_sCt, e_sSeq, e_sSet, e_sOwn, e_sPut, e_sFreeze, e_sRet, e_sExpr, e_sIf, e_sApp, e_sPar, e_sFor, runD, slots, so_ok, rb_ok, rb_none, so_none, po_some, List.getElem?_cons_zero, List.getElem?_cons_succ, List.set_cons_zero, List.set_cons_succ, List.map_cons, List.map_nil, List.length_cons, List.length_nil, List.replicate, List.append_nil, List.cons_append, List.nil_append, rb_er, so_er, e_sErr, e_sTry, e_iEnumE, e_sSetIx, e_uX, e_w1, e_w2, e_wc2, e_wl1, e_wl2, e_wL, e_wB, e_wTr, e_wNot, e_wAnd, e_wOr, e_wIf, e_wArgs0, e_wArgs, e_wTup, e_wCall, e_zSet, e_zOwn, e_zPut, e_zRet, e_zRt, e_zExpr, e_zIf, e_zFor, e_sRetL, sb_ok, sb_none, up_ok, up_none, up_po, soS_ok, soS_none, Bool.not_true, Bool.not_false, Bool.false_eq_true, Bool.true_and, Bool.false_and, Bool.and_true, Bool.and_false, Bool.true_or, Bool.false_or, Bool.or_true, Bool.or_false, if_true, if_false, Option.map_some, tr_bool, int_int, add_int, sub_int, hb]
theorem few_no : f_check_few_rules [b] = er ⟨"BadBook", none⟩ := by simp only [f_check_few_rules, b_check_few_rules, e_vVar, e_vRd, e_vC, e_v1, e_v2, e_c1, e_c2, e_l1, e_l2, e_vL, e_vB, e_vArgs0, e_vArgs, e_vTup, e_vCall, e_vIf, e_bTr, e_bNot, e_bAnd, e_bOr, e_bChain, e_iSeq, e_iRange1, e_iRange2, e_vCut, e_vOpt0, e_vOpt, e_sNx, e_sBk, e_sCt, e_sSeq, e_sSet, e_sOwn, e_sPut, e_sFreeze, e_sRet, e_sExpr, e_sIf, e_sApp, e_sPar, e_sFor, runD, slots, so_ok, rb_ok, rb_none, so_none, po_some, List.getElem?_cons_zero, List.getElem?_cons_succ, List.set_cons_zero, List.set_cons_succ, List.map_cons, List.map_nil, List.length_cons, List.length_nil, List.replicate, List.append_nil, List.cons_append, List.nil_append, rb_er, so_er, e_sErr, e_sTry, e_iEnumE, e_sSetIx, e_uX, e_w1, e_w2, e_wc2, e_wl1, e_wl2, e_wL, e_wB, e_wTr, e_wNot, e_wAnd, e_wOr, e_wIf, e_wArgs0, e_wArgs, e_wTup, e_wCall, e_zSet, e_zOwn, e_zPut, e_zRet, e_zRt, e_zExpr, e_zIf, e_zFor, e_sRetL, sb_ok, sb_none, up_ok, up_none, up_po, soS_ok, soS_none, Bool.not_true, Bool.not_false, Bool.false_eq_true, Bool.true_and, Bool.false_and, Bool.and_true, Bool.and_false, Bool.true_or, Bool.false_or, Bool.or_true, Bool.or_false, if_true, if_false, Option.map_some, tr_bool, int_int, add_int, sub_int, hb]
include hg
theorem two_no1 : f_two_readers [b, .tuple [nd n, .tuple []]] = er ⟨"BadBook", none⟩ := by simp only [f_two_readers, b_two_readers, e_vVar, e_vRd, e_vC, e_v1, e_v2, e_c1, e_c2, e_l1, e_l2, e_vL, e_vB, e_vArgs0, e_vArgs, e_vTup, e_vCall, e_vIf, e_bTr, e_bNot, e_bAnd, e_bOr, e_bChain, e_iSeq, e_iRange1, e_iRange2, e_vCut, e_vOpt0, e_vOpt, e_sNx, e_sBk, e_sCt, e_sSeq, e_sSet, e_sOwn, e_sPut, e_sFreeze, e_sRet, e_sExpr, e_sIf, e_sApp, e_sPar, e_sFor, runD, slots, so_ok, rb_ok, rb_none, so_none, po_some, List.getElem?_cons_zero, List.getElem?_cons_succ, List.set_cons_zero, List.set_cons_succ, List.map_cons, List.map_nil, List.length_cons, List.length_nil, List.replicate, List.append_nil, List.cons_append, List.nil_append, rb_er, so_er, e_sErr, e_sTry, e_iEnumE, e_sSetIx, e_uX, e_w1, e_w2, e_wc2, e_wl1, e_wl2, e_wL, e_wB, e_wTr, e_wNot, e_wAnd, e_wOr, e_wIf, e_wArgs0, e_wArgs, e_wTup, e_wCall, e_zSet, e_zOwn, e_zPut, e_zRet, e_zRt, e_zExpr, e_zIf, e_zFor, e_sRetL, sb_ok, sb_none, up_ok, up_none, up_po, soS_ok, soS_none, Bool.not_true, Bool.not_false, Bool.false_eq_true, Bool.true_and, Bool.false_and, Bool.and_true, Bool.and_false, Bool.true_or, Bool.false_or, Bool.or_true, Bool.or_false, if_true, if_false, Option.map_some, tr_bool, int_int, add_int, sub_int, hb]
theorem two_no2 : f_two_readers [.tuple [nd n, .tuple []], b] = er ⟨"BadBook", none⟩ := by simp only [f_two_readers, b_two_readers, e_vVar, e_vRd, e_vC, e_v1, e_v2, e_c1, e_c2, e_l1, e_l2, e_vL, e_vB, e_vArgs0, e_vArgs, e_vTup, e_vCall, e_vIf, e_bTr, e_bNot, e_bAnd, e_bOr, e_bChain, e_iSeq, e_iRange1, e_iRange2, e_vCut, e_vOpt0, e_vOpt, e_sNx, e_sBk, e_sCt, e_sSeq, e_sSet, e_sOwn, e_sPut, e_sFreeze, e_sRet, e_sExpr, e_sIf, e_sApp, e_sPar, e_sFor, runD, slots, so_ok, rb_ok, rb_none, so_none, po_some, List.getElem?_cons_zero, List.getElem?_cons_succ, List.set_cons_zero, List.set_cons_succ, List.map_cons, List.map_nil, List.length_cons, List.length_nil, List.replicate, List.append_nil, List.cons_append, List.nil_append, rb_er, so_er, e_sErr, e_sTry, e_iEnumE, e_sSetIx, e_uX, e_w1, e_w2, e_wc2, e_wl1, e_wl2, e_wL, e_wB, e_wTr, e_wNot, e_wAnd, e_wOr, e_wIf, e_wArgs0, e_wArgs, e_wTup, e_wCall, e_zSet, e_zOwn, e_zPut, e_zRet, e_zRt, e_zExpr, e_zIf, e_zFor, e_sRetL, sb_ok, sb_none, up_ok, up_none, up_po, soS_ok, soS_none, Bool.not_true, Bool.not_false, Bool.false_eq_true, Bool.true_and, Bool.false_and, Bool.and_true, Bool.and_false, Bool.true_or, Bool.false_or, Bool.or_true, Bool.or_false, if_true, if_false, Option.map_some, tr_bool, int_int, add_int, sub_int, hb, hg]
theorem first_ (n1 : 1 ≤ n) (n4 : n ≤ 4) {k : Nat} (hk : k < 10) : f_law_first_doors [nd k, b, .tuple [nd n, .tuple []]] = er ⟨"BadBook", none⟩ := by
  have t := tree_no hb
  have a0 : f_outcome_of [b] = er ⟨"BadBook", none⟩ := by simp only [f_outcome_of, b_outcome_of, e_vVar, e_vRd, e_vC, e_v1, e_v2, e_c1, e_c2, e_l1, e_l2, e_vL, e_vB, e_vArgs0, e_vArgs, e_vTup, e_vCall, e_vIf, e_bTr, e_bNot, e_bAnd, e_bOr, e_bChain, e_iSeq, e_iRange1, e_iRange2, e_vCut, e_vOpt0, e_vOpt, e_sNx, e_sBk, e_sCt, e_sSeq, e_sSet, e_sOwn, e_sPut, e_sFreeze, e_sRet, e_sExpr, e_sIf, e_sApp, e_sPar, e_sFor, runD, slots, so_ok, rb_ok, rb_none, so_none, po_some, List.getElem?_cons_zero, List.getElem?_cons_succ, List.set_cons_zero, List.set_cons_succ, List.map_cons, List.map_nil, List.length_cons, List.length_nil, List.replicate, List.append_nil, List.cons_append, List.nil_append, rb_er, so_er, e_sErr, e_sTry, e_iEnumE, e_sSetIx, e_uX, e_w1, e_w2, e_wc2, e_wl1, e_wl2, e_wL, e_wB, e_wTr, e_wNot, e_wAnd, e_wOr, e_wIf, e_wArgs0, e_wArgs, e_wTup, e_wCall, e_zSet, e_zOwn, e_zPut, e_zRet, e_zRt, e_zExpr, e_zIf, e_zFor, e_sRetL, sb_ok, sb_none, up_ok, up_none, up_po, soS_ok, soS_none, Bool.not_true, Bool.not_false, Bool.false_eq_true, Bool.true_and, Bool.false_and, Bool.and_true, Bool.and_false, Bool.true_or, Bool.false_or, Bool.or_true, Bool.or_false, if_true, if_false, Option.map_some, tr_bool, int_int, add_int, sub_int, hb]
  have a1 : ∀ c, f_outcome_holds [b, c] = er ⟨"BadBook", none⟩ := fun c => by simp only [f_outcome_holds, b_outcome_holds, e_vVar, e_vRd, e_vC, e_v1, e_v2, e_c1, e_c2, e_l1, e_l2, e_vL, e_vB, e_vArgs0, e_vArgs, e_vTup, e_vCall, e_vIf, e_bTr, e_bNot, e_bAnd, e_bOr, e_bChain, e_iSeq, e_iRange1, e_iRange2, e_vCut, e_vOpt0, e_vOpt, e_sNx, e_sBk, e_sCt, e_sSeq, e_sSet, e_sOwn, e_sPut, e_sFreeze, e_sRet, e_sExpr, e_sIf, e_sApp, e_sPar, e_sFor, runD, slots, so_ok, rb_ok, rb_none, so_none, po_some, List.getElem?_cons_zero, List.getElem?_cons_succ, List.set_cons_zero, List.set_cons_succ, List.map_cons, List.map_nil, List.length_cons, List.length_nil, List.replicate, List.append_nil, List.cons_append, List.nil_append, rb_er, so_er, e_sErr, e_sTry, e_iEnumE, e_sSetIx, e_uX, e_w1, e_w2, e_wc2, e_wl1, e_wl2, e_wL, e_wB, e_wTr, e_wNot, e_wAnd, e_wOr, e_wIf, e_wArgs0, e_wArgs, e_wTup, e_wCall, e_zSet, e_zOwn, e_zPut, e_zRet, e_zRt, e_zExpr, e_zIf, e_zFor, e_sRetL, sb_ok, sb_none, up_ok, up_none, up_po, soS_ok, soS_none, Bool.not_true, Bool.not_false, Bool.false_eq_true, Bool.true_and, Bool.false_and, Bool.and_true, Bool.and_false, Bool.true_or, Bool.false_or, Bool.or_true, Bool.or_false, if_true, if_false, Option.map_some, tr_bool, int_int, add_int, sub_int, hb]
  have a2 : ∀ c, f_rest_of [b, c] = er ⟨"BadBook", none⟩ := fun c => by simp only [f_rest_of, b_rest_of, e_vVar, e_vRd, e_vC, e_v1, e_v2, e_c1, e_c2, e_l1, e_l2, e_vL, e_vB, e_vArgs0, e_vArgs, e_vTup, e_vCall, e_vIf, e_bTr, e_bNot, e_bAnd, e_bOr, e_bChain, e_iSeq, e_iRange1, e_iRange2, e_vCut, e_vOpt0, e_vOpt, e_sNx, e_sBk, e_sCt, e_sSeq, e_sSet, e_sOwn, e_sPut, e_sFreeze, e_sRet, e_sExpr, e_sIf, e_sApp, e_sPar, e_sFor, runD, slots, so_ok, rb_ok, rb_none, so_none, po_some, List.getElem?_cons_zero, List.getElem?_cons_succ, List.set_cons_zero, List.set_cons_succ, List.map_cons, List.map_nil, List.length_cons, List.length_nil, List.replicate, List.append_nil, List.cons_append, List.nil_append, rb_er, so_er, e_sErr, e_sTry, e_iEnumE, e_sSetIx, e_uX, e_w1, e_w2, e_wc2, e_wl1, e_wl2, e_wL, e_wB, e_wTr, e_wNot, e_wAnd, e_wOr, e_wIf, e_wArgs0, e_wArgs, e_wTup, e_wCall, e_zSet, e_zOwn, e_zPut, e_zRet, e_zRt, e_zExpr, e_zIf, e_zFor, e_sRetL, sb_ok, sb_none, up_ok, up_none, up_po, soS_ok, soS_none, Bool.not_true, Bool.not_false, Bool.false_eq_true, Bool.true_and, Bool.false_and, Bool.and_true, Bool.and_false, Bool.true_or, Bool.false_or, Bool.or_true, Bool.or_false, if_true, if_false, Option.map_some, tr_bool, int_int, add_int, sub_int, t]
  have r3 : ∀ c d, f_run_steps [b, c, d] = er ⟨"BadBook", none⟩ := fun c d => by
    simp only [f_run_steps, b_run_steps, e_vVar, e_vRd, e_vC, e_v1, e_v2, e_c1, e_c2, e_l1, e_l2, e_vL, e_vB, e_vArgs0, e_vArgs, e_vTup, e_vCall, e_vIf, e_bTr, e_bNot, e_bAnd, e_bOr, e_bChain, e_iSeq, e_iRange1, e_iRange2, e_vCut, e_vOpt0, e_vOpt, e_sNx, e_sBk, e_sCt, e_sSeq, e_sSet, e_sOwn, e_sPut, e_sFreeze, e_sRet, e_sExpr, e_sIf, e_sApp, e_sPar, e_sFor, runD, slots, so_ok, rb_ok, rb_none, so_none, po_some, List.getElem?_cons_zero, List.getElem?_cons_succ, List.set_cons_zero, List.set_cons_succ, List.map_cons, List.map_nil, List.length_cons, List.length_nil, List.replicate, List.append_nil, List.cons_append, List.nil_append, rb_er, so_er, e_sErr, e_sTry, e_iEnumE, e_sSetIx, e_uX, e_w1, e_w2, e_wc2, e_wl1, e_wl2, e_wL, e_wB, e_wTr, e_wNot, e_wAnd, e_wOr, e_wIf, e_wArgs0, e_wArgs, e_wTup, e_wCall, e_zSet, e_zOwn, e_zPut, e_zRet, e_zRt, e_zExpr, e_zIf, e_zFor, e_sRetL, sb_ok, sb_none, up_ok, up_none, up_po, soS_ok, soS_none, Bool.not_true, Bool.not_false, Bool.false_eq_true, Bool.true_and, Bool.false_and, Bool.and_true, Bool.and_false, Bool.true_or, Bool.false_or, Bool.or_true, Bool.or_false, if_true, if_false, Option.map_some, tr_bool, int_int, add_int, sub_int, t]
  have a3 : ∀ c d e, f_join_runs [b, c, d, e] = er ⟨"BadBook", none⟩ := fun c d e => by simp only [f_join_runs, b_join_runs, e_vVar, e_vRd, e_vC, e_v1, e_v2, e_c1, e_c2, e_l1, e_l2, e_vL, e_vB, e_vArgs0, e_vArgs, e_vTup, e_vCall, e_vIf, e_bTr, e_bNot, e_bAnd, e_bOr, e_bChain, e_iSeq, e_iRange1, e_iRange2, e_vCut, e_vOpt0, e_vOpt, e_sNx, e_sBk, e_sCt, e_sSeq, e_sSet, e_sOwn, e_sPut, e_sFreeze, e_sRet, e_sExpr, e_sIf, e_sApp, e_sPar, e_sFor, runD, slots, so_ok, rb_ok, rb_none, so_none, po_some, List.getElem?_cons_zero, List.getElem?_cons_succ, List.set_cons_zero, List.set_cons_succ, List.map_cons, List.map_nil, List.length_cons, List.length_nil, List.replicate, List.append_nil, List.cons_append, List.nil_append, rb_er, so_er, e_sErr, e_sTry, e_iEnumE, e_sSetIx, e_uX, e_w1, e_w2, e_wc2, e_wl1, e_wl2, e_wL, e_wB, e_wTr, e_wNot, e_wAnd, e_wOr, e_wIf, e_wArgs0, e_wArgs, e_wTup, e_wCall, e_zSet, e_zOwn, e_zPut, e_zRet, e_zRt, e_zExpr, e_zIf, e_zFor, e_sRetL, sb_ok, sb_none, up_ok, up_none, up_po, soS_ok, soS_none, Bool.not_true, Bool.not_false, Bool.false_eq_true, Bool.true_and, Bool.false_and, Bool.and_true, Bool.and_false, Bool.true_or, Bool.false_or, Bool.or_true, Bool.or_false, if_true, if_false, Option.map_some, tr_bool, int_int, add_int, sub_int, r3]
  have a4 : ∀ c, f_is_reader [b, c] = er ⟨"BadBook", none⟩ := fun c => by simp only [f_is_reader, b_is_reader, e_vVar, e_vRd, e_vC, e_v1, e_v2, e_c1, e_c2, e_l1, e_l2, e_vL, e_vB, e_vArgs0, e_vArgs, e_vTup, e_vCall, e_vIf, e_bTr, e_bNot, e_bAnd, e_bOr, e_bChain, e_iSeq, e_iRange1, e_iRange2, e_vCut, e_vOpt0, e_vOpt, e_sNx, e_sBk, e_sCt, e_sSeq, e_sSet, e_sOwn, e_sPut, e_sFreeze, e_sRet, e_sExpr, e_sIf, e_sApp, e_sPar, e_sFor, runD, slots, so_ok, rb_ok, rb_none, so_none, po_some, List.getElem?_cons_zero, List.getElem?_cons_succ, List.set_cons_zero, List.set_cons_succ, List.map_cons, List.map_nil, List.length_cons, List.length_nil, List.replicate, List.append_nil, List.cons_append, List.nil_append, rb_er, so_er, e_sErr, e_sTry, e_iEnumE, e_sSetIx, e_uX, e_w1, e_w2, e_wc2, e_wl1, e_wl2, e_wL, e_wB, e_wTr, e_wNot, e_wAnd, e_wOr, e_wIf, e_wArgs0, e_wArgs, e_wTup, e_wCall, e_zSet, e_zOwn, e_zPut, e_zRet, e_zRt, e_zExpr, e_zIf, e_zFor, e_sRetL, sb_ok, sb_none, up_ok, up_none, up_po, soS_ok, soS_none, Bool.not_true, Bool.not_false, Bool.false_eq_true, Bool.true_and, Bool.false_and, Bool.and_true, Bool.and_false, Bool.true_or, Bool.false_or, Bool.or_true, Bool.or_false, if_true, if_false, Option.map_some, tr_bool, int_int, add_int, sub_int, hb]
  have a5 := reader_no hb
  have a6 : ∀ c, f_reader_holds [b, c] = er ⟨"BadBook", none⟩ := fun c => by simp only [f_reader_holds, b_reader_holds, e_vVar, e_vRd, e_vC, e_v1, e_v2, e_c1, e_c2, e_l1, e_l2, e_vL, e_vB, e_vArgs0, e_vArgs, e_vTup, e_vCall, e_vIf, e_bTr, e_bNot, e_bAnd, e_bOr, e_bChain, e_iSeq, e_iRange1, e_iRange2, e_vCut, e_vOpt0, e_vOpt, e_sNx, e_sBk, e_sCt, e_sSeq, e_sSet, e_sOwn, e_sPut, e_sFreeze, e_sRet, e_sExpr, e_sIf, e_sApp, e_sPar, e_sFor, runD, slots, so_ok, rb_ok, rb_none, so_none, po_some, List.getElem?_cons_zero, List.getElem?_cons_succ, List.set_cons_zero, List.set_cons_succ, List.map_cons, List.map_nil, List.length_cons, List.length_nil, List.replicate, List.append_nil, List.cons_append, List.nil_append, rb_er, so_er, e_sErr, e_sTry, e_iEnumE, e_sSetIx, e_uX, e_w1, e_w2, e_wc2, e_wl1, e_wl2, e_wL, e_wB, e_wTr, e_wNot, e_wAnd, e_wOr, e_wIf, e_wArgs0, e_wArgs, e_wTup, e_wCall, e_zSet, e_zOwn, e_zPut, e_zRet, e_zRt, e_zExpr, e_zIf, e_zFor, e_sRetL, sb_ok, sb_none, up_ok, up_none, up_po, soS_ok, soS_none, Bool.not_true, Bool.not_false, Bool.false_eq_true, Bool.true_and, Bool.false_and, Bool.and_true, Bool.and_false, Bool.true_or, Bool.false_or, Bool.or_true, Bool.or_false, if_true, if_false, Option.map_some, tr_bool, int_int, add_int, sub_int, hb]
  have q1 := two_no1 hb hg
  have q2 := two_no2 hb hg
  have x0 : dIx (.tuple [nd n, .tuple []]) (.int 0) = some (nd n) := rfl
  generalize PyData.tuple [nd n, .tuple []] = g at q1 q2 x0
  have a7 : f_first_difference [b, g] = er ⟨"BadBook", none⟩ := by simp only [f_first_difference, b_first_difference, e_vVar, e_vRd, e_vC, e_v1, e_v2, e_c1, e_c2, e_l1, e_l2, e_vL, e_vB, e_vArgs0, e_vArgs, e_vTup, e_vCall, e_vIf, e_bTr, e_bNot, e_bAnd, e_bOr, e_bChain, e_iSeq, e_iRange1, e_iRange2, e_vCut, e_vOpt0, e_vOpt, e_sNx, e_sBk, e_sCt, e_sSeq, e_sSet, e_sOwn, e_sPut, e_sFreeze, e_sRet, e_sExpr, e_sIf, e_sApp, e_sPar, e_sFor, runD, slots, so_ok, rb_ok, rb_none, so_none, po_some, List.getElem?_cons_zero, List.getElem?_cons_succ, List.set_cons_zero, List.set_cons_succ, List.map_cons, List.map_nil, List.length_cons, List.length_nil, List.replicate, List.append_nil, List.cons_append, List.nil_append, rb_er, so_er, e_sErr, e_sTry, e_iEnumE, e_sSetIx, e_uX, e_w1, e_w2, e_wc2, e_wl1, e_wl2, e_wL, e_wB, e_wTr, e_wNot, e_wAnd, e_wOr, e_wIf, e_wArgs0, e_wArgs, e_wTup, e_wCall, e_zSet, e_zOwn, e_zPut, e_zRet, e_zRt, e_zExpr, e_zIf, e_zFor, e_sRetL, sb_ok, sb_none, up_ok, up_none, up_po, soS_ok, soS_none, Bool.not_true, Bool.not_false, Bool.false_eq_true, Bool.true_and, Bool.false_and, Bool.and_true, Bool.and_false, Bool.true_or, Bool.false_or, Bool.or_true, Bool.or_false, if_true, if_false, Option.map_some, tr_bool, int_int, add_int, sub_int, q1]
  have a8 : f_first_difference [g, b] = er ⟨"BadBook", none⟩ := by simp only [f_first_difference, b_first_difference, e_vVar, e_vRd, e_vC, e_v1, e_v2, e_c1, e_c2, e_l1, e_l2, e_vL, e_vB, e_vArgs0, e_vArgs, e_vTup, e_vCall, e_vIf, e_bTr, e_bNot, e_bAnd, e_bOr, e_bChain, e_iSeq, e_iRange1, e_iRange2, e_vCut, e_vOpt0, e_vOpt, e_sNx, e_sBk, e_sCt, e_sSeq, e_sSet, e_sOwn, e_sPut, e_sFreeze, e_sRet, e_sExpr, e_sIf, e_sApp, e_sPar, e_sFor, runD, slots, so_ok, rb_ok, rb_none, so_none, po_some, List.getElem?_cons_zero, List.getElem?_cons_succ, List.set_cons_zero, List.set_cons_succ, List.map_cons, List.map_nil, List.length_cons, List.length_nil, List.replicate, List.append_nil, List.cons_append, List.nil_append, rb_er, so_er, e_sErr, e_sTry, e_iEnumE, e_sSetIx, e_uX, e_w1, e_w2, e_wc2, e_wl1, e_wl2, e_wL, e_wB, e_wTr, e_wNot, e_wAnd, e_wOr, e_wIf, e_wArgs0, e_wArgs, e_wTup, e_wCall, e_zSet, e_zOwn, e_zPut, e_zRet, e_zRt, e_zExpr, e_zIf, e_zFor, e_sRetL, sb_ok, sb_none, up_ok, up_none, up_po, soS_ok, soS_none, Bool.not_true, Bool.not_false, Bool.false_eq_true, Bool.true_and, Bool.false_and, Bool.and_true, Bool.and_false, Bool.true_or, Bool.false_or, Bool.or_true, Bool.or_false, if_true, if_false, Option.map_some, tr_bool, int_int, add_int, sub_int, q2]
  have a9 : f_first_clash [b, g] = er ⟨"BadBook", none⟩ := by simp only [f_first_clash, b_first_clash, e_vVar, e_vRd, e_vC, e_v1, e_v2, e_c1, e_c2, e_l1, e_l2, e_vL, e_vB, e_vArgs0, e_vArgs, e_vTup, e_vCall, e_vIf, e_bTr, e_bNot, e_bAnd, e_bOr, e_bChain, e_iSeq, e_iRange1, e_iRange2, e_vCut, e_vOpt0, e_vOpt, e_sNx, e_sBk, e_sCt, e_sSeq, e_sSet, e_sOwn, e_sPut, e_sFreeze, e_sRet, e_sExpr, e_sIf, e_sApp, e_sPar, e_sFor, runD, slots, so_ok, rb_ok, rb_none, so_none, po_some, List.getElem?_cons_zero, List.getElem?_cons_succ, List.set_cons_zero, List.set_cons_succ, List.map_cons, List.map_nil, List.length_cons, List.length_nil, List.replicate, List.append_nil, List.cons_append, List.nil_append, rb_er, so_er, e_sErr, e_sTry, e_iEnumE, e_sSetIx, e_uX, e_w1, e_w2, e_wc2, e_wl1, e_wl2, e_wL, e_wB, e_wTr, e_wNot, e_wAnd, e_wOr, e_wIf, e_wArgs0, e_wArgs, e_wTup, e_wCall, e_zSet, e_zOwn, e_zPut, e_zRet, e_zRt, e_zExpr, e_zIf, e_zFor, e_sRetL, sb_ok, sb_none, up_ok, up_none, up_po, soS_ok, soS_none, Bool.not_true, Bool.not_false, Bool.false_eq_true, Bool.true_and, Bool.false_and, Bool.and_true, Bool.and_false, Bool.true_or, Bool.false_or, Bool.or_true, Bool.or_false, if_true, if_false, Option.map_some, tr_bool, int_int, add_int, sub_int, q1]
  have rp : ∀ x : D, ∃ y, dRepT (.tuple [x]) (nd n) = some y := fun x => by
    refine ⟨.tuple (List.replicate (((n : Nat) : Int)).toNat [x]).flatten, ?_⟩
    show (if _ then _ else _) = _
    rw [if_pos ⟨rfl, by omega, by omega, (show (1 : Nat) ≤ 1000 by decide)⟩]
  obtain ⟨y1, e1⟩ := rp (.int 0)
  obtain ⟨y2, e2⟩ := rp (.tuple [.int 0, .int 0])
  suffices h : b_law_first_doors (slots 5 [nd k, b, g]) = some (.er ⟨"BadBook", none⟩ [.d (nd k), .d b, .d g, .d (nd n), .d (.tuple [.int 0, .tuple [], .tuple []])]) by
    simp only [f_law_first_doors, runD, h, List.length_cons, List.length_nil, if_true]
  rw [b_law_first_doors, show slots 5 [nd k, b, g] = [.d (nd k), .d b, .d g, .un, .un] from rfl]
  refine seq_nx (r1 := [.d (nd k), .d b, .d g, .d (nd n), .un]) (by simp only [e_vVar, e_vRd, e_vC, e_v1, e_v2, e_c1, e_c2, e_l1, e_l2, e_vL, e_vB, e_vArgs0, e_vArgs, e_vTup, e_vCall, e_vIf, e_bTr, e_bNot, e_bAnd, e_bOr, e_bChain, e_iSeq, e_iRange1, e_iRange2, e_vCut, e_vOpt0, e_vOpt, e_sNx, e_sBk, e_sCt, e_sSeq, e_sSet, e_sOwn, e_sPut, e_sFreeze, e_sRet, e_sExpr, e_sIf, e_sApp, e_sPar, e_sFor, runD, slots, so_ok, rb_ok, rb_none, so_none, po_some, List.getElem?_cons_zero, List.getElem?_cons_succ, List.set_cons_zero, List.set_cons_succ, List.map_cons, List.map_nil, List.length_cons, List.length_nil, List.replicate, List.append_nil, List.cons_append, List.nil_append, rb_er, so_er, e_sErr, e_sTry, e_iEnumE, e_sSetIx, e_uX, e_w1, e_w2, e_wc2, e_wl1, e_wl2, e_wL, e_wB, e_wTr, e_wNot, e_wAnd, e_wOr, e_wIf, e_wArgs0, e_wArgs, e_wTup, e_wCall, e_zSet, e_zOwn, e_zPut, e_zRet, e_zRt, e_zExpr, e_zIf, e_zFor, e_sRetL, sb_ok, sb_none, up_ok, up_none, up_po, soS_ok, soS_none, Bool.not_true, Bool.not_false, Bool.false_eq_true, Bool.true_and, Bool.false_and, Bool.and_true, Bool.and_false, Bool.true_or, Bool.false_or, Bool.or_true, Bool.or_false, if_true, if_false, Option.map_some, tr_bool, int_int, add_int, sub_int, x0]) ?_
  refine seq_nx (r1 := [.d (nd k), .d b, .d g, .d (nd n), .d (.tuple [.int 0, .tuple [], .tuple []])]) rfl ?_
  have : k = 0 ∨ k = 1 ∨ k = 2 ∨ k = 3 ∨ k = 4 ∨ k = 5 ∨ k = 6 ∨ k = 7 ∨ k = 8 ∨ k = 9 := by omega
  rcases this with rfl | rfl | rfl | rfl | rfl | rfl | rfl | rfl | rfl | rfl
  · exact (sIf_yes rfl (by simp only [e_vVar, e_vRd, e_vC, e_v1, e_v2, e_c1, e_c2, e_l1, e_l2, e_vL, e_vB, e_vArgs0, e_vArgs, e_vTup, e_vCall, e_vIf, e_bTr, e_bNot, e_bAnd, e_bOr, e_bChain, e_iSeq, e_iRange1, e_iRange2, e_vCut, e_vOpt0, e_vOpt, e_sNx, e_sBk, e_sCt, e_sSeq, e_sSet, e_sOwn, e_sPut, e_sFreeze, e_sRet, e_sExpr, e_sIf, e_sApp, e_sPar, e_sFor, runD, slots, so_ok, rb_ok, rb_none, so_none, po_some, List.getElem?_cons_zero, List.getElem?_cons_succ, List.set_cons_zero, List.set_cons_succ, List.map_cons, List.map_nil, List.length_cons, List.length_nil, List.replicate, List.append_nil, List.cons_append, List.nil_append, rb_er, so_er, e_sErr, e_sTry, e_iEnumE, e_sSetIx, e_uX, e_w1, e_w2, e_wc2, e_wl1, e_wl2, e_wL, e_wB, e_wTr, e_wNot, e_wAnd, e_wOr, e_wIf, e_wArgs0, e_wArgs, e_wTup, e_wCall, e_zSet, e_zOwn, e_zPut, e_zRet, e_zRt, e_zExpr, e_zIf, e_zFor, e_sRetL, sb_ok, sb_none, up_ok, up_none, up_po, soS_ok, soS_none, Bool.not_true, Bool.not_false, Bool.false_eq_true, Bool.true_and, Bool.false_and, Bool.and_true, Bool.and_false, Bool.true_or, Bool.false_or, Bool.or_true, Bool.or_false, if_true, if_false, Option.map_some, tr_bool, int_int, add_int, sub_int, x0, e1, e2, a0]))
  · exact (sIf_no rfl (sIf_yes rfl (by simp only [e_vVar, e_vRd, e_vC, e_v1, e_v2, e_c1, e_c2, e_l1, e_l2, e_vL, e_vB, e_vArgs0, e_vArgs, e_vTup, e_vCall, e_vIf, e_bTr, e_bNot, e_bAnd, e_bOr, e_bChain, e_iSeq, e_iRange1, e_iRange2, e_vCut, e_vOpt0, e_vOpt, e_sNx, e_sBk, e_sCt, e_sSeq, e_sSet, e_sOwn, e_sPut, e_sFreeze, e_sRet, e_sExpr, e_sIf, e_sApp, e_sPar, e_sFor, runD, slots, so_ok, rb_ok, rb_none, so_none, po_some, List.getElem?_cons_zero, List.getElem?_cons_succ, List.set_cons_zero, List.set_cons_succ, List.map_cons, List.map_nil, List.length_cons, List.length_nil, List.replicate, List.append_nil, List.cons_append, List.nil_append, rb_er, so_er, e_sErr, e_sTry, e_iEnumE, e_sSetIx, e_uX, e_w1, e_w2, e_wc2, e_wl1, e_wl2, e_wL, e_wB, e_wTr, e_wNot, e_wAnd, e_wOr, e_wIf, e_wArgs0, e_wArgs, e_wTup, e_wCall, e_zSet, e_zOwn, e_zPut, e_zRet, e_zRt, e_zExpr, e_zIf, e_zFor, e_sRetL, sb_ok, sb_none, up_ok, up_none, up_po, soS_ok, soS_none, Bool.not_true, Bool.not_false, Bool.false_eq_true, Bool.true_and, Bool.false_and, Bool.and_true, Bool.and_false, Bool.true_or, Bool.false_or, Bool.or_true, Bool.or_false, if_true, if_false, Option.map_some, tr_bool, int_int, add_int, sub_int, x0, e1, e2, a1])))
  · exact (sIf_no rfl (sIf_no rfl (sIf_yes rfl (by simp only [e_vVar, e_vRd, e_vC, e_v1, e_v2, e_c1, e_c2, e_l1, e_l2, e_vL, e_vB, e_vArgs0, e_vArgs, e_vTup, e_vCall, e_vIf, e_bTr, e_bNot, e_bAnd, e_bOr, e_bChain, e_iSeq, e_iRange1, e_iRange2, e_vCut, e_vOpt0, e_vOpt, e_sNx, e_sBk, e_sCt, e_sSeq, e_sSet, e_sOwn, e_sPut, e_sFreeze, e_sRet, e_sExpr, e_sIf, e_sApp, e_sPar, e_sFor, runD, slots, so_ok, rb_ok, rb_none, so_none, po_some, List.getElem?_cons_zero, List.getElem?_cons_succ, List.set_cons_zero, List.set_cons_succ, List.map_cons, List.map_nil, List.length_cons, List.length_nil, List.replicate, List.append_nil, List.cons_append, List.nil_append, rb_er, so_er, e_sErr, e_sTry, e_iEnumE, e_sSetIx, e_uX, e_w1, e_w2, e_wc2, e_wl1, e_wl2, e_wL, e_wB, e_wTr, e_wNot, e_wAnd, e_wOr, e_wIf, e_wArgs0, e_wArgs, e_wTup, e_wCall, e_zSet, e_zOwn, e_zPut, e_zRet, e_zRt, e_zExpr, e_zIf, e_zFor, e_sRetL, sb_ok, sb_none, up_ok, up_none, up_po, soS_ok, soS_none, Bool.not_true, Bool.not_false, Bool.false_eq_true, Bool.true_and, Bool.false_and, Bool.and_true, Bool.and_false, Bool.true_or, Bool.false_or, Bool.or_true, Bool.or_false, if_true, if_false, Option.map_some, tr_bool, int_int, add_int, sub_int, x0, e1, e2, a2]))))
  · exact (sIf_no rfl (sIf_no rfl (sIf_no rfl (sIf_yes rfl (by simp only [e_vVar, e_vRd, e_vC, e_v1, e_v2, e_c1, e_c2, e_l1, e_l2, e_vL, e_vB, e_vArgs0, e_vArgs, e_vTup, e_vCall, e_vIf, e_bTr, e_bNot, e_bAnd, e_bOr, e_bChain, e_iSeq, e_iRange1, e_iRange2, e_vCut, e_vOpt0, e_vOpt, e_sNx, e_sBk, e_sCt, e_sSeq, e_sSet, e_sOwn, e_sPut, e_sFreeze, e_sRet, e_sExpr, e_sIf, e_sApp, e_sPar, e_sFor, runD, slots, so_ok, rb_ok, rb_none, so_none, po_some, List.getElem?_cons_zero, List.getElem?_cons_succ, List.set_cons_zero, List.set_cons_succ, List.map_cons, List.map_nil, List.length_cons, List.length_nil, List.replicate, List.append_nil, List.cons_append, List.nil_append, rb_er, so_er, e_sErr, e_sTry, e_iEnumE, e_sSetIx, e_uX, e_w1, e_w2, e_wc2, e_wl1, e_wl2, e_wL, e_wB, e_wTr, e_wNot, e_wAnd, e_wOr, e_wIf, e_wArgs0, e_wArgs, e_wTup, e_wCall, e_zSet, e_zOwn, e_zPut, e_zRet, e_zRt, e_zExpr, e_zIf, e_zFor, e_sRetL, sb_ok, sb_none, up_ok, up_none, up_po, soS_ok, soS_none, Bool.not_true, Bool.not_false, Bool.false_eq_true, Bool.true_and, Bool.false_and, Bool.and_true, Bool.and_false, Bool.true_or, Bool.false_or, Bool.or_true, Bool.or_false, if_true, if_false, Option.map_some, tr_bool, int_int, add_int, sub_int, x0, e1, e2, a3])))))
  · exact (sIf_no rfl (sIf_no rfl (sIf_no rfl (sIf_no rfl (sIf_yes rfl (by simp only [e_vVar, e_vRd, e_vC, e_v1, e_v2, e_c1, e_c2, e_l1, e_l2, e_vL, e_vB, e_vArgs0, e_vArgs, e_vTup, e_vCall, e_vIf, e_bTr, e_bNot, e_bAnd, e_bOr, e_bChain, e_iSeq, e_iRange1, e_iRange2, e_vCut, e_vOpt0, e_vOpt, e_sNx, e_sBk, e_sCt, e_sSeq, e_sSet, e_sOwn, e_sPut, e_sFreeze, e_sRet, e_sExpr, e_sIf, e_sApp, e_sPar, e_sFor, runD, slots, so_ok, rb_ok, rb_none, so_none, po_some, List.getElem?_cons_zero, List.getElem?_cons_succ, List.set_cons_zero, List.set_cons_succ, List.map_cons, List.map_nil, List.length_cons, List.length_nil, List.replicate, List.append_nil, List.cons_append, List.nil_append, rb_er, so_er, e_sErr, e_sTry, e_iEnumE, e_sSetIx, e_uX, e_w1, e_w2, e_wc2, e_wl1, e_wl2, e_wL, e_wB, e_wTr, e_wNot, e_wAnd, e_wOr, e_wIf, e_wArgs0, e_wArgs, e_wTup, e_wCall, e_zSet, e_zOwn, e_zPut, e_zRet, e_zRt, e_zExpr, e_zIf, e_zFor, e_sRetL, sb_ok, sb_none, up_ok, up_none, up_po, soS_ok, soS_none, Bool.not_true, Bool.not_false, Bool.false_eq_true, Bool.true_and, Bool.false_and, Bool.and_true, Bool.and_false, Bool.true_or, Bool.false_or, Bool.or_true, Bool.or_false, if_true, if_false, Option.map_some, tr_bool, int_int, add_int, sub_int, x0, e1, e2, a4]))))))
  · exact (sIf_no rfl (sIf_no rfl (sIf_no rfl (sIf_no rfl (sIf_no rfl (sIf_yes rfl (by simp only [e_vVar, e_vRd, e_vC, e_v1, e_v2, e_c1, e_c2, e_l1, e_l2, e_vL, e_vB, e_vArgs0, e_vArgs, e_vTup, e_vCall, e_vIf, e_bTr, e_bNot, e_bAnd, e_bOr, e_bChain, e_iSeq, e_iRange1, e_iRange2, e_vCut, e_vOpt0, e_vOpt, e_sNx, e_sBk, e_sCt, e_sSeq, e_sSet, e_sOwn, e_sPut, e_sFreeze, e_sRet, e_sExpr, e_sIf, e_sApp, e_sPar, e_sFor, runD, slots, so_ok, rb_ok, rb_none, so_none, po_some, List.getElem?_cons_zero, List.getElem?_cons_succ, List.set_cons_zero, List.set_cons_succ, List.map_cons, List.map_nil, List.length_cons, List.length_nil, List.replicate, List.append_nil, List.cons_append, List.nil_append, rb_er, so_er, e_sErr, e_sTry, e_iEnumE, e_sSetIx, e_uX, e_w1, e_w2, e_wc2, e_wl1, e_wl2, e_wL, e_wB, e_wTr, e_wNot, e_wAnd, e_wOr, e_wIf, e_wArgs0, e_wArgs, e_wTup, e_wCall, e_zSet, e_zOwn, e_zPut, e_zRet, e_zRt, e_zExpr, e_zIf, e_zFor, e_sRetL, sb_ok, sb_none, up_ok, up_none, up_po, soS_ok, soS_none, Bool.not_true, Bool.not_false, Bool.false_eq_true, Bool.true_and, Bool.false_and, Bool.and_true, Bool.and_false, Bool.true_or, Bool.false_or, Bool.or_true, Bool.or_false, if_true, if_false, Option.map_some, tr_bool, int_int, add_int, sub_int, x0, e1, e2, a5])))))))
  · exact (sIf_no rfl (sIf_no rfl (sIf_no rfl (sIf_no rfl (sIf_no rfl (sIf_no rfl (sIf_yes rfl (by simp only [e_vVar, e_vRd, e_vC, e_v1, e_v2, e_c1, e_c2, e_l1, e_l2, e_vL, e_vB, e_vArgs0, e_vArgs, e_vTup, e_vCall, e_vIf, e_bTr, e_bNot, e_bAnd, e_bOr, e_bChain, e_iSeq, e_iRange1, e_iRange2, e_vCut, e_vOpt0, e_vOpt, e_sNx, e_sBk, e_sCt, e_sSeq, e_sSet, e_sOwn, e_sPut, e_sFreeze, e_sRet, e_sExpr, e_sIf, e_sApp, e_sPar, e_sFor, runD, slots, so_ok, rb_ok, rb_none, so_none, po_some, List.getElem?_cons_zero, List.getElem?_cons_succ, List.set_cons_zero, List.set_cons_succ, List.map_cons, List.map_nil, List.length_cons, List.length_nil, List.replicate, List.append_nil, List.cons_append, List.nil_append, rb_er, so_er, e_sErr, e_sTry, e_iEnumE, e_sSetIx, e_uX, e_w1, e_w2, e_wc2, e_wl1, e_wl2, e_wL, e_wB, e_wTr, e_wNot, e_wAnd, e_wOr, e_wIf, e_wArgs0, e_wArgs, e_wTup, e_wCall, e_zSet, e_zOwn, e_zPut, e_zRet, e_zRt, e_zExpr, e_zIf, e_zFor, e_sRetL, sb_ok, sb_none, up_ok, up_none, up_po, soS_ok, soS_none, Bool.not_true, Bool.not_false, Bool.false_eq_true, Bool.true_and, Bool.false_and, Bool.and_true, Bool.and_false, Bool.true_or, Bool.false_or, Bool.or_true, Bool.or_false, if_true, if_false, Option.map_some, tr_bool, int_int, add_int, sub_int, x0, e1, e2, a6]))))))))
  · exact (sIf_no rfl (sIf_no rfl (sIf_no rfl (sIf_no rfl (sIf_no rfl (sIf_no rfl (sIf_no rfl (sIf_yes rfl (by simp only [e_vVar, e_vRd, e_vC, e_v1, e_v2, e_c1, e_c2, e_l1, e_l2, e_vL, e_vB, e_vArgs0, e_vArgs, e_vTup, e_vCall, e_vIf, e_bTr, e_bNot, e_bAnd, e_bOr, e_bChain, e_iSeq, e_iRange1, e_iRange2, e_vCut, e_vOpt0, e_vOpt, e_sNx, e_sBk, e_sCt, e_sSeq, e_sSet, e_sOwn, e_sPut, e_sFreeze, e_sRet, e_sExpr, e_sIf, e_sApp, e_sPar, e_sFor, runD, slots, so_ok, rb_ok, rb_none, so_none, po_some, List.getElem?_cons_zero, List.getElem?_cons_succ, List.set_cons_zero, List.set_cons_succ, List.map_cons, List.map_nil, List.length_cons, List.length_nil, List.replicate, List.append_nil, List.cons_append, List.nil_append, rb_er, so_er, e_sErr, e_sTry, e_iEnumE, e_sSetIx, e_uX, e_w1, e_w2, e_wc2, e_wl1, e_wl2, e_wL, e_wB, e_wTr, e_wNot, e_wAnd, e_wOr, e_wIf, e_wArgs0, e_wArgs, e_wTup, e_wCall, e_zSet, e_zOwn, e_zPut, e_zRet, e_zRt, e_zExpr, e_zIf, e_zFor, e_sRetL, sb_ok, sb_none, up_ok, up_none, up_po, soS_ok, soS_none, Bool.not_true, Bool.not_false, Bool.false_eq_true, Bool.true_and, Bool.false_and, Bool.and_true, Bool.and_false, Bool.true_or, Bool.false_or, Bool.or_true, Bool.or_false, if_true, if_false, Option.map_some, tr_bool, int_int, add_int, sub_int, x0, e1, e2, a7])))))))))
  · exact (sIf_no rfl (sIf_no rfl (sIf_no rfl (sIf_no rfl (sIf_no rfl (sIf_no rfl (sIf_no rfl (sIf_no rfl (sIf_yes rfl (by simp only [e_vVar, e_vRd, e_vC, e_v1, e_v2, e_c1, e_c2, e_l1, e_l2, e_vL, e_vB, e_vArgs0, e_vArgs, e_vTup, e_vCall, e_vIf, e_bTr, e_bNot, e_bAnd, e_bOr, e_bChain, e_iSeq, e_iRange1, e_iRange2, e_vCut, e_vOpt0, e_vOpt, e_sNx, e_sBk, e_sCt, e_sSeq, e_sSet, e_sOwn, e_sPut, e_sFreeze, e_sRet, e_sExpr, e_sIf, e_sApp, e_sPar, e_sFor, runD, slots, so_ok, rb_ok, rb_none, so_none, po_some, List.getElem?_cons_zero, List.getElem?_cons_succ, List.set_cons_zero, List.set_cons_succ, List.map_cons, List.map_nil, List.length_cons, List.length_nil, List.replicate, List.append_nil, List.cons_append, List.nil_append, rb_er, so_er, e_sErr, e_sTry, e_iEnumE, e_sSetIx, e_uX, e_w1, e_w2, e_wc2, e_wl1, e_wl2, e_wL, e_wB, e_wTr, e_wNot, e_wAnd, e_wOr, e_wIf, e_wArgs0, e_wArgs, e_wTup, e_wCall, e_zSet, e_zOwn, e_zPut, e_zRet, e_zRt, e_zExpr, e_zIf, e_zFor, e_sRetL, sb_ok, sb_none, up_ok, up_none, up_po, soS_ok, soS_none, Bool.not_true, Bool.not_false, Bool.false_eq_true, Bool.true_and, Bool.false_and, Bool.and_true, Bool.and_false, Bool.true_or, Bool.false_or, Bool.or_true, Bool.or_false, if_true, if_false, Option.map_some, tr_bool, int_int, add_int, sub_int, x0, e1, e2, a8]))))))))))
  · exact (sIf_no rfl (sIf_no rfl (sIf_no rfl (sIf_no rfl (sIf_no rfl (sIf_no rfl (sIf_no rfl (sIf_no rfl (sIf_no rfl (by simp only [e_vVar, e_vRd, e_vC, e_v1, e_v2, e_c1, e_c2, e_l1, e_l2, e_vL, e_vB, e_vArgs0, e_vArgs, e_vTup, e_vCall, e_vIf, e_bTr, e_bNot, e_bAnd, e_bOr, e_bChain, e_iSeq, e_iRange1, e_iRange2, e_vCut, e_vOpt0, e_vOpt, e_sNx, e_sBk, e_sCt, e_sSeq, e_sSet, e_sOwn, e_sPut, e_sFreeze, e_sRet, e_sExpr, e_sIf, e_sApp, e_sPar, e_sFor, runD, slots, so_ok, rb_ok, rb_none, so_none, po_some, List.getElem?_cons_zero, List.getElem?_cons_succ, List.set_cons_zero, List.set_cons_succ, List.map_cons, List.map_nil, List.length_cons, List.length_nil, List.replicate, List.append_nil, List.cons_append, List.nil_append, rb_er, so_er, e_sErr, e_sTry, e_iEnumE, e_sSetIx, e_uX, e_w1, e_w2, e_wc2, e_wl1, e_wl2, e_wL, e_wB, e_wTr, e_wNot, e_wAnd, e_wOr, e_wIf, e_wArgs0, e_wArgs, e_wTup, e_wCall, e_zSet, e_zOwn, e_zPut, e_zRet, e_zRt, e_zExpr, e_zIf, e_zFor, e_sRetL, sb_ok, sb_none, up_ok, up_none, up_po, soS_ok, soS_none, Bool.not_true, Bool.not_false, Bool.false_eq_true, Bool.true_and, Bool.false_and, Bool.and_true, Bool.and_false, Bool.true_or, Bool.false_or, Bool.or_true, Bool.or_false, if_true, if_false, Option.map_some, tr_bool, int_int, add_int, sub_int, x0, e1, e2, a9]))))))))))
theorem later_ {k : Nat} (h10 : 10 ≤ k) (hk : k < 18) : f_law_later_doors [nd k, b, .tuple [nd n, .tuple []]] = er ⟨"BadBook", none⟩ := by
  have t := tree_no hb
  have q2 := two_no2 hb hg
  generalize PyData.tuple [nd n, .tuple []] = g at q2
  have rd := reader_no hb
  have fw := few_no hb
  have a0 : f_first_clash [g, b] = er ⟨"BadBook", none⟩ := by simp only [f_first_clash, b_first_clash, e_vVar, e_vRd, e_vC, e_v1, e_v2, e_c1, e_c2, e_l1, e_l2, e_vL, e_vB, e_vArgs0, e_vArgs, e_vTup, e_vCall, e_vIf, e_bTr, e_bNot, e_bAnd, e_bOr, e_bChain, e_iSeq, e_iRange1, e_iRange2, e_vCut, e_vOpt0, e_vOpt, e_sNx, e_sBk, e_sCt, e_sSeq, e_sSet, e_sOwn, e_sPut, e_sFreeze, e_sRet, e_sExpr, e_sIf, e_sApp, e_sPar, e_sFor, runD, slots, so_ok, rb_ok, rb_none, so_none, po_some, List.getElem?_cons_zero, List.getElem?_cons_succ, List.set_cons_zero, List.set_cons_succ, List.map_cons, List.map_nil, List.length_cons, List.length_nil, List.replicate, List.append_nil, List.cons_append, List.nil_append, rb_er, so_er, e_sErr, e_sTry, e_iEnumE, e_sSetIx, e_uX, e_w1, e_w2, e_wc2, e_wl1, e_wl2, e_wL, e_wB, e_wTr, e_wNot, e_wAnd, e_wOr, e_wIf, e_wArgs0, e_wArgs, e_wTup, e_wCall, e_zSet, e_zOwn, e_zPut, e_zRet, e_zRt, e_zExpr, e_zIf, e_zFor, e_sRetL, sb_ok, sb_none, up_ok, up_none, up_po, soS_ok, soS_none, Bool.not_true, Bool.not_false, Bool.false_eq_true, Bool.true_and, Bool.false_and, Bool.and_true, Bool.and_false, Bool.true_or, Bool.false_or, Bool.or_true, Bool.or_false, if_true, if_false, Option.map_some, tr_bool, int_int, add_int, sub_int, q2]
  have a1 : f_spare_rules [b] = er ⟨"BadBook", none⟩ := by simp only [f_spare_rules, b_spare_rules, e_vVar, e_vRd, e_vC, e_v1, e_v2, e_c1, e_c2, e_l1, e_l2, e_vL, e_vB, e_vArgs0, e_vArgs, e_vTup, e_vCall, e_vIf, e_bTr, e_bNot, e_bAnd, e_bOr, e_bChain, e_iSeq, e_iRange1, e_iRange2, e_vCut, e_vOpt0, e_vOpt, e_sNx, e_sBk, e_sCt, e_sSeq, e_sSet, e_sOwn, e_sPut, e_sFreeze, e_sRet, e_sExpr, e_sIf, e_sApp, e_sPar, e_sFor, runD, slots, so_ok, rb_ok, rb_none, so_none, po_some, List.getElem?_cons_zero, List.getElem?_cons_succ, List.set_cons_zero, List.set_cons_succ, List.map_cons, List.map_nil, List.length_cons, List.length_nil, List.replicate, List.append_nil, List.cons_append, List.nil_append, rb_er, so_er, e_sErr, e_sTry, e_iEnumE, e_sSetIx, e_uX, e_w1, e_w2, e_wc2, e_wl1, e_wl2, e_wL, e_wB, e_wTr, e_wNot, e_wAnd, e_wOr, e_wIf, e_wArgs0, e_wArgs, e_wTup, e_wCall, e_zSet, e_zOwn, e_zPut, e_zRet, e_zRt, e_zExpr, e_zIf, e_zFor, e_sRetL, sb_ok, sb_none, up_ok, up_none, up_po, soS_ok, soS_none, Bool.not_true, Bool.not_false, Bool.false_eq_true, Bool.true_and, Bool.false_and, Bool.and_true, Bool.and_false, Bool.true_or, Bool.false_or, Bool.or_true, Bool.or_false, if_true, if_false, Option.map_some, tr_bool, int_int, add_int, sub_int, hb]
  have a2 : f_fewest_rules [b] = er ⟨"BadBook", none⟩ := by simp only [f_fewest_rules, b_fewest_rules, e_vVar, e_vRd, e_vC, e_v1, e_v2, e_c1, e_c2, e_l1, e_l2, e_vL, e_vB, e_vArgs0, e_vArgs, e_vTup, e_vCall, e_vIf, e_bTr, e_bNot, e_bAnd, e_bOr, e_bChain, e_iSeq, e_iRange1, e_iRange2, e_vCut, e_vOpt0, e_vOpt, e_sNx, e_sBk, e_sCt, e_sSeq, e_sSet, e_sOwn, e_sPut, e_sFreeze, e_sRet, e_sExpr, e_sIf, e_sApp, e_sPar, e_sFor, runD, slots, so_ok, rb_ok, rb_none, so_none, po_some, List.getElem?_cons_zero, List.getElem?_cons_succ, List.set_cons_zero, List.set_cons_succ, List.map_cons, List.map_nil, List.length_cons, List.length_nil, List.replicate, List.append_nil, List.cons_append, List.nil_append, rb_er, so_er, e_sErr, e_sTry, e_iEnumE, e_sSetIx, e_uX, e_w1, e_w2, e_wc2, e_wl1, e_wl2, e_wL, e_wB, e_wTr, e_wNot, e_wAnd, e_wOr, e_wIf, e_wArgs0, e_wArgs, e_wTup, e_wCall, e_zSet, e_zOwn, e_zPut, e_zRet, e_zRt, e_zExpr, e_zIf, e_zFor, e_sRetL, sb_ok, sb_none, up_ok, up_none, up_po, soS_ok, soS_none, Bool.not_true, Bool.not_false, Bool.false_eq_true, Bool.true_and, Bool.false_and, Bool.and_true, Bool.and_false, Bool.true_or, Bool.false_or, Bool.or_true, Bool.or_false, if_true, if_false, Option.map_some, tr_bool, int_int, add_int, sub_int, fw]
  have a3 : f_fewest_removals [b] = er ⟨"BadBook", none⟩ := by simp only [f_fewest_removals, b_fewest_removals, e_vVar, e_vRd, e_vC, e_v1, e_v2, e_c1, e_c2, e_l1, e_l2, e_vL, e_vB, e_vArgs0, e_vArgs, e_vTup, e_vCall, e_vIf, e_bTr, e_bNot, e_bAnd, e_bOr, e_bChain, e_iSeq, e_iRange1, e_iRange2, e_vCut, e_vOpt0, e_vOpt, e_sNx, e_sBk, e_sCt, e_sSeq, e_sSet, e_sOwn, e_sPut, e_sFreeze, e_sRet, e_sExpr, e_sIf, e_sApp, e_sPar, e_sFor, runD, slots, so_ok, rb_ok, rb_none, so_none, po_some, List.getElem?_cons_zero, List.getElem?_cons_succ, List.set_cons_zero, List.set_cons_succ, List.map_cons, List.map_nil, List.length_cons, List.length_nil, List.replicate, List.append_nil, List.cons_append, List.nil_append, rb_er, so_er, e_sErr, e_sTry, e_iEnumE, e_sSetIx, e_uX, e_w1, e_w2, e_wc2, e_wl1, e_wl2, e_wL, e_wB, e_wTr, e_wNot, e_wAnd, e_wOr, e_wIf, e_wArgs0, e_wArgs, e_wTup, e_wCall, e_zSet, e_zOwn, e_zPut, e_zRet, e_zRt, e_zExpr, e_zIf, e_zFor, e_sRetL, sb_ok, sb_none, up_ok, up_none, up_po, soS_ok, soS_none, Bool.not_true, Bool.not_false, Bool.false_eq_true, Bool.true_and, Bool.false_and, Bool.and_true, Bool.and_false, Bool.true_or, Bool.false_or, Bool.or_true, Bool.or_false, if_true, if_false, Option.map_some, tr_bool, int_int, add_int, sub_int, fw]
  have s4 : ∀ x y z, f_check_settled_node [b, x, y, z] = er ⟨"BadBook", none⟩ := fun x y z => by simp only [f_check_settled_node, b_check_settled_node, e_vVar, e_vRd, e_vC, e_v1, e_v2, e_c1, e_c2, e_l1, e_l2, e_vL, e_vB, e_vArgs0, e_vArgs, e_vTup, e_vCall, e_vIf, e_bTr, e_bNot, e_bAnd, e_bOr, e_bChain, e_iSeq, e_iRange1, e_iRange2, e_vCut, e_vOpt0, e_vOpt, e_sNx, e_sBk, e_sCt, e_sSeq, e_sSet, e_sOwn, e_sPut, e_sFreeze, e_sRet, e_sExpr, e_sIf, e_sApp, e_sPar, e_sFor, runD, slots, so_ok, rb_ok, rb_none, so_none, po_some, List.getElem?_cons_zero, List.getElem?_cons_succ, List.set_cons_zero, List.set_cons_succ, List.map_cons, List.map_nil, List.length_cons, List.length_nil, List.replicate, List.append_nil, List.cons_append, List.nil_append, rb_er, so_er, e_sErr, e_sTry, e_iEnumE, e_sSetIx, e_uX, e_w1, e_w2, e_wc2, e_wl1, e_wl2, e_wL, e_wB, e_wTr, e_wNot, e_wAnd, e_wOr, e_wIf, e_wArgs0, e_wArgs, e_wTup, e_wCall, e_zSet, e_zOwn, e_zPut, e_zRet, e_zRt, e_zExpr, e_zIf, e_zFor, e_sRetL, sb_ok, sb_none, up_ok, up_none, up_po, soS_ok, soS_none, Bool.not_true, Bool.not_false, Bool.false_eq_true, Bool.true_and, Bool.false_and, Bool.and_true, Bool.and_false, Bool.true_or, Bool.false_or, Bool.or_true, Bool.or_false, if_true, if_false, Option.map_some, tr_bool, int_int, add_int, sub_int, t]
  have a4 : ∀ x y z, f_changed_nodes [b, x, y, z] = er ⟨"BadBook", none⟩ := fun x y z => by simp only [f_changed_nodes, b_changed_nodes, e_vVar, e_vRd, e_vC, e_v1, e_v2, e_c1, e_c2, e_l1, e_l2, e_vL, e_vB, e_vArgs0, e_vArgs, e_vTup, e_vCall, e_vIf, e_bTr, e_bNot, e_bAnd, e_bOr, e_bChain, e_iSeq, e_iRange1, e_iRange2, e_vCut, e_vOpt0, e_vOpt, e_sNx, e_sBk, e_sCt, e_sSeq, e_sSet, e_sOwn, e_sPut, e_sFreeze, e_sRet, e_sExpr, e_sIf, e_sApp, e_sPar, e_sFor, runD, slots, so_ok, rb_ok, rb_none, so_none, po_some, List.getElem?_cons_zero, List.getElem?_cons_succ, List.set_cons_zero, List.set_cons_succ, List.map_cons, List.map_nil, List.length_cons, List.length_nil, List.replicate, List.append_nil, List.cons_append, List.nil_append, rb_er, so_er, e_sErr, e_sTry, e_iEnumE, e_sSetIx, e_uX, e_w1, e_w2, e_wc2, e_wl1, e_wl2, e_wL, e_wB, e_wTr, e_wNot, e_wAnd, e_wOr, e_wIf, e_wArgs0, e_wArgs, e_wTup, e_wCall, e_zSet, e_zOwn, e_zPut, e_zRet, e_zRt, e_zExpr, e_zIf, e_zFor, e_sRetL, sb_ok, sb_none, up_ok, up_none, up_po, soS_ok, soS_none, Bool.not_true, Bool.not_false, Bool.false_eq_true, Bool.true_and, Bool.false_and, Bool.and_true, Bool.and_false, Bool.true_or, Bool.false_or, Bool.or_true, Bool.or_false, if_true, if_false, Option.map_some, tr_bool, int_int, add_int, sub_int, s4]
  have a5 : f_change_reach [b] = er ⟨"BadBook", none⟩ := by
    suffices h : b_change_reach (slots 7 [b]) = some (.er ⟨"BadBook", none⟩ (slots 7 [b])) by simp only [f_change_reach, runD, h, List.length_cons, List.length_nil, if_true]
    rw [b_change_reach, e_sSeq]
    simp only [e_vVar, e_vRd, e_vC, e_v1, e_v2, e_c1, e_c2, e_l1, e_l2, e_vL, e_vB, e_vArgs0, e_vArgs, e_vTup, e_vCall, e_vIf, e_bTr, e_bNot, e_bAnd, e_bOr, e_bChain, e_iSeq, e_iRange1, e_iRange2, e_vCut, e_vOpt0, e_vOpt, e_sNx, e_sBk, e_sCt, e_sSeq, e_sSet, e_sOwn, e_sPut, e_sFreeze, e_sRet, e_sExpr, e_sIf, e_sApp, e_sPar, e_sFor, runD, slots, so_ok, rb_ok, rb_none, so_none, po_some, List.getElem?_cons_zero, List.getElem?_cons_succ, List.set_cons_zero, List.set_cons_succ, List.map_cons, List.map_nil, List.length_cons, List.length_nil, List.replicate, List.append_nil, List.cons_append, List.nil_append, rb_er, so_er, e_sErr, e_sTry, e_iEnumE, e_sSetIx, e_uX, e_w1, e_w2, e_wc2, e_wl1, e_wl2, e_wL, e_wB, e_wTr, e_wNot, e_wAnd, e_wOr, e_wIf, e_wArgs0, e_wArgs, e_wTup, e_wCall, e_zSet, e_zOwn, e_zPut, e_zRet, e_zRt, e_zExpr, e_zIf, e_zFor, e_sRetL, sb_ok, sb_none, up_ok, up_none, up_po, soS_ok, soS_none, Bool.not_true, Bool.not_false, Bool.false_eq_true, Bool.true_and, Bool.false_and, Bool.and_true, Bool.and_false, Bool.true_or, Bool.false_or, Bool.or_true, Bool.or_false, if_true, if_false, Option.map_some, tr_bool, int_int, add_int, sub_int, rd]
  have a6 : f_reach_ranks [b] = er ⟨"BadBook", none⟩ := by simp only [f_reach_ranks, b_reach_ranks, e_vVar, e_vRd, e_vC, e_v1, e_v2, e_c1, e_c2, e_l1, e_l2, e_vL, e_vB, e_vArgs0, e_vArgs, e_vTup, e_vCall, e_vIf, e_bTr, e_bNot, e_bAnd, e_bOr, e_bChain, e_iSeq, e_iRange1, e_iRange2, e_vCut, e_vOpt0, e_vOpt, e_sNx, e_sBk, e_sCt, e_sSeq, e_sSet, e_sOwn, e_sPut, e_sFreeze, e_sRet, e_sExpr, e_sIf, e_sApp, e_sPar, e_sFor, runD, slots, so_ok, rb_ok, rb_none, so_none, po_some, List.getElem?_cons_zero, List.getElem?_cons_succ, List.set_cons_zero, List.set_cons_succ, List.map_cons, List.map_nil, List.length_cons, List.length_nil, List.replicate, List.append_nil, List.cons_append, List.nil_append, rb_er, so_er, e_sErr, e_sTry, e_iEnumE, e_sSetIx, e_uX, e_w1, e_w2, e_wc2, e_wl1, e_wl2, e_wL, e_wB, e_wTr, e_wNot, e_wAnd, e_wOr, e_wIf, e_wArgs0, e_wArgs, e_wTup, e_wCall, e_zSet, e_zOwn, e_zPut, e_zRet, e_zRt, e_zExpr, e_zIf, e_zFor, e_sRetL, sb_ok, sb_none, up_ok, up_none, up_po, soS_ok, soS_none, Bool.not_true, Bool.not_false, Bool.false_eq_true, Bool.true_and, Bool.false_and, Bool.and_true, Bool.and_false, Bool.true_or, Bool.false_or, Bool.or_true, Bool.or_false, if_true, if_false, Option.map_some, tr_bool, int_int, add_int, sub_int, rd]
  have a7 : ∀ x, f_touched_states [b, x] = er ⟨"BadBook", none⟩ := fun x => by simp only [f_touched_states, b_touched_states, e_vVar, e_vRd, e_vC, e_v1, e_v2, e_c1, e_c2, e_l1, e_l2, e_vL, e_vB, e_vArgs0, e_vArgs, e_vTup, e_vCall, e_vIf, e_bTr, e_bNot, e_bAnd, e_bOr, e_bChain, e_iSeq, e_iRange1, e_iRange2, e_vCut, e_vOpt0, e_vOpt, e_sNx, e_sBk, e_sCt, e_sSeq, e_sSet, e_sOwn, e_sPut, e_sFreeze, e_sRet, e_sExpr, e_sIf, e_sApp, e_sPar, e_sFor, runD, slots, so_ok, rb_ok, rb_none, so_none, po_some, List.getElem?_cons_zero, List.getElem?_cons_succ, List.set_cons_zero, List.set_cons_succ, List.map_cons, List.map_nil, List.length_cons, List.length_nil, List.replicate, List.append_nil, List.cons_append, List.nil_append, rb_er, so_er, e_sErr, e_sTry, e_iEnumE, e_sSetIx, e_uX, e_w1, e_w2, e_wc2, e_wl1, e_wl2, e_wL, e_wB, e_wTr, e_wNot, e_wAnd, e_wOr, e_wIf, e_wArgs0, e_wArgs, e_wTup, e_wCall, e_zSet, e_zOwn, e_zPut, e_zRet, e_zRt, e_zExpr, e_zIf, e_zFor, e_sRetL, sb_ok, sb_none, up_ok, up_none, up_po, soS_ok, soS_none, Bool.not_true, Bool.not_false, Bool.false_eq_true, Bool.true_and, Bool.false_and, Bool.and_true, Bool.and_false, Bool.true_or, Bool.false_or, Bool.or_true, Bool.or_false, if_true, if_false, Option.map_some, tr_bool, int_int, add_int, sub_int, hb]
  have ng1 : dNeg (.int 1) = some (.int (-1)) := rfl
  suffices h : b_law_later_doors (slots 4 [nd k, b, g]) = some (.er ⟨"BadBook", none⟩ [.d (nd k), .d b, .d g, .d (.tuple [.int 0, .tuple [.int (-1)], .tuple [.int 0]])]) by
    simp only [f_law_later_doors, runD, h, List.length_cons, List.length_nil, if_true]
  rw [b_law_later_doors, show slots 4 [nd k, b, g] = [.d (nd k), .d b, .d g, .un] from rfl]
  refine seq_nx (r1 := [.d (nd k), .d b, .d g, .d (.tuple [.int 0, .tuple [.int (-1)], .tuple [.int 0]])]) rfl ?_
  have : k = 10 ∨ k = 11 ∨ k = 12 ∨ k = 13 ∨ k = 14 ∨ k = 15 ∨ k = 16 ∨ k = 17 := by omega
  rcases this with rfl | rfl | rfl | rfl | rfl | rfl | rfl | rfl
  · exact (sIf_yes rfl (by simp only [e_vVar, e_vRd, e_vC, e_v1, e_v2, e_c1, e_c2, e_l1, e_l2, e_vL, e_vB, e_vArgs0, e_vArgs, e_vTup, e_vCall, e_vIf, e_bTr, e_bNot, e_bAnd, e_bOr, e_bChain, e_iSeq, e_iRange1, e_iRange2, e_vCut, e_vOpt0, e_vOpt, e_sNx, e_sBk, e_sCt, e_sSeq, e_sSet, e_sOwn, e_sPut, e_sFreeze, e_sRet, e_sExpr, e_sIf, e_sApp, e_sPar, e_sFor, runD, slots, so_ok, rb_ok, rb_none, so_none, po_some, List.getElem?_cons_zero, List.getElem?_cons_succ, List.set_cons_zero, List.set_cons_succ, List.map_cons, List.map_nil, List.length_cons, List.length_nil, List.replicate, List.append_nil, List.cons_append, List.nil_append, rb_er, so_er, e_sErr, e_sTry, e_iEnumE, e_sSetIx, e_uX, e_w1, e_w2, e_wc2, e_wl1, e_wl2, e_wL, e_wB, e_wTr, e_wNot, e_wAnd, e_wOr, e_wIf, e_wArgs0, e_wArgs, e_wTup, e_wCall, e_zSet, e_zOwn, e_zPut, e_zRet, e_zRt, e_zExpr, e_zIf, e_zFor, e_sRetL, sb_ok, sb_none, up_ok, up_none, up_po, soS_ok, soS_none, Bool.not_true, Bool.not_false, Bool.false_eq_true, Bool.true_and, Bool.false_and, Bool.and_true, Bool.and_false, Bool.true_or, Bool.false_or, Bool.or_true, Bool.or_false, if_true, if_false, Option.map_some, tr_bool, int_int, add_int, sub_int, a0]))
  · exact (sIf_no rfl (sIf_yes rfl (by simp only [e_vVar, e_vRd, e_vC, e_v1, e_v2, e_c1, e_c2, e_l1, e_l2, e_vL, e_vB, e_vArgs0, e_vArgs, e_vTup, e_vCall, e_vIf, e_bTr, e_bNot, e_bAnd, e_bOr, e_bChain, e_iSeq, e_iRange1, e_iRange2, e_vCut, e_vOpt0, e_vOpt, e_sNx, e_sBk, e_sCt, e_sSeq, e_sSet, e_sOwn, e_sPut, e_sFreeze, e_sRet, e_sExpr, e_sIf, e_sApp, e_sPar, e_sFor, runD, slots, so_ok, rb_ok, rb_none, so_none, po_some, List.getElem?_cons_zero, List.getElem?_cons_succ, List.set_cons_zero, List.set_cons_succ, List.map_cons, List.map_nil, List.length_cons, List.length_nil, List.replicate, List.append_nil, List.cons_append, List.nil_append, rb_er, so_er, e_sErr, e_sTry, e_iEnumE, e_sSetIx, e_uX, e_w1, e_w2, e_wc2, e_wl1, e_wl2, e_wL, e_wB, e_wTr, e_wNot, e_wAnd, e_wOr, e_wIf, e_wArgs0, e_wArgs, e_wTup, e_wCall, e_zSet, e_zOwn, e_zPut, e_zRet, e_zRt, e_zExpr, e_zIf, e_zFor, e_sRetL, sb_ok, sb_none, up_ok, up_none, up_po, soS_ok, soS_none, Bool.not_true, Bool.not_false, Bool.false_eq_true, Bool.true_and, Bool.false_and, Bool.and_true, Bool.and_false, Bool.true_or, Bool.false_or, Bool.or_true, Bool.or_false, if_true, if_false, Option.map_some, tr_bool, int_int, add_int, sub_int, a1])))
  · exact (sIf_no rfl (sIf_no rfl (sIf_yes rfl (by simp only [e_vVar, e_vRd, e_vC, e_v1, e_v2, e_c1, e_c2, e_l1, e_l2, e_vL, e_vB, e_vArgs0, e_vArgs, e_vTup, e_vCall, e_vIf, e_bTr, e_bNot, e_bAnd, e_bOr, e_bChain, e_iSeq, e_iRange1, e_iRange2, e_vCut, e_vOpt0, e_vOpt, e_sNx, e_sBk, e_sCt, e_sSeq, e_sSet, e_sOwn, e_sPut, e_sFreeze, e_sRet, e_sExpr, e_sIf, e_sApp, e_sPar, e_sFor, runD, slots, so_ok, rb_ok, rb_none, so_none, po_some, List.getElem?_cons_zero, List.getElem?_cons_succ, List.set_cons_zero, List.set_cons_succ, List.map_cons, List.map_nil, List.length_cons, List.length_nil, List.replicate, List.append_nil, List.cons_append, List.nil_append, rb_er, so_er, e_sErr, e_sTry, e_iEnumE, e_sSetIx, e_uX, e_w1, e_w2, e_wc2, e_wl1, e_wl2, e_wL, e_wB, e_wTr, e_wNot, e_wAnd, e_wOr, e_wIf, e_wArgs0, e_wArgs, e_wTup, e_wCall, e_zSet, e_zOwn, e_zPut, e_zRet, e_zRt, e_zExpr, e_zIf, e_zFor, e_sRetL, sb_ok, sb_none, up_ok, up_none, up_po, soS_ok, soS_none, Bool.not_true, Bool.not_false, Bool.false_eq_true, Bool.true_and, Bool.false_and, Bool.and_true, Bool.and_false, Bool.true_or, Bool.false_or, Bool.or_true, Bool.or_false, if_true, if_false, Option.map_some, tr_bool, int_int, add_int, sub_int, a2]))))
  · exact (sIf_no rfl (sIf_no rfl (sIf_no rfl (sIf_yes rfl (by simp only [e_vVar, e_vRd, e_vC, e_v1, e_v2, e_c1, e_c2, e_l1, e_l2, e_vL, e_vB, e_vArgs0, e_vArgs, e_vTup, e_vCall, e_vIf, e_bTr, e_bNot, e_bAnd, e_bOr, e_bChain, e_iSeq, e_iRange1, e_iRange2, e_vCut, e_vOpt0, e_vOpt, e_sNx, e_sBk, e_sCt, e_sSeq, e_sSet, e_sOwn, e_sPut, e_sFreeze, e_sRet, e_sExpr, e_sIf, e_sApp, e_sPar, e_sFor, runD, slots, so_ok, rb_ok, rb_none, so_none, po_some, List.getElem?_cons_zero, List.getElem?_cons_succ, List.set_cons_zero, List.set_cons_succ, List.map_cons, List.map_nil, List.length_cons, List.length_nil, List.replicate, List.append_nil, List.cons_append, List.nil_append, rb_er, so_er, e_sErr, e_sTry, e_iEnumE, e_sSetIx, e_uX, e_w1, e_w2, e_wc2, e_wl1, e_wl2, e_wL, e_wB, e_wTr, e_wNot, e_wAnd, e_wOr, e_wIf, e_wArgs0, e_wArgs, e_wTup, e_wCall, e_zSet, e_zOwn, e_zPut, e_zRet, e_zRt, e_zExpr, e_zIf, e_zFor, e_sRetL, sb_ok, sb_none, up_ok, up_none, up_po, soS_ok, soS_none, Bool.not_true, Bool.not_false, Bool.false_eq_true, Bool.true_and, Bool.false_and, Bool.and_true, Bool.and_false, Bool.true_or, Bool.false_or, Bool.or_true, Bool.or_false, if_true, if_false, Option.map_some, tr_bool, int_int, add_int, sub_int, a3])))))
  · exact (sIf_no rfl (sIf_no rfl (sIf_no rfl (sIf_no rfl (sIf_yes rfl (by simp only [e_vVar, e_vRd, e_vC, e_v1, e_v2, e_c1, e_c2, e_l1, e_l2, e_vL, e_vB, e_vArgs0, e_vArgs, e_vTup, e_vCall, e_vIf, e_bTr, e_bNot, e_bAnd, e_bOr, e_bChain, e_iSeq, e_iRange1, e_iRange2, e_vCut, e_vOpt0, e_vOpt, e_sNx, e_sBk, e_sCt, e_sSeq, e_sSet, e_sOwn, e_sPut, e_sFreeze, e_sRet, e_sExpr, e_sIf, e_sApp, e_sPar, e_sFor, runD, slots, so_ok, rb_ok, rb_none, so_none, po_some, List.getElem?_cons_zero, List.getElem?_cons_succ, List.set_cons_zero, List.set_cons_succ, List.map_cons, List.map_nil, List.length_cons, List.length_nil, List.replicate, List.append_nil, List.cons_append, List.nil_append, rb_er, so_er, e_sErr, e_sTry, e_iEnumE, e_sSetIx, e_uX, e_w1, e_w2, e_wc2, e_wl1, e_wl2, e_wL, e_wB, e_wTr, e_wNot, e_wAnd, e_wOr, e_wIf, e_wArgs0, e_wArgs, e_wTup, e_wCall, e_zSet, e_zOwn, e_zPut, e_zRet, e_zRt, e_zExpr, e_zIf, e_zFor, e_sRetL, sb_ok, sb_none, up_ok, up_none, up_po, soS_ok, soS_none, Bool.not_true, Bool.not_false, Bool.false_eq_true, Bool.true_and, Bool.false_and, Bool.and_true, Bool.and_false, Bool.true_or, Bool.false_or, Bool.or_true, Bool.or_false, if_true, if_false, Option.map_some, tr_bool, int_int, add_int, sub_int, a4]))))))
  · exact (sIf_no rfl (sIf_no rfl (sIf_no rfl (sIf_no rfl (sIf_no rfl (sIf_yes rfl (by simp only [e_vVar, e_vRd, e_vC, e_v1, e_v2, e_c1, e_c2, e_l1, e_l2, e_vL, e_vB, e_vArgs0, e_vArgs, e_vTup, e_vCall, e_vIf, e_bTr, e_bNot, e_bAnd, e_bOr, e_bChain, e_iSeq, e_iRange1, e_iRange2, e_vCut, e_vOpt0, e_vOpt, e_sNx, e_sBk, e_sCt, e_sSeq, e_sSet, e_sOwn, e_sPut, e_sFreeze, e_sRet, e_sExpr, e_sIf, e_sApp, e_sPar, e_sFor, runD, slots, so_ok, rb_ok, rb_none, so_none, po_some, List.getElem?_cons_zero, List.getElem?_cons_succ, List.set_cons_zero, List.set_cons_succ, List.map_cons, List.map_nil, List.length_cons, List.length_nil, List.replicate, List.append_nil, List.cons_append, List.nil_append, rb_er, so_er, e_sErr, e_sTry, e_iEnumE, e_sSetIx, e_uX, e_w1, e_w2, e_wc2, e_wl1, e_wl2, e_wL, e_wB, e_wTr, e_wNot, e_wAnd, e_wOr, e_wIf, e_wArgs0, e_wArgs, e_wTup, e_wCall, e_zSet, e_zOwn, e_zPut, e_zRet, e_zRt, e_zExpr, e_zIf, e_zFor, e_sRetL, sb_ok, sb_none, up_ok, up_none, up_po, soS_ok, soS_none, Bool.not_true, Bool.not_false, Bool.false_eq_true, Bool.true_and, Bool.false_and, Bool.and_true, Bool.and_false, Bool.true_or, Bool.false_or, Bool.or_true, Bool.or_false, if_true, if_false, Option.map_some, tr_bool, int_int, add_int, sub_int, a5])))))))
  · exact (sIf_no rfl (sIf_no rfl (sIf_no rfl (sIf_no rfl (sIf_no rfl (sIf_no rfl (sIf_yes rfl (by simp only [e_vVar, e_vRd, e_vC, e_v1, e_v2, e_c1, e_c2, e_l1, e_l2, e_vL, e_vB, e_vArgs0, e_vArgs, e_vTup, e_vCall, e_vIf, e_bTr, e_bNot, e_bAnd, e_bOr, e_bChain, e_iSeq, e_iRange1, e_iRange2, e_vCut, e_vOpt0, e_vOpt, e_sNx, e_sBk, e_sCt, e_sSeq, e_sSet, e_sOwn, e_sPut, e_sFreeze, e_sRet, e_sExpr, e_sIf, e_sApp, e_sPar, e_sFor, runD, slots, so_ok, rb_ok, rb_none, so_none, po_some, List.getElem?_cons_zero, List.getElem?_cons_succ, List.set_cons_zero, List.set_cons_succ, List.map_cons, List.map_nil, List.length_cons, List.length_nil, List.replicate, List.append_nil, List.cons_append, List.nil_append, rb_er, so_er, e_sErr, e_sTry, e_iEnumE, e_sSetIx, e_uX, e_w1, e_w2, e_wc2, e_wl1, e_wl2, e_wL, e_wB, e_wTr, e_wNot, e_wAnd, e_wOr, e_wIf, e_wArgs0, e_wArgs, e_wTup, e_wCall, e_zSet, e_zOwn, e_zPut, e_zRet, e_zRt, e_zExpr, e_zIf, e_zFor, e_sRetL, sb_ok, sb_none, up_ok, up_none, up_po, soS_ok, soS_none, Bool.not_true, Bool.not_false, Bool.false_eq_true, Bool.true_and, Bool.false_and, Bool.and_true, Bool.and_false, Bool.true_or, Bool.false_or, Bool.or_true, Bool.or_false, if_true, if_false, Option.map_some, tr_bool, int_int, add_int, sub_int, a6]))))))))
  · exact (sIf_no rfl (sIf_no rfl (sIf_no rfl (sIf_no rfl (sIf_no rfl (sIf_no rfl (sIf_no rfl (by simp only [e_vVar, e_vRd, e_vC, e_v1, e_v2, e_c1, e_c2, e_l1, e_l2, e_vL, e_vB, e_vArgs0, e_vArgs, e_vTup, e_vCall, e_vIf, e_bTr, e_bNot, e_bAnd, e_bOr, e_bChain, e_iSeq, e_iRange1, e_iRange2, e_vCut, e_vOpt0, e_vOpt, e_sNx, e_sBk, e_sCt, e_sSeq, e_sSet, e_sOwn, e_sPut, e_sFreeze, e_sRet, e_sExpr, e_sIf, e_sApp, e_sPar, e_sFor, runD, slots, so_ok, rb_ok, rb_none, so_none, po_some, List.getElem?_cons_zero, List.getElem?_cons_succ, List.set_cons_zero, List.set_cons_succ, List.map_cons, List.map_nil, List.length_cons, List.length_nil, List.replicate, List.append_nil, List.cons_append, List.nil_append, rb_er, so_er, e_sErr, e_sTry, e_iEnumE, e_sSetIx, e_uX, e_w1, e_w2, e_wc2, e_wl1, e_wl2, e_wL, e_wB, e_wTr, e_wNot, e_wAnd, e_wOr, e_wIf, e_wArgs0, e_wArgs, e_wTup, e_wCall, e_zSet, e_zOwn, e_zPut, e_zRet, e_zRt, e_zExpr, e_zIf, e_zFor, e_sRetL, sb_ok, sb_none, up_ok, up_none, up_po, soS_ok, soS_none, Bool.not_true, Bool.not_false, Bool.false_eq_true, Bool.true_and, Bool.false_and, Bool.and_true, Bool.and_false, Bool.true_or, Bool.false_or, Bool.or_true, Bool.or_false, if_true, if_false, Option.map_some, tr_bool, int_int, add_int, sub_int, a7]))))))))
end
theorem e_vIsE {tab : List ((String × String) × Bool)} {i : Nat} {T : String} {r : DL.Env} : vIsE tab i T r = (match r[i]? with
  | some (.ex c _) => (match tab.lookup (c, T) with
    | some b => ok (.bool b)
    | none => none)
  | _ => none) := (rfl)
theorem e_vIsEs {tab : List ((String × String) × Bool)} {i : Nat} {Ts : List String} {r : DL.Env} : vIsEs tab i Ts r = (match r[i]? with
  | some (.ex c _) => (match anyTab tab c Ts with
    | some b => ok (.bool b)
    | none => none)
  | _ => none) := (rfl)
theorem tryS_e {tab : List ((String × String) × Bool)} {a : SX} {hs : List (String × Nat × SX)} {r r1 : DL.Env} {e : Err} (h : a r = some (.er e r1)) : sTryES tab a hs r = pickS tab e r1 hs := by
  unfold sTryES
  rw [h]
theorem pickS_yes {tab : List ((String × String) × Bool)} {e : Err} {c : String} {i : Nat} {b : SX} {hs : List (String × Nat × SX)} {r r2 : DL.Env} (h : tab.lookup (e.cls, c) = some true) (hi : i < r.length) (hb : b (r.set i (.ex e.cls e.fld)) = some (.nx r2)) : pickS tab e r ((c, i, b) :: hs) = some (.nx (r2.set i .un)) := by
  unfold pickS
  rw [h]
  dsimp only
  rw [if_pos hi, hb]
  rfl
theorem refused_ {b : D} (hb : f_check_book [b] = er ⟨"BadBook", none⟩) {n : Nat} (hg : f_check_book [.tuple [nd n, .tuple []]] = ok .none) (n1 : 1 ≤ n) (n4 : n ≤ 4) {k : Nat} (hk : k < 18) : f_law_refused [nd k, b, .tuple [nd n, .tuple []]] = ok (.bool true) := by
  have lk : tabl.lookup ("BadBook", "BadBook") = some true := by decide +kernel
  have t1 : tabi.lookup ("BadBook", "RestError") = some true := by decide +kernel
  have t2 : tabi.lookup ("BadBook", "ValueError") = some true := by decide +kernel
  have t3 : tabi.lookup ("BadBook", "BadState") = some false := by decide +kernel
  have t4 : anyTab tabi "BadBook" ["NoEnd", "NoOneRest", "BadTree", "BadReader"] = some false := by decide +kernel
  have is_ : cIs (.bool true) (.bool true) = some true := by decide +kernel
  have f := fun h => first_ hb hg n1 n4 (k := k) h
  have l := fun h => later_ hb hg (k := k) h hk
  generalize PyData.tuple [nd n, .tuple []] = g at f l
  suffices h : b_law_refused (slots 6 [nd k, b, g]) = some (.rt (.bool true)) by
    simp only [f_law_refused, runD, h, List.length_cons, List.length_nil, if_true]
  have z : slots 6 [nd k, b, g] = [.d (nd k), .d b, .d g, .un, .un, .un] := rfl
  rw [b_law_refused, z]
  refine seq_nx (r1 := [.d (nd k), .d b, .d g, .d .none, .un, .un]) (by simp only [e_vVar, e_vRd, e_vC, e_v1, e_v2, e_c1, e_c2, e_l1, e_l2, e_vL, e_vB, e_vArgs0, e_vArgs, e_vTup, e_vCall, e_vIf, e_bTr, e_bNot, e_bAnd, e_bOr, e_bChain, e_iSeq, e_iRange1, e_iRange2, e_vCut, e_vOpt0, e_vOpt, e_sNx, e_sBk, e_sCt, e_sSeq, e_sSet, e_sOwn, e_sPut, e_sFreeze, e_sRet, e_sExpr, e_sIf, e_sApp, e_sPar, e_sFor, runD, slots, so_ok, rb_ok, rb_none, so_none, po_some, List.getElem?_cons_zero, List.getElem?_cons_succ, List.set_cons_zero, List.set_cons_succ, List.map_cons, List.map_nil, List.length_cons, List.length_nil, List.replicate, List.append_nil, List.cons_append, List.nil_append, rb_er, so_er, e_sErr, e_sTry, e_iEnumE, e_sSetIx, e_uX, e_w1, e_w2, e_wc2, e_wl1, e_wl2, e_wL, e_wB, e_wTr, e_wNot, e_wAnd, e_wOr, e_wIf, e_wArgs0, e_wArgs, e_wTup, e_wCall, e_zSet, e_zOwn, e_zPut, e_zRet, e_zRt, e_zExpr, e_zIf, e_zFor, e_sRetL, sb_ok, sb_none, up_ok, up_none, up_po, soS_ok, soS_none, Bool.not_true, Bool.not_false, Bool.false_eq_true, Bool.true_and, Bool.false_and, Bool.and_true, Bool.and_false, Bool.true_or, Bool.false_or, Bool.or_true, Bool.or_false, if_true, if_false, Option.map_some, tr_bool, int_int, add_int, sub_int]) ?_
  refine seq_nx (r1 := [.d (nd k), .d b, .d g, .d (.bool true), .un, .d (.bool true)]) ?_ ?_
  · refine (tryS_e (r1 := [.d (nd k), .d b, .d g, .d .none, .un, .un]) (e := ⟨"BadBook", none⟩) ?_).trans ?_
    · by_cases c : k < 10
      · have lt : ((k : Nat) : Int) < 10 := by omega
        have f := f c
        simp only [e_vVar, e_vRd, e_vC, e_v1, e_v2, e_c1, e_c2, e_l1, e_l2, e_vL, e_vB, e_vArgs0, e_vArgs, e_vTup, e_vCall, e_vIf, e_bTr, e_bNot, e_bAnd, e_bOr, e_bChain, e_iSeq, e_iRange1, e_iRange2, e_vCut, e_vOpt0, e_vOpt, e_sNx, e_sBk, e_sCt, e_sSeq, e_sSet, e_sOwn, e_sPut, e_sFreeze, e_sRet, e_sExpr, e_sIf, e_sApp, e_sPar, e_sFor, runD, slots, so_ok, rb_ok, rb_none, so_none, po_some, List.getElem?_cons_zero, List.getElem?_cons_succ, List.set_cons_zero, List.set_cons_succ, List.map_cons, List.map_nil, List.length_cons, List.length_nil, List.replicate, List.append_nil, List.cons_append, List.nil_append, rb_er, so_er, e_sErr, e_sTry, e_iEnumE, e_sSetIx, e_uX, e_w1, e_w2, e_wc2, e_wl1, e_wl2, e_wL, e_wB, e_wTr, e_wNot, e_wAnd, e_wOr, e_wIf, e_wArgs0, e_wArgs, e_wTup, e_wCall, e_zSet, e_zOwn, e_zPut, e_zRet, e_zRt, e_zExpr, e_zIf, e_zFor, e_sRetL, sb_ok, sb_none, up_ok, up_none, up_po, soS_ok, soS_none, Bool.not_true, Bool.not_false, Bool.false_eq_true, Bool.true_and, Bool.false_and, Bool.and_true, Bool.and_false, Bool.true_or, Bool.false_or, Bool.or_true, Bool.or_false, if_true, if_false, Option.map_some, tr_bool, int_int, add_int, sub_int, lt_int, lt, decide_true, f]
      · have lt : ¬ ((k : Nat) : Int) < 10 := by omega
        have l := l (by omega)
        simp only [e_vVar, e_vRd, e_vC, e_v1, e_v2, e_c1, e_c2, e_l1, e_l2, e_vL, e_vB, e_vArgs0, e_vArgs, e_vTup, e_vCall, e_vIf, e_bTr, e_bNot, e_bAnd, e_bOr, e_bChain, e_iSeq, e_iRange1, e_iRange2, e_vCut, e_vOpt0, e_vOpt, e_sNx, e_sBk, e_sCt, e_sSeq, e_sSet, e_sOwn, e_sPut, e_sFreeze, e_sRet, e_sExpr, e_sIf, e_sApp, e_sPar, e_sFor, runD, slots, so_ok, rb_ok, rb_none, so_none, po_some, List.getElem?_cons_zero, List.getElem?_cons_succ, List.set_cons_zero, List.set_cons_succ, List.map_cons, List.map_nil, List.length_cons, List.length_nil, List.replicate, List.append_nil, List.cons_append, List.nil_append, rb_er, so_er, e_sErr, e_sTry, e_iEnumE, e_sSetIx, e_uX, e_w1, e_w2, e_wc2, e_wl1, e_wl2, e_wL, e_wB, e_wTr, e_wNot, e_wAnd, e_wOr, e_wIf, e_wArgs0, e_wArgs, e_wTup, e_wCall, e_zSet, e_zOwn, e_zPut, e_zRet, e_zRt, e_zExpr, e_zIf, e_zFor, e_sRetL, sb_ok, sb_none, up_ok, up_none, up_po, soS_ok, soS_none, Bool.not_true, Bool.not_false, Bool.false_eq_true, Bool.true_and, Bool.false_and, Bool.and_true, Bool.and_false, Bool.true_or, Bool.false_or, Bool.or_true, Bool.or_false, if_true, if_false, Option.map_some, tr_bool, int_int, add_int, sub_int, lt_int, lt, decide_false, l]
    · exact pickS_yes lk (show 4 < 6 by decide) (r2 := [.d (nd k), .d b, .d g, .d (.bool true), .ex "BadBook" none, .d (.bool true)]) (by
        show sSeq _ _ [.d (nd k), .d b, .d g, .d .none, .ex "BadBook" none, .un] = _
        simp only [e_vVar, e_vRd, e_vC, e_v1, e_v2, e_c1, e_c2, e_l1, e_l2, e_vL, e_vB, e_vArgs0, e_vArgs, e_vTup, e_vCall, e_vIf, e_bTr, e_bNot, e_bAnd, e_bOr, e_bChain, e_iSeq, e_iRange1, e_iRange2, e_vCut, e_vOpt0, e_vOpt, e_sNx, e_sBk, e_sCt, e_sSeq, e_sSet, e_sOwn, e_sPut, e_sFreeze, e_sRet, e_sExpr, e_sIf, e_sApp, e_sPar, e_sFor, runD, slots, so_ok, rb_ok, rb_none, so_none, po_some, List.getElem?_cons_zero, List.getElem?_cons_succ, List.set_cons_zero, List.set_cons_succ, List.map_cons, List.map_nil, List.length_cons, List.length_nil, List.replicate, List.append_nil, List.cons_append, List.nil_append, rb_er, so_er, e_sErr, e_sTry, e_iEnumE, e_sSetIx, e_uX, e_w1, e_w2, e_wc2, e_wl1, e_wl2, e_wL, e_wB, e_wTr, e_wNot, e_wAnd, e_wOr, e_wIf, e_wArgs0, e_wArgs, e_wTup, e_wCall, e_zSet, e_zOwn, e_zPut, e_zRet, e_zRt, e_zExpr, e_zIf, e_zFor, e_sRetL, sb_ok, sb_none, up_ok, up_none, up_po, soS_ok, soS_none, Bool.not_true, Bool.not_false, Bool.false_eq_true, Bool.true_and, Bool.false_and, Bool.and_true, Bool.and_false, Bool.true_or, Bool.false_or, Bool.or_true, Bool.or_false, if_true, if_false, Option.map_some, tr_bool, int_int, add_int, sub_int, e_vIsE, e_vIsEs, t1, t2, t3, t4])
  · simp only [e_vVar, e_vRd, e_vC, e_v1, e_v2, e_c1, e_c2, e_l1, e_l2, e_vL, e_vB, e_vArgs0, e_vArgs, e_vTup, e_vCall, e_vIf, e_bTr, e_bNot, e_bAnd, e_bOr, e_bChain, e_iSeq, e_iRange1, e_iRange2, e_vCut, e_vOpt0, e_vOpt, e_sNx, e_sBk, e_sCt, e_sSeq, e_sSet, e_sOwn, e_sPut, e_sFreeze, e_sRet, e_sExpr, e_sIf, e_sApp, e_sPar, e_sFor, runD, slots, so_ok, rb_ok, rb_none, so_none, po_some, List.getElem?_cons_zero, List.getElem?_cons_succ, List.set_cons_zero, List.set_cons_succ, List.map_cons, List.map_nil, List.length_cons, List.length_nil, List.replicate, List.append_nil, List.cons_append, List.nil_append, rb_er, so_er, e_sErr, e_sTry, e_iEnumE, e_sSetIx, e_uX, e_w1, e_w2, e_wc2, e_wl1, e_wl2, e_wL, e_wB, e_wTr, e_wNot, e_wAnd, e_wOr, e_wIf, e_wArgs0, e_wArgs, e_wTup, e_wCall, e_zSet, e_zOwn, e_zPut, e_zRet, e_zRt, e_zExpr, e_zIf, e_zFor, e_sRetL, sb_ok, sb_none, up_ok, up_none, up_po, soS_ok, soS_none, Bool.not_true, Bool.not_false, Bool.false_eq_true, Bool.true_and, Bool.false_and, Bool.and_true, Bool.and_false, Bool.true_or, Bool.false_or, Bool.or_true, Bool.or_false, if_true, if_false, Option.map_some, tr_bool, int_int, add_int, sub_int, is_]
theorem law_true (ns : List Int) (hns : ns.length ≤ 63) : f_law [.list (ns.map PyData.int)] = ok (.bool true) := by
  have LIM := big
  obtain ⟨v, hv⟩ := deck_ ns 0 (by decide)
  have hv' : f_law_deck [nums ns, .int 0] = ok [.int v] := hv
  show f_law [nums ns] = _
  have m24 := mod_in v (show (0 : Int) < 24 by decide)
  obtain ⟨sp, esp⟩ : ∃ j : Nat, v % 24 = j := ⟨(v % 24).toNat, by omega⟩
  have m3 := mod_in (v / 24) (show (0 : Int) < 3 by decide)
  obtain ⟨n, en⟩ : ∃ j : Nat, 2 + v / 24 % 3 = j := ⟨(2 + v / 24 % 3).toNat, by omega⟩
  have m7 := mod_in (v / 24 / 3) (show (0 : Int) < 7 by decide)
  obtain ⟨c, ec⟩ : ∃ j : Nat, 1 + v / 24 / 3 % 7 = j := ⟨(1 + v / 24 / 3 % 7).toNat, by omega⟩
  have n2 : 2 ≤ n := by omega
  have n4 : n ≤ 4 := by omega
  obtain ⟨rs, w, RB_, rne, fr⟩ := free_x (n := (n : Nat)) (by omega) (by omega) (v / 24 / 3 / 7) (RB.nil _) c (by omega)
  obtain ⟨R, rfl, ok_⟩ := rules_nat RB_.ok
  have bk : Bk (.tuple [nd n, .tuple (R.map eR)]) (n : Nat) (R.map eR) := ⟨rfl, by omega, by omega, RB_.len, RB_.ok, RB_.once⟩
  have B : Bo n R := ⟨by omega, n4, by have := RB_.len; rw [List.length_map] at this; exact this, ok_, bk.is⟩
  have hR : R ≠ [] := fun e => rne (by omega) (by rw [e]; rfl)
  obtain ⟨bad, w2, hbad, eb⟩ := bad_ B n2 hR w (k := sp) (by omega)
  have hb : f_check_book [bad] = er ⟨"BadBook", none⟩ := by rw [check_book_, hbad]; rfl
  have hg : f_check_book [.tuple [nd n, .tuple []]] = ok .none := by
    have bk0 : Bk (.tuple [nd n, .tuple []]) (n : Nat) [] := ⟨rfl, by omega, by omega, by decide, rfl, rfl⟩
    rw [check_book_, bk0.is]; rfl
  have m18 := mod_in w2 (show (0 : Int) < 18 by decide)
  obtain ⟨st, est⟩ : ∃ j : Nat, w2 % 18 = j := ⟨(w2 % 18).toNat, by omega⟩
  have rf := fun {k : Nat} (hk : k < 18) => refused_ hb hg (by omega) n4 hk
  have hr18 : rng1 (.int 18) = some (rng 0 18) := rng1_nat (n := 18) (by decide)
  have eg : ∃ g, g = PyData.tuple [nd n, .tuple []] := ⟨_, rfl⟩
  obtain ⟨g, eg⟩ := eg
  rw [← eg] at rf
  have cf := callI_of (g := f_law_free) (r := [.d (nums ns), .own [.int (v / 24 / 3 / 7)], .d (nd sp), .d (nd n), .own [], .un, .un, .un, .un]) (bs := [.io 1, .d (nd n), .io 4, .d (nd c)]) (fun ad => [.io (ad 1) [.int (v / 24 / 3 / 7)], .d (nd n), .io (ad 4) [], .d (nd c)]) (fun ad => by simp [mkS, e_ioXs]) (fun ad => fr _ _) rfl
  have cb := callI_of (g := f_law_bad) (r := [.d (nums ns), .own [.int w], .d (nd sp), .d (nd n), .own (R.map eR), .un, .un, .un, .un]) (bs := [.io 1, .d (eB n R), .d (nd sp)]) (fun ad => [.io (ad 1) [.int w], .d (eB n R), .d (nd sp)]) (fun ad => by simp [mkS, e_ioXs]) (fun ad => eb _) rfl
  obtain ⟨t8, _, k8⟩ := loopS (g := .one 8) (b := (sIf (bNot (bTr (vCall f_law_refused [(v2 dMod (v1 dInt (v2 dAdd (vVar 7) (v2 dMul (vC (.int 5)) (vVar 8)))) (vC (.int 18))), (vVar 5), (vVar 6)]))) (sRet (vC (.bool false))) sNx)) (fun (_ : Unit) (s : DL.Slot) => [.d (nums ns), .own [.int (w2 / 18)], .d (nd sp), .d (nd n), .own (R.map eR), .d bad, .d g, .d (nd st), s]) (fun _ _ => True) (rng 0 18) 0 .un trivial (by
    rintro j s z hz -
    have hj := (List.getElem?_eq_some_iff.mp hz).1
    rw [rng_size] at hj
    rw [rng_at 0 _ j hj] at hz
    cases hz
    refine ⟨.d (nd j), trivial, fun _ => ⟨_, rfl, .inl ?_⟩⟩
    rw [show (0 : Int) + (j : Nat) = (j : Nat) by omega]
    have ml : dMul (.int 5) (nd j) = some (.int (5 * ((j : Nat) : Int))) := mulL _ _ (by decide)
    have mo := mod_int (((st : Nat) : Int) + 5 * ((j : Nat) : Int)) 18 (by decide)
    have hm := mod_in (((st : Nat) : Int) + 5 * ((j : Nat) : Int)) (show (0 : Int) < 18 by decide)
    obtain ⟨k, ek⟩ : ∃ k : Nat, (((st : Nat) : Int) + 5 * ((j : Nat) : Int)) % 18 = k := ⟨((((st : Nat) : Int) + 5 * ((j : Nat) : Int)) % 18).toNat, by omega⟩
    rw [ek] at mo
    have r := rf (k := k) (by omega)
    simp only [e_vVar, e_vRd, e_vC, e_v1, e_v2, e_c1, e_c2, e_l1, e_l2, e_vL, e_vB, e_vArgs0, e_vArgs, e_vTup, e_vCall, e_vIf, e_bTr, e_bNot, e_bAnd, e_bOr, e_bChain, e_iSeq, e_iRange1, e_iRange2, e_vCut, e_vOpt0, e_vOpt, e_sNx, e_sBk, e_sCt, e_sSeq, e_sSet, e_sOwn, e_sPut, e_sFreeze, e_sRet, e_sExpr, e_sIf, e_sApp, e_sPar, e_sFor, runD, slots, so_ok, rb_ok, rb_none, so_none, po_some, List.getElem?_cons_zero, List.getElem?_cons_succ, List.set_cons_zero, List.set_cons_succ, List.map_cons, List.map_nil, List.length_cons, List.length_nil, List.replicate, List.append_nil, List.cons_append, List.nil_append, rb_er, so_er, e_sErr, e_sTry, e_iEnumE, e_sSetIx, e_uX, e_w1, e_w2, e_wc2, e_wl1, e_wl2, e_wL, e_wB, e_wTr, e_wNot, e_wAnd, e_wOr, e_wIf, e_wArgs0, e_wArgs, e_wTup, e_wCall, e_zSet, e_zOwn, e_zPut, e_zRet, e_zRt, e_zExpr, e_zIf, e_zFor, e_sRetL, sb_ok, sb_none, up_ok, up_none, up_po, soS_ok, soS_none, Bool.not_true, Bool.not_false, Bool.false_eq_true, Bool.true_and, Bool.false_and, Bool.and_true, Bool.and_false, Bool.true_or, Bool.false_or, Bool.or_true, Bool.or_false, if_true, if_false, Option.map_some, tr_bool, int_int, add_int, sub_int, ml, mo, r])
  have p24 := fun rr => pick1o (r := rr) (s := .d (nums ns)) (v := v) (show (0 : Int) < 24 by decide) (by decide)
  have p3 := fun rr => pick1o (r := rr) (s := .d (nums ns)) (v := v / 24) (show (0 : Int) < 3 by decide) (by decide)
  have p7 := fun rr => pick1o (r := rr) (s := .d (nums ns)) (v := v / 24 / 3) (show (0 : Int) < 7 by decide) (by decide)
  have p18 := fun rr => pick1o (r := rr) (s := .d (nums ns)) (v := w2) (show (0 : Int) < 18 by decide) (by decide)
  rw [esp] at p24
  rw [est] at p18
  suffices h : b_law (slots 9 [nums ns]) = some (.rt (.bool true)) by
    simp only [f_law, runD, h, List.length_cons, List.length_nil, if_true]
  have es : slots 9 [nums ns] = [.d (nums ns), .un, .un, .un, .un, .un, .un, .un, .un] := rfl
  have tl : dTup (.list (R.map eR)) = some (.tuple (R.map eR)) := rfl
  rw [b_law, es]
  refine seq_nx (r1 := [.d (nums ns), .own [.int v], .un, .un, .un, .un, .un, .un, .un]) (by simp only [e_vVar, e_vRd, e_vC, e_v1, e_v2, e_c1, e_c2, e_l1, e_l2, e_vL, e_vB, e_vArgs0, e_vArgs, e_vTup, e_vCall, e_vIf, e_bTr, e_bNot, e_bAnd, e_bOr, e_bChain, e_iSeq, e_iRange1, e_iRange2, e_vCut, e_vOpt0, e_vOpt, e_sNx, e_sBk, e_sCt, e_sSeq, e_sSet, e_sOwn, e_sPut, e_sFreeze, e_sRet, e_sExpr, e_sIf, e_sApp, e_sPar, e_sFor, runD, slots, so_ok, rb_ok, rb_none, so_none, po_some, List.getElem?_cons_zero, List.getElem?_cons_succ, List.set_cons_zero, List.set_cons_succ, List.map_cons, List.map_nil, List.length_cons, List.length_nil, List.replicate, List.append_nil, List.cons_append, List.nil_append, rb_er, so_er, e_sErr, e_sTry, e_iEnumE, e_sSetIx, e_uX, e_w1, e_w2, e_wc2, e_wl1, e_wl2, e_wL, e_wB, e_wTr, e_wNot, e_wAnd, e_wOr, e_wIf, e_wArgs0, e_wArgs, e_wTup, e_wCall, e_zSet, e_zOwn, e_zPut, e_zRet, e_zRt, e_zExpr, e_zIf, e_zFor, e_sRetL, sb_ok, sb_none, up_ok, up_none, up_po, soS_ok, soS_none, Bool.not_true, Bool.not_false, Bool.false_eq_true, Bool.true_and, Bool.false_and, Bool.and_true, Bool.and_false, Bool.true_or, Bool.false_or, Bool.or_true, Bool.or_false, if_true, if_false, Option.map_some, tr_bool, int_int, add_int, sub_int, lCall_e, hv']) ?_
  refine seq_nx (r1 := [.d (nums ns), .own [.int (v / 24)], .d (nd sp), .un, .un, .un, .un, .un, .un]) (by simp only [e_vVar, e_vRd, e_vC, e_v1, e_v2, e_c1, e_c2, e_l1, e_l2, e_vL, e_vB, e_vArgs0, e_vArgs, e_vTup, e_vCall, e_vIf, e_bTr, e_bNot, e_bAnd, e_bOr, e_bChain, e_iSeq, e_iRange1, e_iRange2, e_vCut, e_vOpt0, e_vOpt, e_sNx, e_sBk, e_sCt, e_sSeq, e_sSet, e_sOwn, e_sPut, e_sFreeze, e_sRet, e_sExpr, e_sIf, e_sApp, e_sPar, e_sFor, runD, slots, so_ok, rb_ok, rb_none, so_none, po_some, List.getElem?_cons_zero, List.getElem?_cons_succ, List.set_cons_zero, List.set_cons_succ, List.map_cons, List.map_nil, List.length_cons, List.length_nil, List.replicate, List.append_nil, List.cons_append, List.nil_append, rb_er, so_er, e_sErr, e_sTry, e_iEnumE, e_sSetIx, e_uX, e_w1, e_w2, e_wc2, e_wl1, e_wl2, e_wL, e_wB, e_wTr, e_wNot, e_wAnd, e_wOr, e_wIf, e_wArgs0, e_wArgs, e_wTup, e_wCall, e_zSet, e_zOwn, e_zPut, e_zRet, e_zRt, e_zExpr, e_zIf, e_zFor, e_sRetL, sb_ok, sb_none, up_ok, up_none, up_po, soS_ok, soS_none, Bool.not_true, Bool.not_false, Bool.false_eq_true, Bool.true_and, Bool.false_and, Bool.and_true, Bool.and_false, Bool.true_or, Bool.false_or, Bool.or_true, Bool.or_false, if_true, if_false, Option.map_some, tr_bool, int_int, add_int, sub_int, e_wCallI, e_wCallN, e_wArgI0, e_wArgIx, e_wArgIo, e_ioXs, e_ioSet, resl_own, resl_io, e_zApp, lCall_e, p24, sb_some, soS_some]) ?_
  refine seq_nx (r1 := [.d (nums ns), .own [.int (v / 24 / 3)], .d (nd sp), .d (nd n), .un, .un, .un, .un, .un]) (by simp only [e_vVar, e_vRd, e_vC, e_v1, e_v2, e_c1, e_c2, e_l1, e_l2, e_vL, e_vB, e_vArgs0, e_vArgs, e_vTup, e_vCall, e_vIf, e_bTr, e_bNot, e_bAnd, e_bOr, e_bChain, e_iSeq, e_iRange1, e_iRange2, e_vCut, e_vOpt0, e_vOpt, e_sNx, e_sBk, e_sCt, e_sSeq, e_sSet, e_sOwn, e_sPut, e_sFreeze, e_sRet, e_sExpr, e_sIf, e_sApp, e_sPar, e_sFor, runD, slots, so_ok, rb_ok, rb_none, so_none, po_some, List.getElem?_cons_zero, List.getElem?_cons_succ, List.set_cons_zero, List.set_cons_succ, List.map_cons, List.map_nil, List.length_cons, List.length_nil, List.replicate, List.append_nil, List.cons_append, List.nil_append, rb_er, so_er, e_sErr, e_sTry, e_iEnumE, e_sSetIx, e_uX, e_w1, e_w2, e_wc2, e_wl1, e_wl2, e_wL, e_wB, e_wTr, e_wNot, e_wAnd, e_wOr, e_wIf, e_wArgs0, e_wArgs, e_wTup, e_wCall, e_zSet, e_zOwn, e_zPut, e_zRet, e_zRt, e_zExpr, e_zIf, e_zFor, e_sRetL, sb_ok, sb_none, up_ok, up_none, up_po, soS_ok, soS_none, Bool.not_true, Bool.not_false, Bool.false_eq_true, Bool.true_and, Bool.false_and, Bool.and_true, Bool.and_false, Bool.true_or, Bool.false_or, Bool.or_true, Bool.or_false, if_true, if_false, Option.map_some, tr_bool, int_int, add_int, sub_int, e_wCallI, e_wCallN, e_wArgI0, e_wArgIx, e_wArgIo, e_ioXs, e_ioSet, resl_own, resl_io, e_zApp, lCall_e, p3, sb_some, soS_some, en]) ?_
  refine seq_nx (r1 := [.d (nums ns), .own [.int (v / 24 / 3)], .d (nd sp), .d (nd n), .own [], .un, .un, .un, .un]) (by simp only [e_vVar, e_vRd, e_vC, e_v1, e_v2, e_c1, e_c2, e_l1, e_l2, e_vL, e_vB, e_vArgs0, e_vArgs, e_vTup, e_vCall, e_vIf, e_bTr, e_bNot, e_bAnd, e_bOr, e_bChain, e_iSeq, e_iRange1, e_iRange2, e_vCut, e_vOpt0, e_vOpt, e_sNx, e_sBk, e_sCt, e_sSeq, e_sSet, e_sOwn, e_sPut, e_sFreeze, e_sRet, e_sExpr, e_sIf, e_sApp, e_sPar, e_sFor, runD, slots, so_ok, rb_ok, rb_none, so_none, po_some, List.getElem?_cons_zero, List.getElem?_cons_succ, List.set_cons_zero, List.set_cons_succ, List.map_cons, List.map_nil, List.length_cons, List.length_nil, List.replicate, List.append_nil, List.cons_append, List.nil_append, rb_er, so_er, e_sErr, e_sTry, e_iEnumE, e_sSetIx, e_uX, e_w1, e_w2, e_wc2, e_wl1, e_wl2, e_wL, e_wB, e_wTr, e_wNot, e_wAnd, e_wOr, e_wIf, e_wArgs0, e_wArgs, e_wTup, e_wCall, e_zSet, e_zOwn, e_zPut, e_zRet, e_zRt, e_zExpr, e_zIf, e_zFor, e_sRetL, sb_ok, sb_none, up_ok, up_none, up_po, soS_ok, soS_none, Bool.not_true, Bool.not_false, Bool.false_eq_true, Bool.true_and, Bool.false_and, Bool.and_true, Bool.and_false, Bool.true_or, Bool.false_or, Bool.or_true, Bool.or_false, if_true, if_false, Option.map_some, tr_bool, int_int, add_int, sub_int]) ?_
  refine seq_nx (r1 := [.d (nums ns), .own [.int w], .d (nd sp), .d (nd n), .own (R.map eR), .un, .un, .un, .un]) (by simp only [e_vVar, e_vRd, e_vC, e_v1, e_v2, e_c1, e_c2, e_l1, e_l2, e_vL, e_vB, e_vArgs0, e_vArgs, e_vTup, e_vCall, e_vIf, e_bTr, e_bNot, e_bAnd, e_bOr, e_bChain, e_iSeq, e_iRange1, e_iRange2, e_vCut, e_vOpt0, e_vOpt, e_sNx, e_sBk, e_sCt, e_sSeq, e_sSet, e_sOwn, e_sPut, e_sFreeze, e_sRet, e_sExpr, e_sIf, e_sApp, e_sPar, e_sFor, runD, slots, so_ok, rb_ok, rb_none, so_none, po_some, List.getElem?_cons_zero, List.getElem?_cons_succ, List.set_cons_zero, List.set_cons_succ, List.map_cons, List.map_nil, List.length_cons, List.length_nil, List.replicate, List.append_nil, List.cons_append, List.nil_append, rb_er, so_er, e_sErr, e_sTry, e_iEnumE, e_sSetIx, e_uX, e_w1, e_w2, e_wc2, e_wl1, e_wl2, e_wL, e_wB, e_wTr, e_wNot, e_wAnd, e_wOr, e_wIf, e_wArgs0, e_wArgs, e_wTup, e_wCall, e_zSet, e_zOwn, e_zPut, e_zRet, e_zRt, e_zExpr, e_zIf, e_zFor, e_sRetL, sb_ok, sb_none, up_ok, up_none, up_po, soS_ok, soS_none, Bool.not_true, Bool.not_false, Bool.false_eq_true, Bool.true_and, Bool.false_and, Bool.and_true, Bool.and_false, Bool.true_or, Bool.false_or, Bool.or_true, Bool.or_false, if_true, if_false, Option.map_some, tr_bool, int_int, add_int, sub_int, e_wCallI, e_wCallN, e_wArgI0, e_wArgIx, e_wArgIo, e_ioXs, e_ioSet, resl_own, resl_io, e_zApp, lCall_e, p7, sb_some, ec, cf, soS_some]) ?_
  refine seq_nx (r1 := [.d (nums ns), .own [.int w2], .d (nd sp), .d (nd n), .own (R.map eR), .d bad, .un, .un, .un]) (by simp only [e_vVar, e_vRd, e_vC, e_v1, e_v2, e_c1, e_c2, e_l1, e_l2, e_vL, e_vB, e_vArgs0, e_vArgs, e_vTup, e_vCall, e_vIf, e_bTr, e_bNot, e_bAnd, e_bOr, e_bChain, e_iSeq, e_iRange1, e_iRange2, e_vCut, e_vOpt0, e_vOpt, e_sNx, e_sBk, e_sCt, e_sSeq, e_sSet, e_sOwn, e_sPut, e_sFreeze, e_sRet, e_sExpr, e_sIf, e_sApp, e_sPar, e_sFor, runD, slots, so_ok, rb_ok, rb_none, so_none, po_some, List.getElem?_cons_zero, List.getElem?_cons_succ, List.set_cons_zero, List.set_cons_succ, List.map_cons, List.map_nil, List.length_cons, List.length_nil, List.replicate, List.append_nil, List.cons_append, List.nil_append, rb_er, so_er, e_sErr, e_sTry, e_iEnumE, e_sSetIx, e_uX, e_w1, e_w2, e_wc2, e_wl1, e_wl2, e_wL, e_wB, e_wTr, e_wNot, e_wAnd, e_wOr, e_wIf, e_wArgs0, e_wArgs, e_wTup, e_wCall, e_zSet, e_zOwn, e_zPut, e_zRet, e_zRt, e_zExpr, e_zIf, e_zFor, e_sRetL, sb_ok, sb_none, up_ok, up_none, up_po, soS_ok, soS_none, Bool.not_true, Bool.not_false, Bool.false_eq_true, Bool.true_and, Bool.false_and, Bool.and_true, Bool.and_false, Bool.true_or, Bool.false_or, Bool.or_true, Bool.or_false, if_true, if_false, Option.map_some, tr_bool, int_int, add_int, sub_int, e_wCallI, e_wCallN, e_wArgI0, e_wArgIx, e_wArgIo, e_ioXs, e_ioSet, resl_own, resl_io, e_zApp, lCall_e, tl, sb_some, cb, soS_some]) ?_
  refine seq_nx (r1 := [.d (nums ns), .own [.int w2], .d (nd sp), .d (nd n), .own (R.map eR), .d bad, .d g, .un, .un]) (by simp only [e_vVar, e_vRd, e_vC, e_v1, e_v2, e_c1, e_c2, e_l1, e_l2, e_vL, e_vB, e_vArgs0, e_vArgs, e_vTup, e_vCall, e_vIf, e_bTr, e_bNot, e_bAnd, e_bOr, e_bChain, e_iSeq, e_iRange1, e_iRange2, e_vCut, e_vOpt0, e_vOpt, e_sNx, e_sBk, e_sCt, e_sSeq, e_sSet, e_sOwn, e_sPut, e_sFreeze, e_sRet, e_sExpr, e_sIf, e_sApp, e_sPar, e_sFor, runD, slots, so_ok, rb_ok, rb_none, so_none, po_some, List.getElem?_cons_zero, List.getElem?_cons_succ, List.set_cons_zero, List.set_cons_succ, List.map_cons, List.map_nil, List.length_cons, List.length_nil, List.replicate, List.append_nil, List.cons_append, List.nil_append, rb_er, so_er, e_sErr, e_sTry, e_iEnumE, e_sSetIx, e_uX, e_w1, e_w2, e_wc2, e_wl1, e_wl2, e_wL, e_wB, e_wTr, e_wNot, e_wAnd, e_wOr, e_wIf, e_wArgs0, e_wArgs, e_wTup, e_wCall, e_zSet, e_zOwn, e_zPut, e_zRet, e_zRt, e_zExpr, e_zIf, e_zFor, e_sRetL, sb_ok, sb_none, up_ok, up_none, up_po, soS_ok, soS_none, Bool.not_true, Bool.not_false, Bool.false_eq_true, Bool.true_and, Bool.false_and, Bool.and_true, Bool.and_false, Bool.true_or, Bool.false_or, Bool.or_true, Bool.or_false, if_true, if_false, Option.map_some, tr_bool, int_int, add_int, sub_int, eg]) ?_
  refine seq_nx (r1 := [.d (nums ns), .own [.int (w2 / 18)], .d (nd sp), .d (nd n), .own (R.map eR), .d bad, .d g, .d (nd st), .un]) (by simp only [e_vVar, e_vRd, e_vC, e_v1, e_v2, e_c1, e_c2, e_l1, e_l2, e_vL, e_vB, e_vArgs0, e_vArgs, e_vTup, e_vCall, e_vIf, e_bTr, e_bNot, e_bAnd, e_bOr, e_bChain, e_iSeq, e_iRange1, e_iRange2, e_vCut, e_vOpt0, e_vOpt, e_sNx, e_sBk, e_sCt, e_sSeq, e_sSet, e_sOwn, e_sPut, e_sFreeze, e_sRet, e_sExpr, e_sIf, e_sApp, e_sPar, e_sFor, runD, slots, so_ok, rb_ok, rb_none, so_none, po_some, List.getElem?_cons_zero, List.getElem?_cons_succ, List.set_cons_zero, List.set_cons_succ, List.map_cons, List.map_nil, List.length_cons, List.length_nil, List.replicate, List.append_nil, List.cons_append, List.nil_append, rb_er, so_er, e_sErr, e_sTry, e_iEnumE, e_sSetIx, e_uX, e_w1, e_w2, e_wc2, e_wl1, e_wl2, e_wL, e_wB, e_wTr, e_wNot, e_wAnd, e_wOr, e_wIf, e_wArgs0, e_wArgs, e_wTup, e_wCall, e_zSet, e_zOwn, e_zPut, e_zRet, e_zRt, e_zExpr, e_zIf, e_zFor, e_sRetL, sb_ok, sb_none, up_ok, up_none, up_po, soS_ok, soS_none, Bool.not_true, Bool.not_false, Bool.false_eq_true, Bool.true_and, Bool.false_and, Bool.and_true, Bool.and_false, Bool.true_or, Bool.false_or, Bool.or_true, Bool.or_false, if_true, if_false, Option.map_some, tr_bool, int_int, add_int, sub_int, e_wCallI, e_wCallN, e_wArgI0, e_wArgIx, e_wArgIo, e_ioXs, e_ioSet, resl_own, resl_io, e_zApp, lCall_e, p18, sb_some, soS_some]) ?_
  refine seq_nx (r1 := [.d (nums ns), .own [.int (w2 / 18)], .d (nd sp), .d (nd n), .own (R.map eR), .d bad, .d g, .d (nd st), t8]) (by rw [e_sFor]; simp only [e_vVar, e_vRd, e_vC, e_v1, e_v2, e_c1, e_c2, e_l1, e_l2, e_vL, e_vB, e_vArgs0, e_vArgs, e_vTup, e_vCall, e_vIf, e_bTr, e_bNot, e_bAnd, e_bOr, e_bChain, e_iSeq, e_iRange1, e_iRange2, e_vCut, e_vOpt0, e_vOpt, e_sNx, e_sBk, e_sCt, e_sSeq, e_sSet, e_sOwn, e_sPut, e_sFreeze, e_sRet, e_sExpr, e_sIf, e_sApp, e_sPar, e_sFor, runD, slots, so_ok, rb_ok, rb_none, so_none, po_some, List.getElem?_cons_zero, List.getElem?_cons_succ, List.set_cons_zero, List.set_cons_succ, List.map_cons, List.map_nil, List.length_cons, List.length_nil, List.replicate, List.append_nil, List.cons_append, List.nil_append, rb_er, so_er, e_sErr, e_sTry, e_iEnumE, e_sSetIx, e_uX, e_w1, e_w2, e_wc2, e_wl1, e_wl2, e_wL, e_wB, e_wTr, e_wNot, e_wAnd, e_wOr, e_wIf, e_wArgs0, e_wArgs, e_wTup, e_wCall, e_zSet, e_zOwn, e_zPut, e_zRet, e_zRt, e_zExpr, e_zIf, e_zFor, e_sRetL, sb_ok, sb_none, up_ok, up_none, up_po, soS_ok, soS_none, Bool.not_true, Bool.not_false, Bool.false_eq_true, Bool.true_and, Bool.false_and, Bool.and_true, Bool.and_false, Bool.true_or, Bool.false_or, Bool.or_true, Bool.or_false, if_true, if_false, Option.map_some, tr_bool, int_int, add_int, sub_int, hr18]; exact k8 ()) ?_
  simp only [e_vVar, e_vRd, e_vC, e_v1, e_v2, e_c1, e_c2, e_l1, e_l2, e_vL, e_vB, e_vArgs0, e_vArgs, e_vTup, e_vCall, e_vIf, e_bTr, e_bNot, e_bAnd, e_bOr, e_bChain, e_iSeq, e_iRange1, e_iRange2, e_vCut, e_vOpt0, e_vOpt, e_sNx, e_sBk, e_sCt, e_sSeq, e_sSet, e_sOwn, e_sPut, e_sFreeze, e_sRet, e_sExpr, e_sIf, e_sApp, e_sPar, e_sFor, runD, slots, so_ok, rb_ok, rb_none, so_none, po_some, List.getElem?_cons_zero, List.getElem?_cons_succ, List.set_cons_zero, List.set_cons_succ, List.map_cons, List.map_nil, List.length_cons, List.length_nil, List.replicate, List.append_nil, List.cons_append, List.nil_append, rb_er, so_er, e_sErr, e_sTry, e_iEnumE, e_sSetIx, e_uX, e_w1, e_w2, e_wc2, e_wl1, e_wl2, e_wL, e_wB, e_wTr, e_wNot, e_wAnd, e_wOr, e_wIf, e_wArgs0, e_wArgs, e_wTup, e_wCall, e_zSet, e_zOwn, e_zPut, e_zRet, e_zRt, e_zExpr, e_zIf, e_zFor, e_sRetL, sb_ok, sb_none, up_ok, up_none, up_po, soS_ok, soS_none, Bool.not_true, Bool.not_false, Bool.false_eq_true, Bool.true_and, Bool.false_and, Bool.and_true, Bool.and_false, Bool.true_or, Bool.false_or, Bool.or_true, Bool.or_false, if_true, if_false, Option.map_some, tr_bool, int_int, add_int, sub_int]
end K38
/-! Each def of the text is the function of Core. Made by wip/tools/gen.py. -/
namespace K38
open PySem PySem.Spec PyProof.Rows L2 DL
def top (i : Nat) : Stmt := PySem.Challenge.pw_onerest_k38_objects_that_are_no_books.main.body.getD i (.Pass ⟨0, 0, 0, 0⟩)
structure Cn (mg : Str → Option Value) : Prop where
  c_MOST_STATES : ∃ t, mg "MOST_STATES" = some (.int (4) t)
  c_MOST_RULES : ∃ t, mg "MOST_RULES" = some (.int (12) t)
  c_MOST_NODES : ∃ t, mg "MOST_NODES" = some (.int (250) t)
  c_NO_PARENT : ∃ t, mg "NO_PARENT" = some (.int (-1) t)
  c_MOST_ROWS : ∃ t, mg "MOST_ROWS" = some (.int (400) t)
  c_MOST_RULES_TO_CHOOSE : ∃ t, mg "MOST_RULES_TO_CHOOSE" = some (.int (7) t)
structure Er (P : Program) (w : World) (K : PySem.W.Frag) (mg : Str → Option Value) (base : Heap) (ec : EC) : Prop where
  g_BadBook : mg (PySem.Str.ofString "BadBook") = some (.ref (ec "BadBook"))
  g_BadState : mg (PySem.Str.ofString "BadState") = some (.ref (ec "BadState"))
  g_BadTree : mg (PySem.Str.ofString "BadTree") = some (.ref (ec "BadTree"))
  g_NoNode : mg (PySem.Str.ofString "NoNode") = some (.ref (ec "NoNode"))
  g_UnlikeBooks : mg (PySem.Str.ofString "UnlikeBooks") = some (.ref (ec "UnlikeBooks"))
  g_RestError : mg (PySem.Str.ofString "RestError") = some (.ref (ec "RestError"))
  g_BadReader : mg (PySem.Str.ofString "BadReader") = some (.ref (ec "BadReader"))
  g_NoOneRest : mg (PySem.Str.ofString "NoOneRest") = some (.ref (ec "NoOneRest"))
  g_NoEnd : mg (PySem.Str.ofString "NoEnd") = some (.ref (ec "NoEnd"))
  f_BadBook : errF K (ec "BadBook") = true
  f_BadState : errF K (ec "BadState") = true
  f_BadTree : errF K (ec "BadTree") = true
  f_NoNode : errF K (ec "NoNode") = true
  f_UnlikeBooks : errF K (ec "UnlikeBooks") = true
  tab : TabT K ec tabl
  tabi : TabI K ec tabi
  ve : mg "ValueError" = none
  tabg : TabG K ec tabl
abbrev s_law_deck : Stmt := top 133
abbrev N_law_deck : List Str := ["script", "place", "cell", "value", "digits", "turn"]
abbrev P_law_deck : List Str := ["script", "place"]
theorem sc_law_deck : FnScope N_law_deck P_law_deck (defScope s_law_deck) := ⟨rfl, rfl, rfl, by decide +kernel, rfl, by decide +kernel, by decide +kernel⟩
abbrev s_law_pick : Stmt := top 134
abbrev N_law_pick : List Str := ["deck", "many", "taken"]
abbrev P_law_pick : List Str := ["deck", "many"]
theorem sc_law_pick : FnScope N_law_pick P_law_pick (defScope s_law_pick) := ⟨rfl, rfl, rfl, by decide +kernel, rfl, by decide +kernel, by decide +kernel⟩
abbrev s_law_put : Stmt := top 136
abbrev N_law_put : List Str := ["rules", "rule"]
abbrev P_law_put : List Str := ["rules", "rule"]
theorem sc_law_put : FnScope N_law_put P_law_put (defScope s_law_put) := ⟨rfl, rfl, rfl, by decide +kernel, rfl, by decide +kernel, by decide +kernel⟩
abbrev s_law_signal : Stmt := top 135
abbrev N_law_signal : List Str := ["deck", "many", "state"]
abbrev P_law_signal : List Str := ["deck", "many"]
theorem sc_law_signal : FnScope N_law_signal P_law_signal (defScope s_law_signal) := ⟨rfl, rfl, rfl, by decide +kernel, rfl, by decide +kernel, by decide +kernel⟩
abbrev s_law_free : Stmt := top 137
abbrev N_law_free : List Str := ["deck", "many", "rules", "count", "turn", "own", "new"]
abbrev P_law_free : List Str := ["deck", "many", "rules", "count"]
theorem sc_law_free : FnScope N_law_free P_law_free (defScope s_law_free) := ⟨rfl, rfl, rfl, by decide +kernel, rfl, by decide +kernel, by decide +kernel⟩
abbrev s_law_bad_rule : Stmt := top 140
abbrev N_law_bad_rule : List Str := ["deck", "rule", "many", "spoil", "above", "own", "new", "signal", "place", "rows"]
abbrev P_law_bad_rule : List Str := ["deck", "rule", "many", "spoil"]
theorem sc_law_bad_rule : FnScope N_law_bad_rule P_law_bad_rule (defScope s_law_bad_rule) := ⟨rfl, rfl, rfl, by decide +kernel, rfl, by decide +kernel, by decide +kernel⟩
abbrev s_law_thirteen : Stmt := top 141
abbrev N_law_thirteen : List Str := ["rules", "above", "own", "one", "other"]
abbrev P_law_thirteen : List Str := []
theorem sc_law_thirteen : FnScope N_law_thirteen P_law_thirteen (defScope s_law_thirteen) := ⟨rfl, rfl, rfl, by decide +kernel, rfl, by decide +kernel, by decide +kernel⟩
abbrev s_law_bad : Stmt := top 142
abbrev N_law_bad : List Str := ["deck", "book", "spoil", "many", "rules", "place", "rule", "twice", "rows"]
abbrev P_law_bad : List Str := ["deck", "book", "spoil"]
theorem sc_law_bad : FnScope N_law_bad P_law_bad (defScope s_law_bad) := ⟨rfl, rfl, rfl, by decide +kernel, rfl, by decide +kernel, by decide +kernel⟩
abbrev s_is_tuple_of : Stmt := top 17
abbrev N_is_tuple_of : List Str := ["thing", "length"]
abbrev P_is_tuple_of : List Str := ["thing", "length"]
theorem sc_is_tuple_of : FnScope N_is_tuple_of P_is_tuple_of (defScope s_is_tuple_of) := ⟨rfl, rfl, rfl, by decide +kernel, rfl, by decide +kernel, by decide +kernel⟩
abbrev s_is_integer : Stmt := top 13
abbrev N_is_integer : List Str := ["thing"]
abbrev P_is_integer : List Str := ["thing"]
theorem sc_is_integer : FnScope N_is_integer P_is_integer (defScope s_is_integer) := ⟨rfl, rfl, rfl, by decide +kernel, rfl, by decide +kernel, by decide +kernel⟩
abbrev s_is_integer_from : Stmt := top 14
abbrev N_is_integer_from : List Str := ["thing", "low", "high"]
abbrev P_is_integer_from : List Str := ["thing", "low", "high"]
theorem sc_is_integer_from : FnScope N_is_integer_from P_is_integer_from (defScope s_is_integer_from) := ⟨rfl, rfl, rfl, by decide +kernel, rfl, by decide +kernel, by decide +kernel⟩
abbrev s_is_number_below : Stmt := top 15
abbrev N_is_number_below : List Str := ["thing", "limit"]
abbrev P_is_number_below : List Str := ["thing", "limit"]
theorem sc_is_number_below : FnScope N_is_number_below P_is_number_below (defScope s_is_number_below) := ⟨rfl, rfl, rfl, by decide +kernel, rfl, by decide +kernel, by decide +kernel⟩
abbrev s_are_numbers_below : Stmt := top 18
abbrev N_are_numbers_below : List Str := ["things", "limit", "thing"]
abbrev P_are_numbers_below : List Str := ["things", "limit"]
theorem sc_are_numbers_below : FnScope N_are_numbers_below P_are_numbers_below (defScope s_are_numbers_below) := ⟨rfl, rfl, rfl, by decide +kernel, rfl, by decide +kernel, by decide +kernel⟩
abbrev s_is_rule : Stmt := top 23
abbrev N_is_rule : List Str := ["n", "thing", "above", "own", "new", "signal"]
abbrev P_is_rule : List Str := ["n", "thing"]
theorem sc_is_rule : FnScope N_is_rule P_is_rule (defScope s_is_rule) := ⟨rfl, rfl, rfl, by decide +kernel, rfl, by decide +kernel, by decide +kernel⟩
abbrev s_is_book : Stmt := top 22
abbrev N_is_book : List Str := ["thing", "n", "rules", "rule"]
abbrev P_is_book : List Str := ["thing"]
theorem sc_is_book : FnScope N_is_book P_is_book (defScope s_is_book) := ⟨rfl, rfl, rfl, by decide +kernel, rfl, by decide +kernel, by decide +kernel⟩
abbrev s_check_book : Stmt := top 24
abbrev N_check_book : List Str := ["thing"]
abbrev P_check_book : List Str := ["thing"]
theorem sc_check_book : FnScope N_check_book P_check_book (defScope s_check_book) := ⟨rfl, rfl, rfl, by decide +kernel, rfl, by decide +kernel, by decide +kernel⟩
abbrev s_outcome_of : Stmt := top 65
abbrev N_outcome_of : List Str := ["book", "table", "depths", "shortest", "line", "_", "one", "other"]
abbrev P_outcome_of : List Str := ["book"]
theorem sc_outcome_of : FnScope N_outcome_of P_outcome_of (defScope s_outcome_of) := ⟨rfl, rfl, rfl, by decide +kernel, rfl, by decide +kernel, by decide +kernel⟩
abbrev s_outcome_holds : Stmt := top 73
abbrev N_outcome_holds : List Str := ["book", "certificate", "kind", "triples", "line", "one", "other"]
abbrev P_outcome_holds : List Str := ["book", "certificate"]
theorem sc_outcome_holds : FnScope N_outcome_holds P_outcome_holds (defScope s_outcome_holds) := ⟨rfl, rfl, rfl, by decide +kernel, rfl, by decide +kernel, by decide +kernel⟩
abbrev s_are_parents : Stmt := top 32
abbrev N_are_parents : List Str := ["thing", "node", "parent"]
abbrev P_are_parents : List Str := ["thing"]
theorem sc_are_parents : FnScope N_are_parents P_are_parents (defScope s_are_parents) := ⟨rfl, rfl, rfl, by decide +kernel, rfl, by decide +kernel, by decide +kernel⟩
abbrev s_is_tree_of : Stmt := top 31
abbrev N_is_tree_of : List Str := ["book", "thing", "outside", "parents", "entries"]
abbrev P_is_tree_of : List Str := ["book", "thing"]
theorem sc_is_tree_of : FnScope N_is_tree_of P_is_tree_of (defScope s_is_tree_of) := ⟨rfl, rfl, rfl, by decide +kernel, rfl, by decide +kernel, by decide +kernel⟩
abbrev s_is_tree : Stmt := top 30
abbrev N_is_tree : List Str := ["book", "thing"]
abbrev P_is_tree : List Str := ["book", "thing"]
theorem sc_is_tree : FnScope N_is_tree P_is_tree (defScope s_is_tree) := ⟨rfl, rfl, rfl, by decide +kernel, rfl, by decide +kernel, by decide +kernel⟩
abbrev s_check_tree : Stmt := top 34
abbrev N_check_tree : List Str := ["book", "thing"]
abbrev P_check_tree : List Str := ["book", "thing"]
theorem sc_check_tree : FnScope N_check_tree P_check_tree (defScope s_check_tree) := ⟨rfl, rfl, rfl, by decide +kernel, rfl, by decide +kernel, by decide +kernel⟩
abbrev s_rest_of : Stmt := top 92
abbrev N_rest_of : List Str := ["book", "tree"]
abbrev P_rest_of : List Str := ["book", "tree"]
theorem sc_rest_of : FnScope N_rest_of P_rest_of (defScope s_rest_of) := ⟨rfl, rfl, rfl, by decide +kernel, rfl, by decide +kernel, by decide +kernel⟩
abbrev s_run_steps : Stmt := top 39
abbrev N_run_steps : List Str := ["book", "tree", "steps", "place", "step"]
abbrev P_run_steps : List Str := ["book", "tree", "steps"]
theorem sc_run_steps : FnScope N_run_steps P_run_steps (defScope s_run_steps) := ⟨rfl, rfl, rfl, by decide +kernel, rfl, by decide +kernel, by decide +kernel⟩
abbrev s_join_runs : Stmt := top 93
abbrev N_join_runs : List Str := ["book", "tree", "one", "other", "one_tree", "other_tree"]
abbrev P_join_runs : List Str := ["book", "tree", "one", "other"]
theorem sc_join_runs : FnScope N_join_runs P_join_runs (defScope s_join_runs) := ⟨rfl, rfl, rfl, by decide +kernel, rfl, by decide +kernel, by decide +kernel⟩
abbrev s_is_reader : Stmt := top 96
abbrev N_is_reader : List Str := ["book", "thing"]
abbrev P_is_reader : List Str := ["book", "thing"]
theorem sc_is_reader : FnScope N_is_reader P_is_reader (defScope s_is_reader) := ⟨rfl, rfl, rfl, by decide +kernel, rfl, by decide +kernel, by decide +kernel⟩
abbrev s_reader_of : Stmt := top 99
abbrev N_reader_of : List Str := ["book"]
abbrev P_reader_of : List Str := ["book"]
theorem sc_reader_of : FnScope N_reader_of P_reader_of (defScope s_reader_of) := ⟨rfl, rfl, rfl, by decide +kernel, rfl, by decide +kernel, by decide +kernel⟩
abbrev s_reader_holds : Stmt := top 101
abbrev N_reader_holds : List Str := ["book", "reader"]
abbrev P_reader_holds : List Str := ["book", "reader"]
theorem sc_reader_holds : FnScope N_reader_holds P_reader_holds (defScope s_reader_holds) := ⟨rfl, rfl, rfl, by decide +kernel, rfl, by decide +kernel, by decide +kernel⟩
abbrev s_two_readers : Stmt := top 106
abbrev N_two_readers : List Str := ["book", "other"]
abbrev P_two_readers : List Str := ["book", "other"]
theorem sc_two_readers : FnScope N_two_readers P_two_readers (defScope s_two_readers) := ⟨rfl, rfl, rfl, by decide +kernel, rfl, by decide +kernel, by decide +kernel⟩
abbrev s_first_difference : Stmt := top 104
abbrev N_first_difference : List Str := ["book", "other", "reader", "other_reader"]
abbrev P_first_difference : List Str := ["book", "other"]
theorem sc_first_difference : FnScope N_first_difference P_first_difference (defScope s_first_difference) := ⟨rfl, rfl, rfl, by decide +kernel, rfl, by decide +kernel, by decide +kernel⟩
abbrev s_first_clash : Stmt := top 105
abbrev N_first_clash : List Str := ["book", "other", "reader", "other_reader", "there", "back"]
abbrev P_first_clash : List Str := ["book", "other"]
theorem sc_first_clash : FnScope N_first_clash P_first_clash (defScope s_first_clash) := ⟨rfl, rfl, rfl, by decide +kernel, rfl, by decide +kernel, by decide +kernel⟩
abbrev s_law_first_doors : Stmt := top 138
abbrev N_law_first_doors : List Str := ["door", "book", "good", "many", "tree"]
abbrev P_law_first_doors : List Str := ["door", "book", "good"]
theorem sc_law_first_doors : FnScope N_law_first_doors P_law_first_doors (defScope s_law_first_doors) := ⟨rfl, rfl, rfl, by decide +kernel, rfl, by decide +kernel, by decide +kernel⟩
abbrev s_spare_rules : Stmt := top 108
abbrev N_spare_rules : List Str := ["book", "reader", "number"]
abbrev P_spare_rules : List Str := ["book"]
theorem sc_spare_rules : FnScope N_spare_rules P_spare_rules (defScope s_spare_rules) := ⟨rfl, rfl, rfl, by decide +kernel, rfl, by decide +kernel, by decide +kernel⟩
abbrev s_check_few_rules : Stmt := top 113
abbrev N_check_few_rules : List Str := ["book"]
abbrev P_check_few_rules : List Str := ["book"]
theorem sc_check_few_rules : FnScope N_check_few_rules P_check_few_rules (defScope s_check_few_rules) := ⟨rfl, rfl, rfl, by decide +kernel, rfl, by decide +kernel, by decide +kernel⟩
abbrev s_fewest_rules : Stmt := top 111
abbrev N_fewest_rules : List Str := ["book", "reader", "numbers", "chosen", "number"]
abbrev P_fewest_rules : List Str := ["book"]
theorem sc_fewest_rules : FnScope N_fewest_rules P_fewest_rules (defScope s_fewest_rules) := ⟨rfl, rfl, rfl, by decide +kernel, rfl, by decide +kernel, by decide +kernel⟩
abbrev s_fewest_removals : Stmt := top 112
abbrev N_fewest_removals : List Str := ["book", "numbers"]
abbrev P_fewest_removals : List Str := ["book"]
theorem sc_fewest_removals : FnScope N_fewest_removals P_fewest_removals (defScope s_fewest_removals) := ⟨rfl, rfl, rfl, by decide +kernel, rfl, by decide +kernel, by decide +kernel⟩
abbrev s_check_settled_node : Stmt := top 116
abbrev N_check_settled_node : List Str := ["book", "tree", "node", "state"]
abbrev P_check_settled_node : List Str := ["book", "tree", "node", "state"]
theorem sc_check_settled_node : FnScope N_check_settled_node P_check_settled_node (defScope s_check_settled_node) := ⟨rfl, rfl, rfl, by decide +kernel, rfl, by decide +kernel, by decide +kernel⟩
abbrev s_changed_nodes : Stmt := top 117
abbrev N_changed_nodes : List Str := ["book", "tree", "node", "state", "rests", "other_rests", "k"]
abbrev P_changed_nodes : List Str := ["book", "tree", "node", "state"]
theorem sc_changed_nodes : FnScope N_changed_nodes P_changed_nodes (defScope s_changed_nodes) := ⟨rfl, rfl, rfl, by decide +kernel, rfl, by decide +kernel, by decide +kernel⟩
abbrev s_change_reach : Stmt := top 122
abbrev N_change_reach : List Str := ["book", "reader", "ranks", "reach", "widest", "change", "found"]
abbrev P_change_reach : List Str := ["book"]
theorem sc_change_reach : FnScope N_change_reach P_change_reach (defScope s_change_reach) := ⟨rfl, rfl, rfl, by decide +kernel, rfl, by decide +kernel, by decide +kernel⟩
abbrev s_pair_ranks : Stmt := top 119
abbrev N_pair_ranks : List Str := ["rows", "ranks", "grown", "pair", "below", "other", "row", "_", "after"]
abbrev P_pair_ranks : List Str := ["rows"]
theorem sc_pair_ranks : FnScope N_pair_ranks P_pair_ranks (defScope s_pair_ranks) := ⟨rfl, rfl, rfl, by decide +kernel, rfl, by decide +kernel, by decide +kernel⟩
abbrev s_reach_ranks : Stmt := top 118
abbrev N_reach_ranks : List Str := ["book", "ranks", "row", "other"]
abbrev P_reach_ranks : List Str := ["book"]
theorem sc_reach_ranks : FnScope N_reach_ranks P_reach_ranks (defScope s_reach_ranks) := ⟨rfl, rfl, rfl, by decide +kernel, rfl, by decide +kernel, by decide +kernel⟩
abbrev s_touched_states : Stmt := top 131
abbrev N_touched_states : List Str := ["book", "held", "state", "touched", "number", "_", "own", "new", "signal", "moves", "old", "after"]
abbrev P_touched_states : List Str := ["book", "held"]
theorem sc_touched_states : FnScope N_touched_states P_touched_states (defScope s_touched_states) := ⟨rfl, rfl, rfl, by decide +kernel, rfl, by decide +kernel, by decide +kernel⟩
abbrev s_law_later_doors : Stmt := top 139
abbrev N_law_later_doors : List Str := ["door", "book", "good", "tree"]
abbrev P_law_later_doors : List Str := ["door", "book", "good"]
theorem sc_law_later_doors : FnScope N_law_later_doors P_law_later_doors (defScope s_law_later_doors) := ⟨rfl, rfl, rfl, by decide +kernel, rfl, by decide +kernel, by decide +kernel⟩
abbrev s_law_refused : Stmt := top 143
abbrev N_law_refused : List Str := ["door", "book", "good", "found", "e", "above"]
abbrev P_law_refused : List Str := ["door", "book", "good"]
theorem sc_law_refused : FnScope N_law_refused P_law_refused (defScope s_law_refused) := ⟨rfl, rfl, rfl, by decide +kernel, rfl, by decide +kernel, by decide +kernel⟩
abbrev s_law : Stmt := top 144
abbrev N_law : List Str := ["script", "deck", "spoil", "many", "rules", "bad", "good", "start", "turn"]
abbrev P_law : List Str := ["script"]
theorem sc_law : FnScope N_law P_law (defScope s_law) := ⟨rfl, rfl, rfl, by decide +kernel, rfl, by decide +kernel, by decide +kernel⟩
section
variable {P : Program} {w : World} {K : PySem.W.Frag} {mg : Str → Option Value} {base : Heap} {ec : EC}
theorem ok_law_deck (T : Bl mg) (C : Cn mg) (Z : Er P w K mg base ec) (D : DAt K mg "_law_deck" s_law_deck P_law_deck) : DOkO P w K mg base ec "_law_deck" P_law_deck 1 2 f_law_deck := by
  refine DAt.okO (n := 6) (p := 2) D sc_law_deck rfl rfl fun f cdv A outer s H E hr => ?_
  have S := sc_law_deck
  have hp := passes_of (X := cxOf (L2.CX P w) P w K mg base N_law_deck "_law_deck" (defScope s_law_deck) f cdv A outer s H E) rfl
  have tk := takes_of (X := cxOf (L2.CX P w) P w K mg base N_law_deck "_law_deck" (defScope s_law_deck) f cdv A outer s H E) (E := E) rfl rfl rfl rfl
  have hu := hu65 hr
  exact (dss_cons (ds_set (i := 2) S.nd rfl (by first | exact .inl rfl | exact .inr rfl) de_int) (dss_cons (ds_if (dt_cmp op_lt o_lt (DE.x (de_var 1)) (DE.x (de_b1 call_len_seq b_len rfl T.len (DE.x (de_var 0)) PySem.boot_len)) (nomark _)) (dss_one (ds_set (i := 2) S.nd rfl (by first | exact .inl rfl | exact .inr rfl) (de_ix (DE.x (de_var 0)) (DE.x (de_var 1))))) dss_nil) (dss_cons (ds_if (dt_cmp op_ge o_ge (DE.x (de_var 2)) (DE.x (de_op op_pow o_pow (DE.x de_int) (DE.x de_int))) (nomark _)) (dss_one (ds_retL (dl_lst (da_cons (de_op op_subA o_sub (DE.x (de_var 2)) (DE.x (de_op op_pow o_pow (DE.x de_int) (DE.x de_int)))) da_nil)))) dss_nil) (dss_cons (ds_set (i := 3) S.nd rfl (by first | exact .inl rfl | exact .inr rfl) (de_op op_addA o_add (DE.x (de_op op_addA o_add (DE.x (de_op op_mulV o_mul (DE.x (de_op op_mod o_mod (DE.x (de_t1 call_int1 b_int rfl T.int (DE.x (de_var 2)) PyProof.Rows.boot_int)) (DE.x (de_op op_pow o_pow (DE.x de_int) (DE.x de_int))))) (DE.x de_int))) (DE.x (de_op op_mulV o_mul (DE.x de_int) (DE.x (de_var 1)))))) (DE.x de_int))) (dss_cons (ds_set (i := 4) S.nd rfl (by first | exact .inl rfl | exact .inr rfl) de_int) (dss_cons (ds_for hp rfl (di_range1 rfl T.range (DE.x de_int)) (pg_name (i := 5) S.nd rfl (by first | exact .inl rfl | exact .inr rfl)) (dss_cons (ds_set (i := 3) S.nd rfl (by first | exact .inl rfl | exact .inr rfl) (de_op op_mod o_mod (DE.x (de_t1 call_int1 b_int rfl T.int (DE.x (de_op op_addA o_add (DE.x (de_op op_addA o_add (DE.x (de_op op_addA o_add (DE.x (de_op op_mulV o_mul (DE.x (de_var 3)) (DE.x (de_var 3)))) (DE.x (de_op op_mulV o_mul (DE.x de_int) (DE.x (de_var 3)))))) (DE.x (de_op op_mulV o_mul (DE.x (de_var 5)) (DE.x (de_var 5)))))) (DE.x de_int))) PyProof.Rows.boot_int)) (DE.x de_int))) (dss_one (ds_set (i := 4) S.nd rfl (by first | exact .inl rfl | exact .inr rfl) (de_op op_addA o_add (DE.x (de_op op_mulV o_mul (DE.x (de_var 4)) (DE.x (de_op op_pow o_pow (DE.x de_int) (DE.x de_int))))) (DE.x (de_var 3))))))) (dss_one (ds_retL (dl_lst (da_cons (de_var 4) da_nil))))))))))
theorem ok_law_pick (T : Bl mg) (C : Cn mg) (Z : Er P w K mg base ec) (D : DAt K mg "_law_pick" s_law_pick P_law_pick) : DOkI P w K mg base ec "_law_pick" P_law_pick 1 2 f_law_pick := by
  refine DAt.okI (n := 3) (p := 2) D sc_law_pick rfl rfl fun f cdv A outer s H E hr => ?_
  have S := sc_law_pick
  have hp := passes_of (X := cxOf (L2.CX P w) P w K mg base N_law_pick "_law_pick" (defScope s_law_pick) f cdv A outer s H E) rfl
  have tk := takes_of (X := cxOf (L2.CX P w) P w K mg base N_law_pick "_law_pick" (defScope s_law_pick) f cdv A outer s H E) (E := E) rfl rfl rfl rfl
  have hu := hu65 hr
  exact (dss_cons (ds_set (i := 2) S.nd rfl (by first | exact .inl rfl | exact .inr rfl) (de_op op_mod o_mod (DE.x (de_t1 call_int1 b_int rfl T.int (DE.x (de_ix (dx_var 0) (DE.x de_int))) PyProof.Rows.boot_int)) (DE.x (de_var 1)))) (dss_cons (ds_setix (i := 0) rfl (by first | exact .inl rfl | exact .inr (.inl rfl)) (DE.x de_int) (de_op op_fdiv o_div (DE.x (de_t1 call_int1 b_int rfl T.int (DE.x (de_ix (dx_var 0) (DE.x de_int))) PyProof.Rows.boot_int)) (DE.x (de_var 1))) (fun ha ho hk => ps_asg ha (pg_sub ho hk set_list))) (dss_one (ds_zret (des_up (de_var 2))))))
theorem ok_law_put (T : Bl mg) (C : Cn mg) (Z : Er P w K mg base ec) (D : DAt K mg "_law_put" s_law_put P_law_put) : DOkI P w K mg base ec "_law_put" P_law_put 1 2 f_law_put := by
  refine DAt.okI (n := 2) (p := 2) D sc_law_put rfl rfl fun f cdv A outer s H E hr => ?_
  have S := sc_law_put
  have hp := passes_of (X := cxOf (L2.CX P w) P w K mg base N_law_put "_law_put" (defScope s_law_put) f cdv A outer s H E) rfl
  have tk := takes_of (X := cxOf (L2.CX P w) P w K mg base N_law_put "_law_put" (defScope s_law_put) f cdv A outer s H E) (E := E) rfl rfl rfl rfl
  have hu := hu65 hr
  exact (dss_one (ds_if (DW.t (dw_and (dt_cmp (op_notInS2 hu) o_notIn (DE.x (de_var 1)) (dx_var 0) (by with_unfolding_all rfl)) (dw_and1 (dt_cmp op_lt o_lt (DE.x (de_b1 call_len_seq b_len rfl T.len (dx_var 0) PySem.boot_len)) (DE.x de_int) (nomark _))))) (dss_one (ds_app (i := 0) rfl (by first | exact .inl rfl | exact .inr (.inl rfl)) (de_var 1))) dss_nil))
theorem ok_law_signal (T : Bl mg) (C : Cn mg) (Z : Er P w K mg base ec) (D : DAt K mg "_law_signal" s_law_signal P_law_signal) (G_law_pick : DOkI P w K mg base ec "_law_pick" P_law_pick 1 2 f_law_pick) : DOkI P w K mg base ec "_law_signal" P_law_signal 2 2 f_law_signal := by
  refine DAt.okI (n := 3) (p := 2) D sc_law_signal rfl rfl fun f cdv A outer s H E hr => ?_
  have S := sc_law_signal
  have hp := passes_of (X := cxOf (L2.CX P w) P w K mg base N_law_signal "_law_signal" (defScope s_law_signal) f cdv A outer s H E) rfl
  have tk := takes_of (X := cxOf (L2.CX P w) P w K mg base N_law_signal "_law_signal" (defScope s_law_signal) f cdv A outer s H E) (E := E) rfl rfl rfl rfl
  have hu := hu65 hr
  exact (dss_one (ds_zret (des_t1 call_tuple_of b_tup rfl T.tuple (des_l (dls_comp rfl S.nd (dis_up (di_range1 rfl T.range (DE.x (de_var 1)))) (blkOk_by (own := [("state", 2)]) (N := N_law_signal) (sc := defScope s_law_signal) (by decide +kernel)) rfl (fun _ _ _ _ _ => (pg_name (i := 2) S.nd rfl (by first | exact .inl rfl | exact .inr rfl))) (fun _ _ _ _ _ => dts_nil) (fun _ _ _ _ _ => (des_callI G_law_pick hr takes0 (by decide) rfl (dai_io 0 (dai_ex (des_up (de_var 1)) dai_nil)))))) PyProof.Rows.boot_tuple)))
theorem ok_law_free (T : Bl mg) (C : Cn mg) (Z : Er P w K mg base ec) (D : DAt K mg "_law_free" s_law_free P_law_free) (G_law_pick : DOkI P w K mg base ec "_law_pick" P_law_pick 1 2 f_law_pick) (G_law_put : DOkI P w K mg base ec "_law_put" P_law_put 1 2 f_law_put) (G_law_signal : DOkI P w K mg base ec "_law_signal" P_law_signal 2 2 f_law_signal) : DOkI P w K mg base ec "_law_free" P_law_free 3 4 f_law_free := by
  refine DAt.okI (n := 7) (p := 4) D sc_law_free rfl rfl fun f cdv A outer s H E hr => ?_
  have S := sc_law_free
  have hp := passes_of (X := cxOf (L2.CX P w) P w K mg base N_law_free "_law_free" (defScope s_law_free) f cdv A outer s H E) rfl
  have tk := takes_of (X := cxOf (L2.CX P w) P w K mg base N_law_free "_law_free" (defScope s_law_free) f cdv A outer s H E) (E := E) rfl rfl rfl rfl
  have hu := hu65 hr
  exact (dss_one (ds_for hp rfl (di_range1 rfl T.range (DE.x (de_var 3))) (pg_name (i := 4) S.nd rfl (by first | exact .inl rfl | exact .inr rfl)) (dss_cons (ds_zset (i := 5) S.nd rfl (by first | exact .inl rfl | exact .inr rfl) (des_callI G_law_pick hr tk (by decide) rfl (dai_io 0 (dai_ex (des_up (de_var 1)) dai_nil)))) (dss_cons (ds_zset (i := 6) S.nd rfl (by first | exact .inl rfl | exact .inr rfl) (des_op op_mod o_mod (des_t1 call_int1 b_int rfl T.int (des_op op_addA o_add (des_up (de_op op_addA o_add (DE.x (de_var 5)) (DE.x de_int))) (des_callI G_law_pick hr tk (by decide) rfl (dai_io 0 (dai_ex (des_up (de_op op_subA o_sub (DE.x (de_var 1)) (DE.x de_int))) dai_nil)))) PyProof.Rows.boot_int) (des_up (de_var 1)))) (dss_one (ds_zexpr (des_callI G_law_put hr tk (by decide) rfl (dai_io 2 (dai_ex (des_tup (das_cons (des_callI G_law_pick hr tk (by decide) rfl (dai_io 0 (dai_ex (des_up (de_var 1)) dai_nil))) (das_cons (des_up (de_var 5)) (das_cons (des_up (de_var 6)) (das_cons (des_callI G_law_signal hr tk (by decide) rfl (dai_io 0 (dai_ex (des_up (de_var 1)) dai_nil))) das_nil))))) dai_nil)))))))))
theorem ok_law_bad_rule (T : Bl mg) (C : Cn mg) (Z : Er P w K mg base ec) (D : DAt K mg "_law_bad_rule" s_law_bad_rule P_law_bad_rule) (G_law_pick : DOkI P w K mg base ec "_law_pick" P_law_pick 1 2 f_law_pick) : DOkI P w K mg base ec "_law_bad_rule" P_law_bad_rule 2 4 f_law_bad_rule := by
  refine DAt.okI (n := 10) (p := 4) D sc_law_bad_rule rfl rfl fun f cdv A outer s H E hr => ?_
  have S := sc_law_bad_rule
  have hp := passes_of (X := cxOf (L2.CX P w) P w K mg base N_law_bad_rule "_law_bad_rule" (defScope s_law_bad_rule) f cdv A outer s H E) rfl
  have tk := takes_of (X := cxOf (L2.CX P w) P w K mg base N_law_bad_rule "_law_bad_rule" (defScope s_law_bad_rule) f cdv A outer s H E) (E := E) rfl rfl rfl rfl
  have hu := hu65 hr
  exact (dss_cons (ds_put (g := (.many [4, 5, 6, 7])) (de_var 1) (pg_tup rfl (pgs_cons (pg_name (i := 4) S.nd rfl (by first | exact .inl rfl | exact .inr rfl)) (pgs_cons (pg_name (i := 5) S.nd rfl (by first | exact .inl rfl | exact .inr rfl)) (pgs_cons (pg_name (i := 6) S.nd rfl (by first | exact .inl rfl | exact .inr rfl)) (pgs_cons (pg_name (i := 7) S.nd rfl (by first | exact .inl rfl | exact .inr rfl)) pgs_nil)))))) (dss_cons (ds_zset (i := 8) S.nd rfl (by first | exact .inl rfl | exact .inr rfl) (des_callI G_law_pick hr tk (by decide) rfl (dai_io 0 (dai_ex (des_up (de_var 2)) dai_nil)))) (dss_cons (ds_set (i := 9) S.nd rfl (by first | exact .inl rfl | exact .inr rfl) (DLi.d (dl_lst (da_cons (de_tup (da_cons (de_var 4) (da_cons (de_var 5) (da_cons (de_var 5) (da_cons (de_var 7) da_nil))))) (da_cons (de_tup (da_cons (de_var 2) (da_cons (de_var 5) (da_cons (de_var 6) (da_cons (de_var 7) da_nil))))) (da_cons (de_tup (da_cons (de_var 4) (da_cons (de_var 5) (da_cons (de_var 6) (da_cons (de_cut (DE.x (de_var 7)) (DO.som (DE.x de_int)) DO.non) da_nil))))) (da_cons (DLi.d (dl_t1 call_list_of b_list rfl T.list (DE.x (de_var 1)) PyProof.Rows.boot_list)) (da_cons (de_cut (DE.x (de_var 1)) DO.non (DO.som (DE.x de_int))) da_nil)))))))) (dss_cons (ds_set (i := 9) S.nd rfl (by first | exact .inl rfl | exact .inr rfl) (de_op op_addA o_add (DE.x (de_var 9)) (DE.x (DLi.d (dl_lst (da_cons (de_tup (da_cons (de_var 4) (da_cons (de_var 5) (da_cons (de_var 6) (da_cons (de_op op_addA o_add (DE.x (de_op op_addA o_add (DE.x (de_cut (DE.x (de_var 7)) DO.non (DO.som (DE.x (de_var 8))))) (DE.x (de_tup (da_cons (de_var 2) da_nil))))) (DE.x (de_cut (DE.x (de_var 7)) (DO.som (DE.x (de_op op_addA o_add (DE.x (de_var 8)) (DE.x de_int)))) DO.non))) da_nil))))) (da_cons (de_tup (da_cons (de_var 4) (da_cons (de_var 5) (da_cons (de_var 6) (da_cons (DLi.d (dl_t1 call_list_of b_list rfl T.list (DE.x (de_var 7)) PyProof.Rows.boot_list)) da_nil))))) da_nil))))))) (dss_cons (ds_set (i := 9) S.nd rfl (by first | exact .inl rfl | exact .inr rfl) (de_op op_addA o_add (DE.x (de_var 9)) (DE.x (DLi.d (dl_lst (da_cons (de_tup (da_cons (de_un un_neg o_neg (DE.x de_int)) (da_cons (de_var 5) (da_cons (de_var 6) (da_cons (de_var 7) da_nil))))) (da_cons (de_tup (da_cons (de_var 4) (da_cons (de_var 2) (da_cons (de_var 6) (da_cons (de_var 7) da_nil))))) (da_cons (de_tup (da_cons (de_var 4) (da_cons (de_var 5) (da_cons (de_var 2) (da_cons (de_var 7) da_nil))))) (da_cons de_non (da_cons de_str da_nil)))))))))) (dss_cons (ds_set (i := 9) S.nd rfl (by first | exact .inl rfl | exact .inr rfl) (de_op op_addA o_add (DE.x (de_var 9)) (DE.x (DLi.d (dl_lst (da_cons (de_tup (da_cons (de_var 4) (da_cons (de_var 5) (da_cons (de_var 6) (da_cons (de_op op_addA o_add (DE.x (de_var 7)) (DE.x (de_tup (da_cons de_int da_nil)))) da_nil))))) (da_cons (de_tup (da_cons (de_var 4) (da_cons (de_var 5) (da_cons (de_var 6) (da_cons (de_op op_addA o_add (DE.x (de_op op_addA o_add (DE.x (de_cut (DE.x (de_var 7)) DO.non (DO.som (DE.x (de_var 8))))) (DE.x (de_tup (da_cons de_non da_nil))))) (DE.x (de_cut (DE.x (de_var 7)) (DO.som (DE.x (de_op op_addA o_add (DE.x (de_var 8)) (DE.x de_int)))) DO.non))) da_nil))))) da_nil))))))) (dss_one (ds_zret (des_up (de_ix (DE.x (de_var 9)) (DE.x (de_var 3))))))))))))
theorem ok_law_thirteen (T : Bl mg) (C : Cn mg) (Z : Er P w K mg base ec) (D : DAt K mg "_law_thirteen" s_law_thirteen P_law_thirteen) : DOk P w K mg base ec "_law_thirteen" P_law_thirteen 1 0 f_law_thirteen := by
  refine DAt.ok (n := 5) (p := 0) D sc_law_thirteen rfl rfl fun f cdv A outer s H E hr => ?_
  have S := sc_law_thirteen
  have hp := passes_of (X := cxOf (L2.CX P w) P w K mg base N_law_thirteen "_law_thirteen" (defScope s_law_thirteen) f cdv A outer s H E) rfl
  have tk := takes_of (X := cxOf (L2.CX P w) P w K mg base N_law_thirteen "_law_thirteen" (defScope s_law_thirteen) f cdv A outer s H E) (E := E) rfl rfl rfl rfl
  have hu := hu65 hr
  exact (dss_cons (ds_set (i := 0) S.nd rfl (by first | exact .inl rfl | exact .inr rfl) (DLi.d (dl_lst da_nil))) (dss_cons (ds_for hp rfl (di_range1 rfl T.range (DE.x de_int)) (pg_name (i := 1) S.nd rfl (by first | exact .inl rfl | exact .inr rfl)) (dss_one (ds_for hp rfl (di_range1 rfl T.range (DE.x de_int)) (pg_name (i := 2) S.nd rfl (by first | exact .inl rfl | exact .inr rfl)) (dss_one (ds_for hp rfl (di_range1 rfl T.range (DE.x de_int)) (pg_name (i := 3) S.nd rfl (by first | exact .inl rfl | exact .inr rfl)) (dss_one (ds_set (i := 0) S.nd rfl (by first | exact .inl rfl | exact .inr rfl) (de_op op_addA o_add (DE.x (de_var 0)) (DE.x (DLi.d (dl_comp rfl S.nd (DI.x (di_range1 rfl T.range (DE.x de_int))) (blkOk_by (own := [("other", 4)]) (N := N_law_thirteen) (sc := defScope s_law_thirteen) (by decide +kernel)) rfl (fun _ _ _ _ _ => (pg_name (i := 4) S.nd rfl (by first | exact .inl rfl | exact .inr rfl))) (fun _ _ _ _ _ => dts_nil) (fun _ _ _ _ _ => (de_tup (da_cons (de_var 1) (da_cons (de_var 2) (da_cons (de_op op_subA o_sub (DE.x de_int) (DE.x (de_var 2))) (da_cons (de_tup (da_cons (de_var 3) (da_cons (de_var 4) da_nil))) da_nil))))))))))))))))) (dss_one (ds_ret (de_tup (da_cons de_int (da_cons (de_t1 call_tuple_of b_tup rfl T.tuple (DE.x (de_cut (DE.x (de_var 0)) DO.non (DO.som (DE.x de_int)))) PyProof.Rows.boot_tuple) da_nil)))))))
theorem ok_law_bad (T : Bl mg) (C : Cn mg) (Z : Er P w K mg base ec) (D : DAt K mg "_law_bad" s_law_bad P_law_bad) (G_law_pick : DOkI P w K mg base ec "_law_pick" P_law_pick 1 2 f_law_pick) (G_law_bad_rule : DOkI P w K mg base ec "_law_bad_rule" P_law_bad_rule 2 4 f_law_bad_rule) (G_law_thirteen : DOk P w K mg base ec "_law_thirteen" P_law_thirteen 1 0 f_law_thirteen) : DOkI P w K mg base ec "_law_bad" P_law_bad 3 3 f_law_bad := by
  refine DAt.okI (n := 9) (p := 3) D sc_law_bad rfl rfl fun f cdv A outer s H E hr => ?_
  have S := sc_law_bad
  have hp := passes_of (X := cxOf (L2.CX P w) P w K mg base N_law_bad "_law_bad" (defScope s_law_bad) f cdv A outer s H E) rfl
  have tk := takes_of (X := cxOf (L2.CX P w) P w K mg base N_law_bad "_law_bad" (defScope s_law_bad) f cdv A outer s H E) (E := E) rfl rfl rfl rfl
  have hu := hu65 hr
  exact (dss_cons (ds_put (g := (.many [3, 4])) (de_var 1) (pg_tup rfl (pgs_cons (pg_name (i := 3) S.nd rfl (by first | exact .inl rfl | exact .inr rfl)) (pgs_cons (pg_name (i := 4) S.nd rfl (by first | exact .inl rfl | exact .inr rfl)) pgs_nil)))) (dss_cons (ds_if (dt_cmp op_lt o_lt (DE.x (de_var 2)) (DE.x de_int) (nomark _)) (dss_cons (ds_zset (i := 5) S.nd rfl (by first | exact .inl rfl | exact .inr rfl) (des_callI G_law_pick hr tk (by decide) rfl (dai_io 0 (dai_ex (des_up (de_b1 call_len_seq b_len rfl T.len (DE.x (de_var 4)) PySem.boot_len)) dai_nil)))) (dss_cons (ds_zset (i := 6) S.nd rfl (by first | exact .inl rfl | exact .inr rfl) (des_callI G_law_bad_rule hr tk (by decide) rfl (dai_io 0 (dai_ex (des_up (de_ix (DE.x (de_var 4)) (DE.x (de_var 5)))) (dai_ex (des_up (de_var 3)) (dai_ex (des_up (de_var 2)) dai_nil)))))) (dss_one (ds_zret (des_up (de_tup (da_cons (de_var 3) (da_cons (de_op op_addA o_add (DE.x (de_op op_addA o_add (DE.x (de_cut (DE.x (de_var 4)) DO.non (DO.som (DE.x (de_var 5))))) (DE.x (de_tup (da_cons (de_var 6) da_nil))))) (DE.x (de_cut (DE.x (de_var 4)) (DO.som (DE.x (de_op op_addA o_add (DE.x (de_var 5)) (DE.x de_int)))) DO.non))) da_nil)))))))) dss_nil) (dss_cons (ds_zset (i := 7) S.nd rfl (by first | exact .inl rfl | exact .inr rfl) (des_op op_addA o_add (des_cutT (des_up (de_var 4)) (des_op op_addA o_add (des_callI G_law_pick hr tk (by decide) rfl (dai_io 0 (dai_ex (des_up (de_b1 call_len_seq b_len rfl T.len (DE.x (de_var 4)) PySem.boot_len)) dai_nil))) (des_up de_int))) (des_up (de_var 4)))) (dss_cons (ds_set (i := 8) S.nd rfl (by first | exact .inl rfl | exact .inr rfl) (DLi.d (dl_lst (da_cons (de_tup (da_cons (de_var 3) (da_cons (de_var 7) da_nil))) (da_cons (DLi.d (dl_lst (da_cons (de_var 3) (da_cons (de_var 4) da_nil)))) (da_cons (de_tup (da_cons (de_var 3) (da_cons (DLi.d (dl_t1 call_list_of b_list rfl T.list (DE.x (de_var 4)) PyProof.Rows.boot_list)) da_nil))) (da_cons (de_tup (da_cons de_int (da_cons (de_tup da_nil) da_nil))) (da_cons (de_tup (da_cons de_int (da_cons (de_tup da_nil) da_nil))) (da_cons (de_tup (da_cons de_bl (da_cons (de_tup da_nil) da_nil))) (da_cons (de_tup (da_cons (de_var 3) da_nil)) (da_cons (de_op op_addA o_add (DE.x (de_var 1)) (DE.x (de_tup (da_cons de_int da_nil)))) da_nil))))))))))) (dss_cons (ds_set (i := 8) S.nd rfl (by first | exact .inl rfl | exact .inr rfl) (de_op op_addA o_add (DE.x (de_var 8)) (DE.x (DLi.d (dl_lst (da_cons de_non (da_cons (de_call0 G_law_thirteen hr tk (by decide) rfl) da_nil))))))) (dss_one (ds_zret (des_up (de_ix (DE.x (de_var 8)) (DE.x (de_op op_subA o_sub (DE.x (de_var 2)) (DE.x de_int))))))))))))
theorem ok_is_tuple_of (T : Bl mg) (C : Cn mg) (Z : Er P w K mg base ec) (D : DAt K mg "is_tuple_of" s_is_tuple_of P_is_tuple_of) : DOk P w K mg base ec "is_tuple_of" P_is_tuple_of 1 2 f_is_tuple_of := by
  refine DAt.ok (n := 2) (p := 2) D sc_is_tuple_of rfl rfl fun f cdv A outer s H E hr => ?_
  have S := sc_is_tuple_of
  have hp := passes_of (X := cxOf (L2.CX P w) P w K mg base N_is_tuple_of "is_tuple_of" (defScope s_is_tuple_of) f cdv A outer s H E) rfl
  have tk := takes_of (X := cxOf (L2.CX P w) P w K mg base N_is_tuple_of "is_tuple_of" (defScope s_is_tuple_of) f cdv A outer s H E) (E := E) rfl rfl rfl rfl
  have hu := hu65 hr
  exact (dss_one (ds_ret (db_and (db_isi kind_tuple rfl T.isinstance rfl T.tuple (by decide +kernel) (DE.x (de_var 0))) (db_one (db_cmp (op_eqQ hu) o_eqQ (DE.x (de_b1 call_len_seq b_len rfl T.len (DE.x (de_var 0)) PySem.boot_len)) (DE.x (de_var 1)) (nomark _))))))
theorem ok_is_integer (T : Bl mg) (C : Cn mg) (Z : Er P w K mg base ec) (D : DAt K mg "is_integer" s_is_integer P_is_integer) : DOk P w K mg base ec "is_integer" P_is_integer 1 1 f_is_integer := by
  refine DAt.ok (n := 1) (p := 1) D sc_is_integer rfl rfl fun f cdv A outer s H E hr => ?_
  have S := sc_is_integer
  have hp := passes_of (X := cxOf (L2.CX P w) P w K mg base N_is_integer "is_integer" (defScope s_is_integer) f cdv A outer s H E) rfl
  have tk := takes_of (X := cxOf (L2.CX P w) P w K mg base N_is_integer "is_integer" (defScope s_is_integer) f cdv A outer s H E) (E := E) rfl rfl rfl rfl
  have hu := hu65 hr
  exact (dss_one (ds_ret (db_and (db_isi kind_int rfl T.isinstance rfl T.int (by decide +kernel) (DE.x (de_var 0))) (db_one (db_not (db_isi kind_bool rfl T.isinstance rfl T.bool (by decide +kernel) (DE.x (de_var 0))))))))
theorem ok_is_integer_from (T : Bl mg) (C : Cn mg) (Z : Er P w K mg base ec) (D : DAt K mg "is_integer_from" s_is_integer_from P_is_integer_from) (G_is_integer : DOk P w K mg base ec "is_integer" P_is_integer 1 1 f_is_integer) : DOk P w K mg base ec "is_integer_from" P_is_integer_from 2 3 f_is_integer_from := by
  refine DAt.ok (n := 3) (p := 3) D sc_is_integer_from rfl rfl fun f cdv A outer s H E hr => ?_
  have S := sc_is_integer_from
  have hp := passes_of (X := cxOf (L2.CX P w) P w K mg base N_is_integer_from "is_integer_from" (defScope s_is_integer_from) f cdv A outer s H E) rfl
  have tk := takes_of (X := cxOf (L2.CX P w) P w K mg base N_is_integer_from "is_integer_from" (defScope s_is_integer_from) f cdv A outer s H E) (E := E) rfl rfl rfl rfl
  have hu := hu65 hr
  exact (dss_one (ds_ret (db_and (DE.tr (de_callD G_is_integer hr tk (by decide) rfl (da_cons (de_var 0) da_nil))) (db_one (db_chain op_le op_le o_le o_le (DE.x (de_var 1)) (DE.x (de_var 0)) (DE.x (de_var 2)))))))
theorem ok_is_number_below (T : Bl mg) (C : Cn mg) (Z : Er P w K mg base ec) (D : DAt K mg "is_number_below" s_is_number_below P_is_number_below) (G_is_integer_from : DOk P w K mg base ec "is_integer_from" P_is_integer_from 2 3 f_is_integer_from) : DOk P w K mg base ec "is_number_below" P_is_number_below 3 2 f_is_number_below := by
  refine DAt.ok (n := 2) (p := 2) D sc_is_number_below rfl rfl fun f cdv A outer s H E hr => ?_
  have S := sc_is_number_below
  have hp := passes_of (X := cxOf (L2.CX P w) P w K mg base N_is_number_below "is_number_below" (defScope s_is_number_below) f cdv A outer s H E) rfl
  have tk := takes_of (X := cxOf (L2.CX P w) P w K mg base N_is_number_below "is_number_below" (defScope s_is_number_below) f cdv A outer s H E) (E := E) rfl rfl rfl rfl
  have hu := hu65 hr
  exact (dss_one (ds_ret (de_callD G_is_integer_from hr tk (by decide) rfl (da_cons (de_var 0) (da_cons de_int (da_cons (de_op op_subA o_sub (DE.x (de_var 1)) (DE.x de_int)) da_nil))))))
theorem ok_are_numbers_below (T : Bl mg) (C : Cn mg) (Z : Er P w K mg base ec) (D : DAt K mg "are_numbers_below" s_are_numbers_below P_are_numbers_below) (G_is_number_below : DOk P w K mg base ec "is_number_below" P_is_number_below 3 2 f_is_number_below) : DOk P w K mg base ec "are_numbers_below" P_are_numbers_below 4 2 f_are_numbers_below := by
  refine DAt.ok (n := 3) (p := 2) D sc_are_numbers_below rfl rfl fun f cdv A outer s H E hr => ?_
  have S := sc_are_numbers_below
  have hp := passes_of (X := cxOf (L2.CX P w) P w K mg base N_are_numbers_below "are_numbers_below" (defScope s_are_numbers_below) f cdv A outer s H E) rfl
  have tk := takes_of (X := cxOf (L2.CX P w) P w K mg base N_are_numbers_below "are_numbers_below" (defScope s_are_numbers_below) f cdv A outer s H E) (E := E) rfl rfl rfl rfl
  have hu := hu65 hr
  exact (dss_one (ds_ret (db_b1 (cr_all rfl) b_all rfl T.all (DE.x (DLi.d (dl_comp rfl S.nd (dix_seq (DE.x (de_var 0))) (blkOk_by (own := [("thing", 2)]) (N := N_are_numbers_below) (sc := defScope s_are_numbers_below) (by decide +kernel)) rfl (fun _ _ _ _ _ => (pg_name (i := 2) S.nd rfl (by first | exact .inl rfl | exact .inr rfl))) (fun _ _ _ _ _ => dts_nil) (fun _ _ _ _ _ => (de_callD G_is_number_below hr takes0 (by decide) rfl (da_cons (de_var 2) (da_cons (de_var 1) da_nil))))))) PyProof.Rows.boot_all)))
theorem ok_is_rule (T : Bl mg) (C : Cn mg) (Z : Er P w K mg base ec) (D : DAt K mg "is_rule" s_is_rule P_is_rule) (G_is_tuple_of : DOk P w K mg base ec "is_tuple_of" P_is_tuple_of 1 2 f_is_tuple_of) (G_are_numbers_below : DOk P w K mg base ec "are_numbers_below" P_are_numbers_below 4 2 f_are_numbers_below) : DOk P w K mg base ec "is_rule" P_is_rule 5 2 f_is_rule := by
  refine DAt.ok (n := 6) (p := 2) D sc_is_rule rfl rfl fun f cdv A outer s H E hr => ?_
  have S := sc_is_rule
  have hp := passes_of (X := cxOf (L2.CX P w) P w K mg base N_is_rule "is_rule" (defScope s_is_rule) f cdv A outer s H E) rfl
  have tk := takes_of (X := cxOf (L2.CX P w) P w K mg base N_is_rule "is_rule" (defScope s_is_rule) f cdv A outer s H E) (E := E) rfl rfl rfl rfl
  have hu := hu65 hr
  exact (dss_cons (ds_if (dt_not (DE.test (de_callD G_is_tuple_of hr tk (by decide) rfl (da_cons (de_var 1) (da_cons de_int da_nil))))) (dss_one (ds_ret de_bl)) dss_nil) (dss_cons (ds_put (g := (.many [2, 3, 4, 5])) (de_var 1) (pg_tup rfl (pgs_cons (pg_name (i := 2) S.nd rfl (by first | exact .inl rfl | exact .inr rfl)) (pgs_cons (pg_name (i := 3) S.nd rfl (by first | exact .inl rfl | exact .inr rfl)) (pgs_cons (pg_name (i := 4) S.nd rfl (by first | exact .inl rfl | exact .inr rfl)) (pgs_cons (pg_name (i := 5) S.nd rfl (by first | exact .inl rfl | exact .inr rfl)) pgs_nil)))))) (dss_cons (ds_if (DW.t (dw_or (dt_not (DE.test (de_callD G_are_numbers_below hr tk (by decide) rfl (da_cons (de_tup (da_cons (de_var 2) (da_cons (de_var 3) (da_cons (de_var 4) da_nil)))) (da_cons (de_var 0) da_nil))))) (dw_or1 (dt_cmp (op_eqQ hu) o_eqQ (DE.x (de_var 3)) (DE.x (de_var 4)) (nomark _))))) (dss_one (ds_ret de_bl)) dss_nil) (dss_one (ds_ret (db_and (DE.tr (de_callD G_is_tuple_of hr tk (by decide) rfl (da_cons (de_var 5) (da_cons (de_var 0) da_nil)))) (db_one (DE.tr (de_callD G_are_numbers_below hr tk (by decide) rfl (da_cons (de_var 5) (da_cons (de_var 0) da_nil)))))))))))
theorem ok_is_book (T : Bl mg) (C : Cn mg) (Z : Er P w K mg base ec) (D : DAt K mg "is_book" s_is_book P_is_book) (G_is_tuple_of : DOk P w K mg base ec "is_tuple_of" P_is_tuple_of 1 2 f_is_tuple_of) (G_is_integer_from : DOk P w K mg base ec "is_integer_from" P_is_integer_from 2 3 f_is_integer_from) (G_is_rule : DOk P w K mg base ec "is_rule" P_is_rule 5 2 f_is_rule) : DOk P w K mg base ec "is_book" P_is_book 6 1 f_is_book := by
  refine DAt.ok (n := 4) (p := 1) D sc_is_book rfl rfl fun f cdv A outer s H E hr => ?_
  have S := sc_is_book
  have hp := passes_of (X := cxOf (L2.CX P w) P w K mg base N_is_book "is_book" (defScope s_is_book) f cdv A outer s H E) rfl
  have tk := takes_of (X := cxOf (L2.CX P w) P w K mg base N_is_book "is_book" (defScope s_is_book) f cdv A outer s H E) (E := E) rfl rfl rfl rfl
  have hu := hu65 hr
  exact (dss_cons (ds_if (dt_not (DE.test (de_callD G_is_tuple_of hr tk (by decide) rfl (da_cons (de_var 0) (da_cons de_int da_nil))))) (dss_one (ds_ret de_bl)) dss_nil) (dss_cons (ds_put (g := (.many [1, 2])) (de_var 0) (pg_tup rfl (pgs_cons (pg_name (i := 1) S.nd rfl (by first | exact .inl rfl | exact .inr rfl)) (pgs_cons (pg_name (i := 2) S.nd rfl (by first | exact .inl rfl | exact .inr rfl)) pgs_nil)))) (dss_cons (ds_if (dt_not (DE.test (de_callD G_is_integer_from hr tk (by decide) rfl (da_cons (de_var 1) (da_cons de_int (da_cons (de_globI rfl C.c_MOST_STATES) da_nil)))))) (dss_one (ds_ret de_bl)) dss_nil) (dss_cons (ds_if (DW.t (dw_or (dt_not (DB.test (db_isi kind_tuple rfl T.isinstance rfl T.tuple (by decide +kernel) (DE.x (de_var 2))))) (dw_or1 (dt_cmp op_gt o_gt (DE.x (de_b1 call_len_seq b_len rfl T.len (DE.x (de_var 2)) PySem.boot_len)) (DE.x (de_globI rfl C.c_MOST_RULES)) (nomark _))))) (dss_one (ds_ret de_bl)) dss_nil) (dss_cons (ds_if (dt_not (DB.test (db_b1 (cr_all rfl) b_all rfl T.all (DE.x (DLi.d (dl_comp rfl S.nd (dix_seq (DE.x (de_var 2))) (blkOk_by (own := [("rule", 3)]) (N := N_is_book) (sc := defScope s_is_book) (by decide +kernel)) rfl (fun _ _ _ _ _ => (pg_name (i := 3) S.nd rfl (by first | exact .inl rfl | exact .inr rfl))) (fun _ _ _ _ _ => dts_nil) (fun _ _ _ _ _ => (de_callD G_is_rule hr takes0 (by decide) rfl (da_cons (de_var 1) (da_cons (de_var 3) da_nil))))))) PyProof.Rows.boot_all))) (dss_one (ds_ret de_bl)) dss_nil) (dss_one (ds_ret (db_cmp (op_eqQ hu) o_eqQ (DE.x (de_lenset hu rfl T.len rfl T.set (DE.x (de_var 2)))) (DE.x (de_b1 call_len_seq b_len rfl T.len (DE.x (de_var 2)) PySem.boot_len)) (nomark _)))))))))
theorem ok_check_book (T : Bl mg) (C : Cn mg) (Z : Er P w K mg base ec) (D : DAt K mg "check_book" s_check_book P_check_book) (G_is_book : DOk P w K mg base ec "is_book" P_is_book 6 1 f_is_book) : DOk P w K mg base ec "check_book" P_check_book 7 1 f_check_book := by
  refine DAt.ok (n := 1) (p := 1) D sc_check_book rfl rfl fun f cdv A outer s H E hr => ?_
  have S := sc_check_book
  have hp := passes_of (X := cxOf (L2.CX P w) P w K mg base N_check_book "check_book" (defScope s_check_book) f cdv A outer s H E) rfl
  have tk := takes_of (X := cxOf (L2.CX P w) P w K mg base N_check_book "check_book" (defScope s_check_book) f cdv A outer s H E) (E := E) rfl rfl rfl rfl
  have hu := hu65 hr
  exact (dss_one (ds_if (dt_not (DE.test (de_callD G_is_book hr tk (by decide) rfl (da_cons (de_var 0) da_nil)))) (dss_one (ds_raise (c := "BadBook") rfl tk ⟨Z.g_BadBook, Z.f_BadBook⟩ rfl)) dss_nil))
theorem ok_outcome_of (T : Bl mg) (C : Cn mg) (Z : Er P w K mg base ec) (D : DAt K mg "outcome_of" s_outcome_of P_outcome_of) (G_check_book : DOk P w K mg base ec "check_book" P_check_book 7 1 f_check_book) : DOk P w K mg base ec "outcome_of" P_outcome_of 8 1 f_outcome_of := by
  refine DAt.ok (n := 8) (p := 1) D sc_outcome_of rfl rfl fun f cdv A outer s H E hr => ?_
  have S := sc_outcome_of
  have hp := passes_of (X := cxOf (L2.CX P w) P w K mg base N_outcome_of "outcome_of" (defScope s_outcome_of) f cdv A outer s H E) rfl
  have tk := takes_of (X := cxOf (L2.CX P w) P w K mg base N_outcome_of "outcome_of" (defScope s_outcome_of) f cdv A outer s H E) (E := E) rfl rfl rfl rfl
  have hu := hu65 hr
  exact (dss_cons (ds_expr (de_callD G_check_book hr tk (by decide) rfl (da_cons (de_var 0) da_nil))) dss_unk)
theorem ok_outcome_holds (T : Bl mg) (C : Cn mg) (Z : Er P w K mg base ec) (D : DAt K mg "outcome_holds" s_outcome_holds P_outcome_holds) (G_check_book : DOk P w K mg base ec "check_book" P_check_book 7 1 f_check_book) : DOk P w K mg base ec "outcome_holds" P_outcome_holds 8 2 f_outcome_holds := by
  refine DAt.ok (n := 7) (p := 2) D sc_outcome_holds rfl rfl fun f cdv A outer s H E hr => ?_
  have S := sc_outcome_holds
  have hp := passes_of (X := cxOf (L2.CX P w) P w K mg base N_outcome_holds "outcome_holds" (defScope s_outcome_holds) f cdv A outer s H E) rfl
  have tk := takes_of (X := cxOf (L2.CX P w) P w K mg base N_outcome_holds "outcome_holds" (defScope s_outcome_holds) f cdv A outer s H E) (E := E) rfl rfl rfl rfl
  have hu := hu65 hr
  exact (dss_cons (ds_expr (de_callD G_check_book hr tk (by decide) rfl (da_cons (de_var 0) da_nil))) dss_unk)
theorem ok_are_parents (T : Bl mg) (C : Cn mg) (Z : Er P w K mg base ec) (D : DAt K mg "are_parents" s_are_parents P_are_parents) (G_is_integer_from : DOk P w K mg base ec "is_integer_from" P_is_integer_from 2 3 f_is_integer_from) : DOk P w K mg base ec "are_parents" P_are_parents 3 1 f_are_parents := by
  refine DAt.ok (n := 3) (p := 1) D sc_are_parents rfl rfl fun f cdv A outer s H E hr => ?_
  have S := sc_are_parents
  have hp := passes_of (X := cxOf (L2.CX P w) P w K mg base N_are_parents "are_parents" (defScope s_are_parents) f cdv A outer s H E) rfl
  have tk := takes_of (X := cxOf (L2.CX P w) P w K mg base N_are_parents "are_parents" (defScope s_are_parents) f cdv A outer s H E) (E := E) rfl rfl rfl rfl
  have hu := hu65 hr
  exact (dss_cons (ds_if (DW.t (dw_or (dt_not (DB.test (db_isi kind_tuple rfl T.isinstance rfl T.tuple (by decide +kernel) (DE.x (de_var 0))))) (dw_or1 (dt_cmp op_gt o_gt (DE.x (de_b1 call_len_seq b_len rfl T.len (DE.x (de_var 0)) PySem.boot_len)) (DE.x (de_globI rfl C.c_MOST_NODES)) (nomark _))))) (dss_one (ds_ret de_bl)) dss_nil) (dss_one (ds_ret (db_b1 (cr_all rfl) b_all rfl T.all (DE.x (DLi.d (dl_comp rfl S.nd (DI.x (di_enum rfl T.enumerate (de_var 0))) (blkOk_by (own := [("node", 1), ("parent", 2)]) (N := N_are_parents) (sc := defScope s_are_parents) (by decide +kernel)) rfl (fun _ _ _ _ _ => (pg_tup rfl (pgs_cons (pg_name (i := 1) S.nd rfl (by first | exact .inl rfl | exact .inr rfl)) (pgs_cons (pg_name (i := 2) S.nd rfl (by first | exact .inl rfl | exact .inr rfl)) pgs_nil)))) (fun _ _ _ _ _ => dts_nil) (fun _ _ _ _ _ => (de_callD G_is_integer_from hr takes0 (by decide) rfl (da_cons (de_var 2) (da_cons (de_globI rfl C.c_NO_PARENT) (da_cons (de_op op_subA o_sub (DE.x (de_var 1)) (DE.x de_int)) da_nil)))))))) PyProof.Rows.boot_all))))
theorem ok_is_tree_of (T : Bl mg) (C : Cn mg) (Z : Er P w K mg base ec) (D : DAt K mg "is_tree_of" s_is_tree_of P_is_tree_of) (G_is_tuple_of : DOk P w K mg base ec "is_tuple_of" P_is_tuple_of 1 2 f_is_tuple_of) (G_are_parents : DOk P w K mg base ec "are_parents" P_are_parents 3 1 f_are_parents) (G_is_number_below : DOk P w K mg base ec "is_number_below" P_is_number_below 3 2 f_is_number_below) : DOk P w K mg base ec "is_tree_of" P_is_tree_of 4 2 f_is_tree_of := by
  refine DAt.ok (n := 5) (p := 2) D sc_is_tree_of rfl rfl fun f cdv A outer s H E hr => ?_
  have S := sc_is_tree_of
  have hp := passes_of (X := cxOf (L2.CX P w) P w K mg base N_is_tree_of "is_tree_of" (defScope s_is_tree_of) f cdv A outer s H E) rfl
  have tk := takes_of (X := cxOf (L2.CX P w) P w K mg base N_is_tree_of "is_tree_of" (defScope s_is_tree_of) f cdv A outer s H E) (E := E) rfl rfl rfl rfl
  have hu := hu65 hr
  exact (dss_cons (ds_if (dt_not (DE.test (de_callD G_is_tuple_of hr tk (by decide) rfl (da_cons (de_var 1) (da_cons de_int da_nil))))) (dss_one (ds_ret de_bl)) dss_nil) (dss_cons (ds_put (g := (.many [2, 3, 4])) (de_var 1) (pg_tup rfl (pgs_cons (pg_name (i := 2) S.nd rfl (by first | exact .inl rfl | exact .inr rfl)) (pgs_cons (pg_name (i := 3) S.nd rfl (by first | exact .inl rfl | exact .inr rfl)) (pgs_cons (pg_name (i := 4) S.nd rfl (by first | exact .inl rfl | exact .inr rfl)) pgs_nil))))) (dss_cons (ds_if (DW.t (dw_or (dt_not (DE.test (de_callD G_is_number_below hr tk (by decide) rfl (da_cons (de_var 2) (da_cons (de_ix (DE.x (de_var 0)) (DE.x de_int)) da_nil))))) (dw_or1 (dt_not (DE.test (de_callD G_are_parents hr tk (by decide) rfl (da_cons (de_var 3) da_nil))))))) (dss_one (ds_ret de_bl)) dss_nil) (dss_one (ds_ret (de_callD G_is_tuple_of hr tk (by decide) rfl (da_cons (de_var 4) (da_cons (de_b1 call_len_seq b_len rfl T.len (DE.x (de_var 3)) PySem.boot_len) da_nil))))))))
theorem ok_is_tree (T : Bl mg) (C : Cn mg) (Z : Er P w K mg base ec) (D : DAt K mg "is_tree" s_is_tree P_is_tree) (G_check_book : DOk P w K mg base ec "check_book" P_check_book 7 1 f_check_book) (G_are_numbers_below : DOk P w K mg base ec "are_numbers_below" P_are_numbers_below 4 2 f_are_numbers_below) (G_is_tree_of : DOk P w K mg base ec "is_tree_of" P_is_tree_of 4 2 f_is_tree_of) : DOk P w K mg base ec "is_tree" P_is_tree 8 2 f_is_tree := by
  refine DAt.ok (n := 2) (p := 2) D sc_is_tree rfl rfl fun f cdv A outer s H E hr => ?_
  have S := sc_is_tree
  have hp := passes_of (X := cxOf (L2.CX P w) P w K mg base N_is_tree "is_tree" (defScope s_is_tree) f cdv A outer s H E) rfl
  have tk := takes_of (X := cxOf (L2.CX P w) P w K mg base N_is_tree "is_tree" (defScope s_is_tree) f cdv A outer s H E) (E := E) rfl rfl rfl rfl
  have hu := hu65 hr
  exact (dss_cons (ds_expr (de_callD G_check_book hr tk (by decide) rfl (da_cons (de_var 0) da_nil))) (dss_one (ds_ret (db_and (DE.tr (de_callD G_is_tree_of hr tk (by decide) rfl (da_cons (de_var 0) (da_cons (de_var 1) da_nil)))) (db_one (DE.tr (de_callD G_are_numbers_below hr tk (by decide) rfl (da_cons (de_ix (DE.x (de_var 1)) (DE.x de_int)) (da_cons (de_ix (DE.x (de_var 0)) (DE.x de_int)) da_nil)))))))))
theorem ok_check_tree (T : Bl mg) (C : Cn mg) (Z : Er P w K mg base ec) (D : DAt K mg "check_tree" s_check_tree P_check_tree) (G_is_tree : DOk P w K mg base ec "is_tree" P_is_tree 8 2 f_is_tree) : DOk P w K mg base ec "check_tree" P_check_tree 9 2 f_check_tree := by
  refine DAt.ok (n := 2) (p := 2) D sc_check_tree rfl rfl fun f cdv A outer s H E hr => ?_
  have S := sc_check_tree
  have hp := passes_of (X := cxOf (L2.CX P w) P w K mg base N_check_tree "check_tree" (defScope s_check_tree) f cdv A outer s H E) rfl
  have tk := takes_of (X := cxOf (L2.CX P w) P w K mg base N_check_tree "check_tree" (defScope s_check_tree) f cdv A outer s H E) (E := E) rfl rfl rfl rfl
  have hu := hu65 hr
  exact (dss_one (ds_if (dt_not (DE.test (de_callD G_is_tree hr tk (by decide) rfl (da_cons (de_var 0) (da_cons (de_var 1) da_nil))))) (dss_one (ds_raise (c := "BadTree") rfl tk ⟨Z.g_BadTree, Z.f_BadTree⟩ rfl)) dss_nil))
theorem ok_rest_of (T : Bl mg) (C : Cn mg) (Z : Er P w K mg base ec) (D : DAt K mg "rest_of" s_rest_of P_rest_of) (G_check_tree : DOk P w K mg base ec "check_tree" P_check_tree 9 2 f_check_tree) : DOk P w K mg base ec "rest_of" P_rest_of 10 2 f_rest_of := by
  refine DAt.ok (n := 2) (p := 2) D sc_rest_of rfl rfl fun f cdv A outer s H E hr => ?_
  have S := sc_rest_of
  have hp := passes_of (X := cxOf (L2.CX P w) P w K mg base N_rest_of "rest_of" (defScope s_rest_of) f cdv A outer s H E) rfl
  have tk := takes_of (X := cxOf (L2.CX P w) P w K mg base N_rest_of "rest_of" (defScope s_rest_of) f cdv A outer s H E) (E := E) rfl rfl rfl rfl
  have hu := hu65 hr
  exact (dss_cons (ds_expr (de_callD G_check_tree hr tk (by decide) rfl (da_cons (de_var 0) (da_cons (de_var 1) da_nil)))) dss_unk)
theorem ok_run_steps (T : Bl mg) (C : Cn mg) (Z : Er P w K mg base ec) (D : DAt K mg "run_steps" s_run_steps P_run_steps) (G_check_tree : DOk P w K mg base ec "check_tree" P_check_tree 9 2 f_check_tree) : DOk P w K mg base ec "run_steps" P_run_steps 10 3 f_run_steps := by
  refine DAt.ok (n := 5) (p := 3) D sc_run_steps rfl rfl fun f cdv A outer s H E hr => ?_
  have S := sc_run_steps
  have hp := passes_of (X := cxOf (L2.CX P w) P w K mg base N_run_steps "run_steps" (defScope s_run_steps) f cdv A outer s H E) rfl
  have tk := takes_of (X := cxOf (L2.CX P w) P w K mg base N_run_steps "run_steps" (defScope s_run_steps) f cdv A outer s H E) (E := E) rfl rfl rfl rfl
  have hu := hu65 hr
  exact (dss_cons (ds_expr (de_callD G_check_tree hr tk (by decide) rfl (da_cons (de_var 0) (da_cons (de_var 1) da_nil)))) dss_unk)
theorem ok_join_runs (T : Bl mg) (C : Cn mg) (Z : Er P w K mg base ec) (D : DAt K mg "join_runs" s_join_runs P_join_runs) (G_run_steps : DOk P w K mg base ec "run_steps" P_run_steps 10 3 f_run_steps) : DOk P w K mg base ec "join_runs" P_join_runs 11 4 f_join_runs := by
  refine DAt.ok (n := 6) (p := 4) D sc_join_runs rfl rfl fun f cdv A outer s H E hr => ?_
  have S := sc_join_runs
  have hp := passes_of (X := cxOf (L2.CX P w) P w K mg base N_join_runs "join_runs" (defScope s_join_runs) f cdv A outer s H E) rfl
  have tk := takes_of (X := cxOf (L2.CX P w) P w K mg base N_join_runs "join_runs" (defScope s_join_runs) f cdv A outer s H E) (E := E) rfl rfl rfl rfl
  have hu := hu65 hr
  exact (dss_cons (ds_set (i := 4) S.nd rfl (by first | exact .inl rfl | exact .inr rfl) (de_callD G_run_steps hr tk (by decide) rfl (da_cons (de_var 0) (da_cons (de_var 1) (da_cons (de_var 2) da_nil))))) dss_unk)
theorem ok_is_reader (T : Bl mg) (C : Cn mg) (Z : Er P w K mg base ec) (D : DAt K mg "is_reader" s_is_reader P_is_reader) (G_check_book : DOk P w K mg base ec "check_book" P_check_book 7 1 f_check_book) : DOk P w K mg base ec "is_reader" P_is_reader 8 2 f_is_reader := by
  refine DAt.ok (n := 2) (p := 2) D sc_is_reader rfl rfl fun f cdv A outer s H E hr => ?_
  have S := sc_is_reader
  have hp := passes_of (X := cxOf (L2.CX P w) P w K mg base N_is_reader "is_reader" (defScope s_is_reader) f cdv A outer s H E) rfl
  have tk := takes_of (X := cxOf (L2.CX P w) P w K mg base N_is_reader "is_reader" (defScope s_is_reader) f cdv A outer s H E) (E := E) rfl rfl rfl rfl
  have hu := hu65 hr
  exact (dss_cons (ds_expr (de_callD G_check_book hr tk (by decide) rfl (da_cons (de_var 0) da_nil))) dss_unk)
theorem ok_reader_of (T : Bl mg) (C : Cn mg) (Z : Er P w K mg base ec) (D : DAt K mg "reader_of" s_reader_of P_reader_of) (G_check_book : DOk P w K mg base ec "check_book" P_check_book 7 1 f_check_book) : DOk P w K mg base ec "reader_of" P_reader_of 8 1 f_reader_of := by
  refine DAt.ok (n := 1) (p := 1) D sc_reader_of rfl rfl fun f cdv A outer s H E hr => ?_
  have S := sc_reader_of
  have hp := passes_of (X := cxOf (L2.CX P w) P w K mg base N_reader_of "reader_of" (defScope s_reader_of) f cdv A outer s H E) rfl
  have tk := takes_of (X := cxOf (L2.CX P w) P w K mg base N_reader_of "reader_of" (defScope s_reader_of) f cdv A outer s H E) (E := E) rfl rfl rfl rfl
  have hu := hu65 hr
  exact (dss_cons (ds_expr (de_callD G_check_book hr tk (by decide) rfl (da_cons (de_var 0) da_nil))) dss_unk)
theorem ok_reader_holds (T : Bl mg) (C : Cn mg) (Z : Er P w K mg base ec) (D : DAt K mg "reader_holds" s_reader_holds P_reader_holds) (G_check_book : DOk P w K mg base ec "check_book" P_check_book 7 1 f_check_book) : DOk P w K mg base ec "reader_holds" P_reader_holds 8 2 f_reader_holds := by
  refine DAt.ok (n := 2) (p := 2) D sc_reader_holds rfl rfl fun f cdv A outer s H E hr => ?_
  have S := sc_reader_holds
  have hp := passes_of (X := cxOf (L2.CX P w) P w K mg base N_reader_holds "reader_holds" (defScope s_reader_holds) f cdv A outer s H E) rfl
  have tk := takes_of (X := cxOf (L2.CX P w) P w K mg base N_reader_holds "reader_holds" (defScope s_reader_holds) f cdv A outer s H E) (E := E) rfl rfl rfl rfl
  have hu := hu65 hr
  exact (dss_cons (ds_expr (de_callD G_check_book hr tk (by decide) rfl (da_cons (de_var 0) da_nil))) dss_unk)
theorem ok_two_readers (T : Bl mg) (C : Cn mg) (Z : Er P w K mg base ec) (D : DAt K mg "two_readers" s_two_readers P_two_readers) (G_check_book : DOk P w K mg base ec "check_book" P_check_book 7 1 f_check_book) : DOk P w K mg base ec "two_readers" P_two_readers 8 2 f_two_readers := by
  refine DAt.ok (n := 2) (p := 2) D sc_two_readers rfl rfl fun f cdv A outer s H E hr => ?_
  have S := sc_two_readers
  have hp := passes_of (X := cxOf (L2.CX P w) P w K mg base N_two_readers "two_readers" (defScope s_two_readers) f cdv A outer s H E) rfl
  have tk := takes_of (X := cxOf (L2.CX P w) P w K mg base N_two_readers "two_readers" (defScope s_two_readers) f cdv A outer s H E) (E := E) rfl rfl rfl rfl
  have hu := hu65 hr
  exact (dss_cons (ds_expr (de_callD G_check_book hr tk (by decide) rfl (da_cons (de_var 0) da_nil))) (dss_cons (ds_expr (de_callD G_check_book hr tk (by decide) rfl (da_cons (de_var 1) da_nil))) (dss_cons (ds_if (dt_cmp (op_neQ hu) o_neQ (DE.x (de_ix (DE.x (de_var 0)) (DE.x de_int))) (DE.x (de_ix (DE.x (de_var 1)) (DE.x de_int))) (nomark _)) (dss_one (ds_raise (c := "UnlikeBooks") rfl tk ⟨Z.g_UnlikeBooks, Z.f_UnlikeBooks⟩ rfl)) dss_nil) dss_unk)))
theorem ok_first_difference (T : Bl mg) (C : Cn mg) (Z : Er P w K mg base ec) (D : DAt K mg "first_difference" s_first_difference P_first_difference) (G_two_readers : DOk P w K mg base ec "two_readers" P_two_readers 8 2 f_two_readers) : DOk P w K mg base ec "first_difference" P_first_difference 9 2 f_first_difference := by
  refine DAt.ok (n := 4) (p := 2) D sc_first_difference rfl rfl fun f cdv A outer s H E hr => ?_
  have S := sc_first_difference
  have hp := passes_of (X := cxOf (L2.CX P w) P w K mg base N_first_difference "first_difference" (defScope s_first_difference) f cdv A outer s H E) rfl
  have tk := takes_of (X := cxOf (L2.CX P w) P w K mg base N_first_difference "first_difference" (defScope s_first_difference) f cdv A outer s H E) (E := E) rfl rfl rfl rfl
  have hu := hu65 hr
  exact (dss_cons (ds_put (g := (.many [2, 3])) (de_callD G_two_readers hr tk (by decide) rfl (da_cons (de_var 0) (da_cons (de_var 1) da_nil))) (pg_tup rfl (pgs_cons (pg_name (i := 2) S.nd rfl (by first | exact .inl rfl | exact .inr rfl)) (pgs_cons (pg_name (i := 3) S.nd rfl (by first | exact .inl rfl | exact .inr rfl)) pgs_nil)))) dss_unk)
theorem ok_first_clash (T : Bl mg) (C : Cn mg) (Z : Er P w K mg base ec) (D : DAt K mg "first_clash" s_first_clash P_first_clash) (G_two_readers : DOk P w K mg base ec "two_readers" P_two_readers 8 2 f_two_readers) : DOk P w K mg base ec "first_clash" P_first_clash 9 2 f_first_clash := by
  refine DAt.ok (n := 6) (p := 2) D sc_first_clash rfl rfl fun f cdv A outer s H E hr => ?_
  have S := sc_first_clash
  have hp := passes_of (X := cxOf (L2.CX P w) P w K mg base N_first_clash "first_clash" (defScope s_first_clash) f cdv A outer s H E) rfl
  have tk := takes_of (X := cxOf (L2.CX P w) P w K mg base N_first_clash "first_clash" (defScope s_first_clash) f cdv A outer s H E) (E := E) rfl rfl rfl rfl
  have hu := hu65 hr
  exact (dss_cons (ds_put (g := (.many [2, 3])) (de_callD G_two_readers hr tk (by decide) rfl (da_cons (de_var 0) (da_cons (de_var 1) da_nil))) (pg_tup rfl (pgs_cons (pg_name (i := 2) S.nd rfl (by first | exact .inl rfl | exact .inr rfl)) (pgs_cons (pg_name (i := 3) S.nd rfl (by first | exact .inl rfl | exact .inr rfl)) pgs_nil)))) dss_unk)
theorem ok_law_first_doors (T : Bl mg) (C : Cn mg) (Z : Er P w K mg base ec) (D : DAt K mg "_law_first_doors" s_law_first_doors P_law_first_doors) (G_outcome_of : DOk P w K mg base ec "outcome_of" P_outcome_of 8 1 f_outcome_of) (G_outcome_holds : DOk P w K mg base ec "outcome_holds" P_outcome_holds 8 2 f_outcome_holds) (G_rest_of : DOk P w K mg base ec "rest_of" P_rest_of 10 2 f_rest_of) (G_join_runs : DOk P w K mg base ec "join_runs" P_join_runs 11 4 f_join_runs) (G_is_reader : DOk P w K mg base ec "is_reader" P_is_reader 8 2 f_is_reader) (G_reader_of : DOk P w K mg base ec "reader_of" P_reader_of 8 1 f_reader_of) (G_reader_holds : DOk P w K mg base ec "reader_holds" P_reader_holds 8 2 f_reader_holds) (G_first_difference : DOk P w K mg base ec "first_difference" P_first_difference 9 2 f_first_difference) (G_first_clash : DOk P w K mg base ec "first_clash" P_first_clash 9 2 f_first_clash) : DOk P w K mg base ec "_law_first_doors" P_law_first_doors 12 3 f_law_first_doors := by
  refine DAt.ok (n := 5) (p := 3) D sc_law_first_doors rfl rfl fun f cdv A outer s H E hr => ?_
  have S := sc_law_first_doors
  have hp := passes_of (X := cxOf (L2.CX P w) P w K mg base N_law_first_doors "_law_first_doors" (defScope s_law_first_doors) f cdv A outer s H E) rfl
  have tk := takes_of (X := cxOf (L2.CX P w) P w K mg base N_law_first_doors "_law_first_doors" (defScope s_law_first_doors) f cdv A outer s H E) (E := E) rfl rfl rfl rfl
  have hu := hu65 hr
  exact (dss_cons (ds_set (i := 3) S.nd rfl (by first | exact .inl rfl | exact .inr rfl) (de_ix (DE.x (de_var 2)) (DE.x de_int))) (dss_cons (ds_set (i := 4) S.nd rfl (by first | exact .inl rfl | exact .inr rfl) (de_tup (da_cons de_int (da_cons (de_tup da_nil) (da_cons (de_tup da_nil) da_nil))))) (dss_one (ds_if (dt_cmp (op_eqQ hu) o_eqQ (DE.x (de_var 0)) (DE.x de_int) (nomark _)) (dss_one (ds_expr (de_callD G_outcome_of hr tk (by decide) rfl (da_cons (de_var 1) da_nil)))) (dss_one (ds_if (dt_cmp (op_eqQ hu) o_eqQ (DE.x (de_var 0)) (DE.x de_int) (nomark _)) (dss_one (ds_expr (de_callD G_outcome_holds hr tk (by decide) rfl (da_cons (de_var 1) (da_cons (de_tup (da_cons de_str (da_cons (DLi.d (dl_lst da_nil)) da_nil))) da_nil))))) (dss_one (ds_if (dt_cmp (op_eqQ hu) o_eqQ (DE.x (de_var 0)) (DE.x de_int) (nomark _)) (dss_one (ds_expr (de_callD G_rest_of hr tk (by decide) rfl (da_cons (de_var 1) (da_cons (de_var 4) da_nil))))) (dss_one (ds_if (dt_cmp (op_eqQ hu) o_eqQ (DE.x (de_var 0)) (DE.x de_int) (nomark _)) (dss_one (ds_expr (de_callD G_join_runs hr tk (by decide) rfl (da_cons (de_var 1) (da_cons (de_var 4) (da_cons (DLi.d (dl_lst da_nil)) (da_cons (DLi.d (dl_lst da_nil)) da_nil))))))) (dss_one (ds_if (dt_cmp (op_eqQ hu) o_eqQ (DE.x (de_var 0)) (DE.x de_int) (nomark _)) (dss_one (ds_expr (de_callD G_is_reader hr tk (by decide) rfl (da_cons (de_var 1) (da_cons (de_tup (da_cons (de_op op_repTx o_repT (DE.x (de_tup (da_cons de_int da_nil))) (DE.x (de_var 3))) (da_cons (de_tup (da_cons (de_op op_repTx o_repT (DE.x (de_tup (da_cons (de_tup (da_cons de_int (da_cons de_int da_nil))) da_nil))) (DE.x (de_var 3))) da_nil)) da_nil))) da_nil))))) (dss_one (ds_if (dt_cmp (op_eqQ hu) o_eqQ (DE.x (de_var 0)) (DE.x de_int) (nomark _)) (dss_one (ds_expr (de_callD G_reader_of hr tk (by decide) rfl (da_cons (de_var 1) da_nil)))) (dss_one (ds_if (dt_cmp (op_eqQ hu) o_eqQ (DE.x (de_var 0)) (DE.x de_int) (nomark _)) (dss_one (ds_expr (de_callD G_reader_holds hr tk (by decide) rfl (da_cons (de_var 1) (da_cons (de_tup (da_cons (de_op op_repTx o_repT (DE.x (de_tup (da_cons de_int da_nil))) (DE.x (de_var 3))) (da_cons (de_tup (da_cons (de_op op_repTx o_repT (DE.x (de_tup (da_cons (de_tup (da_cons de_int (da_cons de_int da_nil))) da_nil))) (DE.x (de_var 3))) da_nil)) da_nil))) da_nil))))) (dss_one (ds_if (dt_cmp (op_eqQ hu) o_eqQ (DE.x (de_var 0)) (DE.x de_int) (nomark _)) (dss_one (ds_expr (de_callD G_first_difference hr tk (by decide) rfl (da_cons (de_var 1) (da_cons (de_var 2) da_nil))))) (dss_one (ds_if (dt_cmp (op_eqQ hu) o_eqQ (DE.x (de_var 0)) (DE.x de_int) (nomark _)) (dss_one (ds_expr (de_callD G_first_difference hr tk (by decide) rfl (da_cons (de_var 2) (da_cons (de_var 1) da_nil))))) (dss_one (ds_expr (de_callD G_first_clash hr tk (by decide) rfl (da_cons (de_var 1) (da_cons (de_var 2) da_nil)))))))))))))))))))))))))
theorem ok_spare_rules (T : Bl mg) (C : Cn mg) (Z : Er P w K mg base ec) (D : DAt K mg "spare_rules" s_spare_rules P_spare_rules) (G_check_book : DOk P w K mg base ec "check_book" P_check_book 7 1 f_check_book) : DOk P w K mg base ec "spare_rules" P_spare_rules 8 1 f_spare_rules := by
  refine DAt.ok (n := 3) (p := 1) D sc_spare_rules rfl rfl fun f cdv A outer s H E hr => ?_
  have S := sc_spare_rules
  have hp := passes_of (X := cxOf (L2.CX P w) P w K mg base N_spare_rules "spare_rules" (defScope s_spare_rules) f cdv A outer s H E) rfl
  have tk := takes_of (X := cxOf (L2.CX P w) P w K mg base N_spare_rules "spare_rules" (defScope s_spare_rules) f cdv A outer s H E) (E := E) rfl rfl rfl rfl
  have hu := hu65 hr
  exact (dss_cons (ds_expr (de_callD G_check_book hr tk (by decide) rfl (da_cons (de_var 0) da_nil))) dss_unk)
theorem ok_check_few_rules (T : Bl mg) (C : Cn mg) (Z : Er P w K mg base ec) (D : DAt K mg "check_few_rules" s_check_few_rules P_check_few_rules) (G_check_book : DOk P w K mg base ec "check_book" P_check_book 7 1 f_check_book) : DOk P w K mg base ec "check_few_rules" P_check_few_rules 8 1 f_check_few_rules := by
  refine DAt.ok (n := 1) (p := 1) D sc_check_few_rules rfl rfl fun f cdv A outer s H E hr => ?_
  have S := sc_check_few_rules
  have hp := passes_of (X := cxOf (L2.CX P w) P w K mg base N_check_few_rules "check_few_rules" (defScope s_check_few_rules) f cdv A outer s H E) rfl
  have tk := takes_of (X := cxOf (L2.CX P w) P w K mg base N_check_few_rules "check_few_rules" (defScope s_check_few_rules) f cdv A outer s H E) (E := E) rfl rfl rfl rfl
  have hu := hu65 hr
  exact (dss_cons (ds_expr (de_callD G_check_book hr tk (by decide) rfl (da_cons (de_var 0) da_nil))) dss_unk)
theorem ok_fewest_rules (T : Bl mg) (C : Cn mg) (Z : Er P w K mg base ec) (D : DAt K mg "fewest_rules" s_fewest_rules P_fewest_rules) (G_check_few_rules : DOk P w K mg base ec "check_few_rules" P_check_few_rules 8 1 f_check_few_rules) : DOk P w K mg base ec "fewest_rules" P_fewest_rules 9 1 f_fewest_rules := by
  refine DAt.ok (n := 5) (p := 1) D sc_fewest_rules rfl rfl fun f cdv A outer s H E hr => ?_
  have S := sc_fewest_rules
  have hp := passes_of (X := cxOf (L2.CX P w) P w K mg base N_fewest_rules "fewest_rules" (defScope s_fewest_rules) f cdv A outer s H E) rfl
  have tk := takes_of (X := cxOf (L2.CX P w) P w K mg base N_fewest_rules "fewest_rules" (defScope s_fewest_rules) f cdv A outer s H E) (E := E) rfl rfl rfl rfl
  have hu := hu65 hr
  exact (dss_cons (ds_expr (de_callD G_check_few_rules hr tk (by decide) rfl (da_cons (de_var 0) da_nil))) dss_unk)
theorem ok_fewest_removals (T : Bl mg) (C : Cn mg) (Z : Er P w K mg base ec) (D : DAt K mg "fewest_removals" s_fewest_removals P_fewest_removals) (G_check_few_rules : DOk P w K mg base ec "check_few_rules" P_check_few_rules 8 1 f_check_few_rules) : DOk P w K mg base ec "fewest_removals" P_fewest_removals 9 1 f_fewest_removals := by
  refine DAt.ok (n := 2) (p := 1) D sc_fewest_removals rfl rfl fun f cdv A outer s H E hr => ?_
  have S := sc_fewest_removals
  have hp := passes_of (X := cxOf (L2.CX P w) P w K mg base N_fewest_removals "fewest_removals" (defScope s_fewest_removals) f cdv A outer s H E) rfl
  have tk := takes_of (X := cxOf (L2.CX P w) P w K mg base N_fewest_removals "fewest_removals" (defScope s_fewest_removals) f cdv A outer s H E) (E := E) rfl rfl rfl rfl
  have hu := hu65 hr
  exact (dss_cons (ds_expr (de_callD G_check_few_rules hr tk (by decide) rfl (da_cons (de_var 0) da_nil))) dss_unk)
theorem ok_check_settled_node (T : Bl mg) (C : Cn mg) (Z : Er P w K mg base ec) (D : DAt K mg "check_settled_node" s_check_settled_node P_check_settled_node) (G_check_tree : DOk P w K mg base ec "check_tree" P_check_tree 9 2 f_check_tree) : DOk P w K mg base ec "check_settled_node" P_check_settled_node 10 4 f_check_settled_node := by
  refine DAt.ok (n := 4) (p := 4) D sc_check_settled_node rfl rfl fun f cdv A outer s H E hr => ?_
  have S := sc_check_settled_node
  have hp := passes_of (X := cxOf (L2.CX P w) P w K mg base N_check_settled_node "check_settled_node" (defScope s_check_settled_node) f cdv A outer s H E) rfl
  have tk := takes_of (X := cxOf (L2.CX P w) P w K mg base N_check_settled_node "check_settled_node" (defScope s_check_settled_node) f cdv A outer s H E) (E := E) rfl rfl rfl rfl
  have hu := hu65 hr
  exact (dss_cons (ds_expr (de_callD G_check_tree hr tk (by decide) rfl (da_cons (de_var 0) (da_cons (de_var 1) da_nil)))) dss_unk)
theorem ok_changed_nodes (T : Bl mg) (C : Cn mg) (Z : Er P w K mg base ec) (D : DAt K mg "changed_nodes" s_changed_nodes P_changed_nodes) (G_check_settled_node : DOk P w K mg base ec "check_settled_node" P_check_settled_node 10 4 f_check_settled_node) : DOk P w K mg base ec "changed_nodes" P_changed_nodes 11 4 f_changed_nodes := by
  refine DAt.ok (n := 7) (p := 4) D sc_changed_nodes rfl rfl fun f cdv A outer s H E hr => ?_
  have S := sc_changed_nodes
  have hp := passes_of (X := cxOf (L2.CX P w) P w K mg base N_changed_nodes "changed_nodes" (defScope s_changed_nodes) f cdv A outer s H E) rfl
  have tk := takes_of (X := cxOf (L2.CX P w) P w K mg base N_changed_nodes "changed_nodes" (defScope s_changed_nodes) f cdv A outer s H E) (E := E) rfl rfl rfl rfl
  have hu := hu65 hr
  exact (dss_cons (ds_expr (de_callD G_check_settled_node hr tk (by decide) rfl (da_cons (de_var 0) (da_cons (de_var 1) (da_cons (de_var 2) (da_cons (de_var 3) da_nil)))))) dss_unk)
theorem ok_change_reach (T : Bl mg) (C : Cn mg) (Z : Er P w K mg base ec) (D : DAt K mg "change_reach" s_change_reach P_change_reach) (G_reader_of : DOk P w K mg base ec "reader_of" P_reader_of 8 1 f_reader_of) : DOk P w K mg base ec "change_reach" P_change_reach 9 1 f_change_reach := by
  refine DAt.ok (n := 7) (p := 1) D sc_change_reach rfl rfl fun f cdv A outer s H E hr => ?_
  have S := sc_change_reach
  have hp := passes_of (X := cxOf (L2.CX P w) P w K mg base N_change_reach "change_reach" (defScope s_change_reach) f cdv A outer s H E) rfl
  have tk := takes_of (X := cxOf (L2.CX P w) P w K mg base N_change_reach "change_reach" (defScope s_change_reach) f cdv A outer s H E) (E := E) rfl rfl rfl rfl
  have hu := hu65 hr
  exact (dss_cons (ds_set (i := 1) S.nd rfl (by first | exact .inl rfl | exact .inr rfl) (de_callD G_reader_of hr tk (by decide) rfl (da_cons (de_var 0) da_nil))) dss_unk)
theorem ok_pair_ranks (T : Bl mg) (C : Cn mg) (Z : Er P w K mg base ec) (D : DAt K mg "pair_ranks" s_pair_ranks P_pair_ranks) : DOk P w K mg base ec "pair_ranks" P_pair_ranks 1 1 f_pair_ranks := by
  refine DAt.ok (n := 9) (p := 1) D sc_pair_ranks rfl rfl fun f cdv A outer s H E hr => ?_
  have S := sc_pair_ranks
  have hp := passes_of (X := cxOf (L2.CX P w) P w K mg base N_pair_ranks "pair_ranks" (defScope s_pair_ranks) f cdv A outer s H E) rfl
  have tk := takes_of (X := cxOf (L2.CX P w) P w K mg base N_pair_ranks "pair_ranks" (defScope s_pair_ranks) f cdv A outer s H E) (E := E) rfl rfl rfl rfl
  have hu := hu65 hr
  exact dss_unk
theorem ok_reach_ranks (T : Bl mg) (C : Cn mg) (Z : Er P w K mg base ec) (D : DAt K mg "reach_ranks" s_reach_ranks P_reach_ranks) (G_reader_of : DOk P w K mg base ec "reader_of" P_reader_of 8 1 f_reader_of) (G_pair_ranks : DOk P w K mg base ec "pair_ranks" P_pair_ranks 1 1 f_pair_ranks) : DOk P w K mg base ec "reach_ranks" P_reach_ranks 9 1 f_reach_ranks := by
  refine DAt.ok (n := 4) (p := 1) D sc_reach_ranks rfl rfl fun f cdv A outer s H E hr => ?_
  have S := sc_reach_ranks
  have hp := passes_of (X := cxOf (L2.CX P w) P w K mg base N_reach_ranks "reach_ranks" (defScope s_reach_ranks) f cdv A outer s H E) rfl
  have tk := takes_of (X := cxOf (L2.CX P w) P w K mg base N_reach_ranks "reach_ranks" (defScope s_reach_ranks) f cdv A outer s H E) (E := E) rfl rfl rfl rfl
  have hu := hu65 hr
  exact (dss_cons (ds_set (i := 1) S.nd rfl (by first | exact .inl rfl | exact .inr rfl) (de_callD G_pair_ranks hr tk (by decide) rfl (da_cons (de_ix (DE.x (de_callD G_reader_of hr tk (by decide) rfl (da_cons (de_var 0) da_nil))) (DE.x de_int)) da_nil))) dss_unk)
theorem ok_touched_states (T : Bl mg) (C : Cn mg) (Z : Er P w K mg base ec) (D : DAt K mg "touched_states" s_touched_states P_touched_states) (G_check_book : DOk P w K mg base ec "check_book" P_check_book 7 1 f_check_book) : DOk P w K mg base ec "touched_states" P_touched_states 8 2 f_touched_states := by
  refine DAt.ok (n := 12) (p := 2) D sc_touched_states rfl rfl fun f cdv A outer s H E hr => ?_
  have S := sc_touched_states
  have hp := passes_of (X := cxOf (L2.CX P w) P w K mg base N_touched_states "touched_states" (defScope s_touched_states) f cdv A outer s H E) rfl
  have tk := takes_of (X := cxOf (L2.CX P w) P w K mg base N_touched_states "touched_states" (defScope s_touched_states) f cdv A outer s H E) (E := E) rfl rfl rfl rfl
  have hu := hu65 hr
  exact (dss_cons (ds_expr (de_callD G_check_book hr tk (by decide) rfl (da_cons (de_var 0) da_nil))) dss_unk)
theorem ok_law_later_doors (T : Bl mg) (C : Cn mg) (Z : Er P w K mg base ec) (D : DAt K mg "_law_later_doors" s_law_later_doors P_law_later_doors) (G_first_clash : DOk P w K mg base ec "first_clash" P_first_clash 9 2 f_first_clash) (G_spare_rules : DOk P w K mg base ec "spare_rules" P_spare_rules 8 1 f_spare_rules) (G_fewest_rules : DOk P w K mg base ec "fewest_rules" P_fewest_rules 9 1 f_fewest_rules) (G_fewest_removals : DOk P w K mg base ec "fewest_removals" P_fewest_removals 9 1 f_fewest_removals) (G_changed_nodes : DOk P w K mg base ec "changed_nodes" P_changed_nodes 11 4 f_changed_nodes) (G_change_reach : DOk P w K mg base ec "change_reach" P_change_reach 9 1 f_change_reach) (G_reach_ranks : DOk P w K mg base ec "reach_ranks" P_reach_ranks 9 1 f_reach_ranks) (G_touched_states : DOk P w K mg base ec "touched_states" P_touched_states 8 2 f_touched_states) : DOk P w K mg base ec "_law_later_doors" P_law_later_doors 12 3 f_law_later_doors := by
  refine DAt.ok (n := 4) (p := 3) D sc_law_later_doors rfl rfl fun f cdv A outer s H E hr => ?_
  have S := sc_law_later_doors
  have hp := passes_of (X := cxOf (L2.CX P w) P w K mg base N_law_later_doors "_law_later_doors" (defScope s_law_later_doors) f cdv A outer s H E) rfl
  have tk := takes_of (X := cxOf (L2.CX P w) P w K mg base N_law_later_doors "_law_later_doors" (defScope s_law_later_doors) f cdv A outer s H E) (E := E) rfl rfl rfl rfl
  have hu := hu65 hr
  exact (dss_cons (ds_set (i := 3) S.nd rfl (by first | exact .inl rfl | exact .inr rfl) (de_tup (da_cons de_int (da_cons (de_tup (da_cons (de_un un_neg o_neg (DE.x de_int)) da_nil)) (da_cons (de_tup (da_cons de_int da_nil)) da_nil))))) (dss_one (ds_if (dt_cmp (op_eqQ hu) o_eqQ (DE.x (de_var 0)) (DE.x de_int) (nomark _)) (dss_one (ds_expr (de_callD G_first_clash hr tk (by decide) rfl (da_cons (de_var 2) (da_cons (de_var 1) da_nil))))) (dss_one (ds_if (dt_cmp (op_eqQ hu) o_eqQ (DE.x (de_var 0)) (DE.x de_int) (nomark _)) (dss_one (ds_expr (de_callD G_spare_rules hr tk (by decide) rfl (da_cons (de_var 1) da_nil)))) (dss_one (ds_if (dt_cmp (op_eqQ hu) o_eqQ (DE.x (de_var 0)) (DE.x de_int) (nomark _)) (dss_one (ds_expr (de_callD G_fewest_rules hr tk (by decide) rfl (da_cons (de_var 1) da_nil)))) (dss_one (ds_if (dt_cmp (op_eqQ hu) o_eqQ (DE.x (de_var 0)) (DE.x de_int) (nomark _)) (dss_one (ds_expr (de_callD G_fewest_removals hr tk (by decide) rfl (da_cons (de_var 1) da_nil)))) (dss_one (ds_if (dt_cmp (op_eqQ hu) o_eqQ (DE.x (de_var 0)) (DE.x de_int) (nomark _)) (dss_one (ds_expr (de_callD G_changed_nodes hr tk (by decide) rfl (da_cons (de_var 1) (da_cons (de_var 3) (da_cons de_int (da_cons de_int da_nil))))))) (dss_one (ds_if (dt_cmp (op_eqQ hu) o_eqQ (DE.x (de_var 0)) (DE.x de_int) (nomark _)) (dss_one (ds_expr (de_callD G_change_reach hr tk (by decide) rfl (da_cons (de_var 1) da_nil)))) (dss_one (ds_if (dt_cmp (op_eqQ hu) o_eqQ (DE.x (de_var 0)) (DE.x de_int) (nomark _)) (dss_one (ds_expr (de_callD G_reach_ranks hr tk (by decide) rfl (da_cons (de_var 1) da_nil)))) (dss_one (ds_expr (de_callD G_touched_states hr tk (by decide) rfl (da_cons (de_var 1) (da_cons (DLi.d (dl_lst (da_cons de_int da_nil))) da_nil))))))))))))))))))))
theorem ok_law_refused (T : Bl mg) (C : Cn mg) (Z : Er P w K mg base ec) (D : DAt K mg "_law_refused" s_law_refused P_law_refused) (G_law_first_doors : DOk P w K mg base ec "_law_first_doors" P_law_first_doors 12 3 f_law_first_doors) (G_law_later_doors : DOk P w K mg base ec "_law_later_doors" P_law_later_doors 12 3 f_law_later_doors) : DOk P w K mg base ec "_law_refused" P_law_refused 13 3 f_law_refused := by
  refine DAt.ok (n := 6) (p := 3) D sc_law_refused rfl rfl fun f cdv A outer s H E hr => ?_
  have S := sc_law_refused
  have hp := passes_of (X := cxOf (L2.CX P w) P w K mg base N_law_refused "_law_refused" (defScope s_law_refused) f cdv A outer s H E) rfl
  have tk := takes_of (X := cxOf (L2.CX P w) P w K mg base N_law_refused "_law_refused" (defScope s_law_refused) f cdv A outer s H E) (E := E) rfl rfl rfl rfl
  have hu := hu65 hr
  exact (dss_cons (ds_set (i := 3) S.nd rfl (by first | exact .inl rfl | exact .inr rfl) de_non) (dss_cons (ds_tryES rfl rfl S.nd tk Z.tab Z.tabg (fun W' pn xe tk hp => (dss_one (ds_if (dt_cmp op_lt o_lt (DE.x (de_var 0)) (DE.x de_int) (nomark _)) (dss_one (ds_expr (de_callD G_law_first_doors hr tk (by decide) rfl (da_cons (de_var 0) (da_cons (de_var 1) (da_cons (de_var 2) da_nil)))))) (dss_one (ds_expr (de_callD G_law_later_doors hr tk (by decide) rfl (da_cons (de_var 0) (da_cons (de_var 1) (da_cons (de_var 2) da_nil))))))))) (.cons (c := "BadBook") (i := 4) ⟨rfl, by decide +kernel, .inl Z.g_BadBook⟩ rfl rfl (fun a pn => (dss_cons (ds_set (i := 5) S.nd rfl (by first | exact .inl rfl | exact .inr rfl) (db_and (DE.tr (de_isE (i := 4) Z.tabi rfl (by first | exact .inl rfl | exact .inr (.inl rfl) | exact .inr (.inr rfl)) rfl T.isinstance (pe_glob (v := .ref (ec "RestError")) rfl Z.g_RestError rfl (by decide +kernel)) (cv_own (by decide)))) (db_one (DE.tr (de_isE (i := 4) Z.tabi rfl (by first | exact .inl rfl | exact .inr (.inl rfl) | exact .inr (.inr rfl)) rfl T.isinstance (pe_bltn (v := .ty "ValueError") rfl Z.ve PyProof.Rows.Boot.«ValueError» rfl (by decide) (by decide)) cv_ve))))) (dss_one (ds_set (i := 3) S.nd rfl (by first | exact .inl rfl | exact .inr rfl) (db_and (DE.tr (de_var 5)) (db_and (db_not (DE.tr (de_isEs (Ts := ["NoEnd", "NoOneRest", "BadTree", "BadReader"]) (i := 4) Z.tabi rfl (by first | exact .inl rfl | exact .inr (.inl rfl) | exact .inr (.inr rfl)) rfl T.isinstance (by decide) (by decide) (by decide) (.cons (T := "NoEnd") (pe_glob (v := .ref (ec "NoEnd")) rfl Z.g_NoEnd rfl (by decide +kernel)) (.cons (T := "NoOneRest") (pe_glob (v := .ref (ec "NoOneRest")) rfl Z.g_NoOneRest rfl (by decide +kernel)) (.cons (T := "BadTree") (pe_glob (v := .ref (ec "BadTree")) rfl Z.g_BadTree rfl (by decide +kernel)) (.cons (T := "BadReader") (pe_glob (v := .ref (ec "BadReader")) rfl Z.g_BadReader rfl (by decide +kernel)) .nil))))))) (db_one (db_not (DE.tr (de_isE (i := 4) Z.tabi rfl (by first | exact .inl rfl | exact .inr (.inl rfl) | exact .inr (.inr rfl)) rfl T.isinstance (pe_glob (v := .ref (ec "BadState")) rfl Z.g_BadState rfl (by decide +kernel)) (cv_own (by decide)))))))))))) .stop)) (dss_one (ds_ret (db_cmp op_isA o_is (DE.x (de_var 3)) (DE.x de_bl) (nomark _))))))
theorem ok_law (T : Bl mg) (C : Cn mg) (Z : Er P w K mg base ec) (D : DAt K mg "law" s_law P_law) (G_law_deck : DOkO P w K mg base ec "_law_deck" P_law_deck 1 2 f_law_deck) (G_law_pick : DOkI P w K mg base ec "_law_pick" P_law_pick 1 2 f_law_pick) (G_law_free : DOkI P w K mg base ec "_law_free" P_law_free 3 4 f_law_free) (G_law_bad : DOkI P w K mg base ec "_law_bad" P_law_bad 3 3 f_law_bad) (G_law_refused : DOk P w K mg base ec "_law_refused" P_law_refused 13 3 f_law_refused) : DOk P w K mg base ec "law" P_law 14 1 f_law := by
  refine DAt.ok (n := 9) (p := 1) D sc_law rfl rfl fun f cdv A outer s H E hr => ?_
  have S := sc_law
  have hp := passes_of (X := cxOf (L2.CX P w) P w K mg base N_law "law" (defScope s_law) f cdv A outer s H E) rfl
  have tk := takes_of (X := cxOf (L2.CX P w) P w K mg base N_law "law" (defScope s_law) f cdv A outer s H E) (E := E) rfl rfl rfl rfl
  have hu := hu65 hr
  exact (dss_cons (ds_own (i := 1) S.nd rfl (by first | exact .inl rfl | exact .inr rfl) (dl_callO G_law_deck hr tk (by decide) rfl (da_cons (de_var 0) (da_cons de_int da_nil)))) (dss_cons (ds_zset (i := 2) S.nd rfl (by first | exact .inl rfl | exact .inr rfl) (des_callI G_law_pick hr tk (by decide) rfl (dai_io 1 (dai_ex (des_up de_int) dai_nil)))) (dss_cons (ds_zset (i := 3) S.nd rfl (by first | exact .inl rfl | exact .inr rfl) (des_op op_addA o_add (des_up de_int) (des_callI G_law_pick hr tk (by decide) rfl (dai_io 1 (dai_ex (des_up de_int) dai_nil))))) (dss_cons (ds_own (i := 4) S.nd rfl (by first | exact .inl rfl | exact .inr rfl) (dl_lst da_nil)) (dss_cons (ds_zexpr (des_callI G_law_free hr tk (by decide) rfl (dai_io 1 (dai_ex (des_up (de_var 3)) (dai_io 4 (dai_ex (des_op op_addA o_add (des_up de_int) (des_callI G_law_pick hr tk (by decide) rfl (dai_io 1 (dai_ex (des_up de_int) dai_nil)))) dai_nil)))))) (dss_cons (ds_zset (i := 5) S.nd rfl (by first | exact .inl rfl | exact .inr rfl) (des_callI G_law_bad hr tk (by decide) rfl (dai_io 1 (dai_ex (des_up (de_tup (da_cons (de_var 3) (da_cons (de_t1 call_tuple_of b_tup rfl T.tuple (dx_var 4) PyProof.Rows.boot_tuple) da_nil)))) (dai_ex (des_up (de_var 2)) dai_nil))))) (dss_cons (ds_set (i := 6) S.nd rfl (by first | exact .inl rfl | exact .inr rfl) (de_tup (da_cons (de_var 3) (da_cons (de_tup da_nil) da_nil)))) (dss_cons (ds_zset (i := 7) S.nd rfl (by first | exact .inl rfl | exact .inr rfl) (des_callI G_law_pick hr tk (by decide) rfl (dai_io 1 (dai_ex (des_up de_int) dai_nil)))) (dss_cons (ds_for hp rfl (di_range1 rfl T.range (DE.x de_int)) (pg_name (i := 8) S.nd rfl (by first | exact .inl rfl | exact .inr rfl)) (dss_one (ds_if (dt_not (DE.test (de_callD G_law_refused hr tk (by decide) rfl (da_cons (de_op op_mod o_mod (DE.x (de_t1 call_int1 b_int rfl T.int (DE.x (de_op op_addA o_add (DE.x (de_var 7)) (DE.x (de_op op_mulV o_mul (DE.x de_int) (DE.x (de_var 8)))))) PyProof.Rows.boot_int)) (DE.x de_int)) (da_cons (de_var 5) (da_cons (de_var 6) da_nil)))))) (dss_one (ds_ret de_bl)) dss_nil))) (dss_one (ds_ret de_bl)))))))))))
end
set_option maxHeartbeats 0 in
theorem all_mk {l : PySem.W.OpenLaw} {w : World} {K : PySem.W.Frag} {h : Heap} {mg : Str → Option Value} {fa : Addr} (X : K.In h) (G : h.Ns mainGlobals mg) (hfa : mg "law" = some (.ref fa))
    {od_law_deck an_law_deck : Option Addr} {sl_law_deck : Array (Option Value)} {oc_law_deck kV_law_deck dc_law_deck pm_law_deck cd_law_deck ct_law_deck : Value} {a_law_deck : Addr}
    (na_law_deck : PySem.W.nsIn K mainGlobals "_law_deck" = some (some (.ref a_law_deck)))
    (lo_law_deck : K.lookup a_law_deck = some ⟨oc_law_deck, od_law_deck, .func (PySem.W.fnOf "_law_deck" "_law_deck" (defArgs s_law_deck) (defBody s_law_deck) (defScope s_law_deck) .none kV_law_deck dc_law_deck pm_law_deck an_law_deck cd_law_deck ct_law_deck), sl_law_deck⟩)
    (co_law_deck : PySem.W.codeIn K cd_law_deck "_law_deck" = true) (ke_law_deck : PySem.W.keepIn K (.ref a_law_deck) = true)
    {od_law_pick an_law_pick : Option Addr} {sl_law_pick : Array (Option Value)} {oc_law_pick kV_law_pick dc_law_pick pm_law_pick cd_law_pick ct_law_pick : Value} {a_law_pick : Addr}
    (na_law_pick : PySem.W.nsIn K mainGlobals "_law_pick" = some (some (.ref a_law_pick)))
    (lo_law_pick : K.lookup a_law_pick = some ⟨oc_law_pick, od_law_pick, .func (PySem.W.fnOf "_law_pick" "_law_pick" (defArgs s_law_pick) (defBody s_law_pick) (defScope s_law_pick) .none kV_law_pick dc_law_pick pm_law_pick an_law_pick cd_law_pick ct_law_pick), sl_law_pick⟩)
    (co_law_pick : PySem.W.codeIn K cd_law_pick "_law_pick" = true) (ke_law_pick : PySem.W.keepIn K (.ref a_law_pick) = true)
    {od_law_put an_law_put : Option Addr} {sl_law_put : Array (Option Value)} {oc_law_put kV_law_put dc_law_put pm_law_put cd_law_put ct_law_put : Value} {a_law_put : Addr}
    (na_law_put : PySem.W.nsIn K mainGlobals "_law_put" = some (some (.ref a_law_put)))
    (lo_law_put : K.lookup a_law_put = some ⟨oc_law_put, od_law_put, .func (PySem.W.fnOf "_law_put" "_law_put" (defArgs s_law_put) (defBody s_law_put) (defScope s_law_put) .none kV_law_put dc_law_put pm_law_put an_law_put cd_law_put ct_law_put), sl_law_put⟩)
    (co_law_put : PySem.W.codeIn K cd_law_put "_law_put" = true) (ke_law_put : PySem.W.keepIn K (.ref a_law_put) = true)
    {od_law_signal an_law_signal : Option Addr} {sl_law_signal : Array (Option Value)} {oc_law_signal kV_law_signal dc_law_signal pm_law_signal cd_law_signal ct_law_signal : Value} {a_law_signal : Addr}
    (na_law_signal : PySem.W.nsIn K mainGlobals "_law_signal" = some (some (.ref a_law_signal)))
    (lo_law_signal : K.lookup a_law_signal = some ⟨oc_law_signal, od_law_signal, .func (PySem.W.fnOf "_law_signal" "_law_signal" (defArgs s_law_signal) (defBody s_law_signal) (defScope s_law_signal) .none kV_law_signal dc_law_signal pm_law_signal an_law_signal cd_law_signal ct_law_signal), sl_law_signal⟩)
    (co_law_signal : PySem.W.codeIn K cd_law_signal "_law_signal" = true) (ke_law_signal : PySem.W.keepIn K (.ref a_law_signal) = true)
    {od_law_free an_law_free : Option Addr} {sl_law_free : Array (Option Value)} {oc_law_free kV_law_free dc_law_free pm_law_free cd_law_free ct_law_free : Value} {a_law_free : Addr}
    (na_law_free : PySem.W.nsIn K mainGlobals "_law_free" = some (some (.ref a_law_free)))
    (lo_law_free : K.lookup a_law_free = some ⟨oc_law_free, od_law_free, .func (PySem.W.fnOf "_law_free" "_law_free" (defArgs s_law_free) (defBody s_law_free) (defScope s_law_free) .none kV_law_free dc_law_free pm_law_free an_law_free cd_law_free ct_law_free), sl_law_free⟩)
    (co_law_free : PySem.W.codeIn K cd_law_free "_law_free" = true) (ke_law_free : PySem.W.keepIn K (.ref a_law_free) = true)
    {od_law_bad_rule an_law_bad_rule : Option Addr} {sl_law_bad_rule : Array (Option Value)} {oc_law_bad_rule kV_law_bad_rule dc_law_bad_rule pm_law_bad_rule cd_law_bad_rule ct_law_bad_rule : Value} {a_law_bad_rule : Addr}
    (na_law_bad_rule : PySem.W.nsIn K mainGlobals "_law_bad_rule" = some (some (.ref a_law_bad_rule)))
    (lo_law_bad_rule : K.lookup a_law_bad_rule = some ⟨oc_law_bad_rule, od_law_bad_rule, .func (PySem.W.fnOf "_law_bad_rule" "_law_bad_rule" (defArgs s_law_bad_rule) (defBody s_law_bad_rule) (defScope s_law_bad_rule) .none kV_law_bad_rule dc_law_bad_rule pm_law_bad_rule an_law_bad_rule cd_law_bad_rule ct_law_bad_rule), sl_law_bad_rule⟩)
    (co_law_bad_rule : PySem.W.codeIn K cd_law_bad_rule "_law_bad_rule" = true) (ke_law_bad_rule : PySem.W.keepIn K (.ref a_law_bad_rule) = true)
    {od_law_thirteen an_law_thirteen : Option Addr} {sl_law_thirteen : Array (Option Value)} {oc_law_thirteen kV_law_thirteen dc_law_thirteen pm_law_thirteen cd_law_thirteen ct_law_thirteen : Value} {a_law_thirteen : Addr}
    (na_law_thirteen : PySem.W.nsIn K mainGlobals "_law_thirteen" = some (some (.ref a_law_thirteen)))
    (lo_law_thirteen : K.lookup a_law_thirteen = some ⟨oc_law_thirteen, od_law_thirteen, .func (PySem.W.fnOf "_law_thirteen" "_law_thirteen" (defArgs s_law_thirteen) (defBody s_law_thirteen) (defScope s_law_thirteen) .none kV_law_thirteen dc_law_thirteen pm_law_thirteen an_law_thirteen cd_law_thirteen ct_law_thirteen), sl_law_thirteen⟩)
    (co_law_thirteen : PySem.W.codeIn K cd_law_thirteen "_law_thirteen" = true) (ke_law_thirteen : PySem.W.keepIn K (.ref a_law_thirteen) = true)
    {od_law_bad an_law_bad : Option Addr} {sl_law_bad : Array (Option Value)} {oc_law_bad kV_law_bad dc_law_bad pm_law_bad cd_law_bad ct_law_bad : Value} {a_law_bad : Addr}
    (na_law_bad : PySem.W.nsIn K mainGlobals "_law_bad" = some (some (.ref a_law_bad)))
    (lo_law_bad : K.lookup a_law_bad = some ⟨oc_law_bad, od_law_bad, .func (PySem.W.fnOf "_law_bad" "_law_bad" (defArgs s_law_bad) (defBody s_law_bad) (defScope s_law_bad) .none kV_law_bad dc_law_bad pm_law_bad an_law_bad cd_law_bad ct_law_bad), sl_law_bad⟩)
    (co_law_bad : PySem.W.codeIn K cd_law_bad "_law_bad" = true) (ke_law_bad : PySem.W.keepIn K (.ref a_law_bad) = true)
    {od_is_tuple_of an_is_tuple_of : Option Addr} {sl_is_tuple_of : Array (Option Value)} {oc_is_tuple_of kV_is_tuple_of dc_is_tuple_of pm_is_tuple_of cd_is_tuple_of ct_is_tuple_of : Value} {a_is_tuple_of : Addr}
    (na_is_tuple_of : PySem.W.nsIn K mainGlobals "is_tuple_of" = some (some (.ref a_is_tuple_of)))
    (lo_is_tuple_of : K.lookup a_is_tuple_of = some ⟨oc_is_tuple_of, od_is_tuple_of, .func (PySem.W.fnOf "is_tuple_of" "is_tuple_of" (defArgs s_is_tuple_of) (defBody s_is_tuple_of) (defScope s_is_tuple_of) .none kV_is_tuple_of dc_is_tuple_of pm_is_tuple_of an_is_tuple_of cd_is_tuple_of ct_is_tuple_of), sl_is_tuple_of⟩)
    (co_is_tuple_of : PySem.W.codeIn K cd_is_tuple_of "is_tuple_of" = true) (ke_is_tuple_of : PySem.W.keepIn K (.ref a_is_tuple_of) = true)
    {od_is_integer an_is_integer : Option Addr} {sl_is_integer : Array (Option Value)} {oc_is_integer kV_is_integer dc_is_integer pm_is_integer cd_is_integer ct_is_integer : Value} {a_is_integer : Addr}
    (na_is_integer : PySem.W.nsIn K mainGlobals "is_integer" = some (some (.ref a_is_integer)))
    (lo_is_integer : K.lookup a_is_integer = some ⟨oc_is_integer, od_is_integer, .func (PySem.W.fnOf "is_integer" "is_integer" (defArgs s_is_integer) (defBody s_is_integer) (defScope s_is_integer) .none kV_is_integer dc_is_integer pm_is_integer an_is_integer cd_is_integer ct_is_integer), sl_is_integer⟩)
    (co_is_integer : PySem.W.codeIn K cd_is_integer "is_integer" = true) (ke_is_integer : PySem.W.keepIn K (.ref a_is_integer) = true)
    {od_is_integer_from an_is_integer_from : Option Addr} {sl_is_integer_from : Array (Option Value)} {oc_is_integer_from kV_is_integer_from dc_is_integer_from pm_is_integer_from cd_is_integer_from ct_is_integer_from : Value} {a_is_integer_from : Addr}
    (na_is_integer_from : PySem.W.nsIn K mainGlobals "is_integer_from" = some (some (.ref a_is_integer_from)))
    (lo_is_integer_from : K.lookup a_is_integer_from = some ⟨oc_is_integer_from, od_is_integer_from, .func (PySem.W.fnOf "is_integer_from" "is_integer_from" (defArgs s_is_integer_from) (defBody s_is_integer_from) (defScope s_is_integer_from) .none kV_is_integer_from dc_is_integer_from pm_is_integer_from an_is_integer_from cd_is_integer_from ct_is_integer_from), sl_is_integer_from⟩)
    (co_is_integer_from : PySem.W.codeIn K cd_is_integer_from "is_integer_from" = true) (ke_is_integer_from : PySem.W.keepIn K (.ref a_is_integer_from) = true)
    {od_is_number_below an_is_number_below : Option Addr} {sl_is_number_below : Array (Option Value)} {oc_is_number_below kV_is_number_below dc_is_number_below pm_is_number_below cd_is_number_below ct_is_number_below : Value} {a_is_number_below : Addr}
    (na_is_number_below : PySem.W.nsIn K mainGlobals "is_number_below" = some (some (.ref a_is_number_below)))
    (lo_is_number_below : K.lookup a_is_number_below = some ⟨oc_is_number_below, od_is_number_below, .func (PySem.W.fnOf "is_number_below" "is_number_below" (defArgs s_is_number_below) (defBody s_is_number_below) (defScope s_is_number_below) .none kV_is_number_below dc_is_number_below pm_is_number_below an_is_number_below cd_is_number_below ct_is_number_below), sl_is_number_below⟩)
    (co_is_number_below : PySem.W.codeIn K cd_is_number_below "is_number_below" = true) (ke_is_number_below : PySem.W.keepIn K (.ref a_is_number_below) = true)
    {od_are_numbers_below an_are_numbers_below : Option Addr} {sl_are_numbers_below : Array (Option Value)} {oc_are_numbers_below kV_are_numbers_below dc_are_numbers_below pm_are_numbers_below cd_are_numbers_below ct_are_numbers_below : Value} {a_are_numbers_below : Addr}
    (na_are_numbers_below : PySem.W.nsIn K mainGlobals "are_numbers_below" = some (some (.ref a_are_numbers_below)))
    (lo_are_numbers_below : K.lookup a_are_numbers_below = some ⟨oc_are_numbers_below, od_are_numbers_below, .func (PySem.W.fnOf "are_numbers_below" "are_numbers_below" (defArgs s_are_numbers_below) (defBody s_are_numbers_below) (defScope s_are_numbers_below) .none kV_are_numbers_below dc_are_numbers_below pm_are_numbers_below an_are_numbers_below cd_are_numbers_below ct_are_numbers_below), sl_are_numbers_below⟩)
    (co_are_numbers_below : PySem.W.codeIn K cd_are_numbers_below "are_numbers_below" = true) (ke_are_numbers_below : PySem.W.keepIn K (.ref a_are_numbers_below) = true)
    {od_is_rule an_is_rule : Option Addr} {sl_is_rule : Array (Option Value)} {oc_is_rule kV_is_rule dc_is_rule pm_is_rule cd_is_rule ct_is_rule : Value} {a_is_rule : Addr}
    (na_is_rule : PySem.W.nsIn K mainGlobals "is_rule" = some (some (.ref a_is_rule)))
    (lo_is_rule : K.lookup a_is_rule = some ⟨oc_is_rule, od_is_rule, .func (PySem.W.fnOf "is_rule" "is_rule" (defArgs s_is_rule) (defBody s_is_rule) (defScope s_is_rule) .none kV_is_rule dc_is_rule pm_is_rule an_is_rule cd_is_rule ct_is_rule), sl_is_rule⟩)
    (co_is_rule : PySem.W.codeIn K cd_is_rule "is_rule" = true) (ke_is_rule : PySem.W.keepIn K (.ref a_is_rule) = true)
    {od_is_book an_is_book : Option Addr} {sl_is_book : Array (Option Value)} {oc_is_book kV_is_book dc_is_book pm_is_book cd_is_book ct_is_book : Value} {a_is_book : Addr}
    (na_is_book : PySem.W.nsIn K mainGlobals "is_book" = some (some (.ref a_is_book)))
    (lo_is_book : K.lookup a_is_book = some ⟨oc_is_book, od_is_book, .func (PySem.W.fnOf "is_book" "is_book" (defArgs s_is_book) (defBody s_is_book) (defScope s_is_book) .none kV_is_book dc_is_book pm_is_book an_is_book cd_is_book ct_is_book), sl_is_book⟩)
    (co_is_book : PySem.W.codeIn K cd_is_book "is_book" = true) (ke_is_book : PySem.W.keepIn K (.ref a_is_book) = true)
    {od_check_book an_check_book : Option Addr} {sl_check_book : Array (Option Value)} {oc_check_book kV_check_book dc_check_book pm_check_book cd_check_book ct_check_book : Value} {a_check_book : Addr}
    (na_check_book : PySem.W.nsIn K mainGlobals "check_book" = some (some (.ref a_check_book)))
    (lo_check_book : K.lookup a_check_book = some ⟨oc_check_book, od_check_book, .func (PySem.W.fnOf "check_book" "check_book" (defArgs s_check_book) (defBody s_check_book) (defScope s_check_book) .none kV_check_book dc_check_book pm_check_book an_check_book cd_check_book ct_check_book), sl_check_book⟩)
    (co_check_book : PySem.W.codeIn K cd_check_book "check_book" = true) (ke_check_book : PySem.W.keepIn K (.ref a_check_book) = true)
    {od_outcome_of an_outcome_of : Option Addr} {sl_outcome_of : Array (Option Value)} {oc_outcome_of kV_outcome_of dc_outcome_of pm_outcome_of cd_outcome_of ct_outcome_of : Value} {a_outcome_of : Addr}
    (na_outcome_of : PySem.W.nsIn K mainGlobals "outcome_of" = some (some (.ref a_outcome_of)))
    (lo_outcome_of : K.lookup a_outcome_of = some ⟨oc_outcome_of, od_outcome_of, .func (PySem.W.fnOf "outcome_of" "outcome_of" (defArgs s_outcome_of) (defBody s_outcome_of) (defScope s_outcome_of) .none kV_outcome_of dc_outcome_of pm_outcome_of an_outcome_of cd_outcome_of ct_outcome_of), sl_outcome_of⟩)
    (co_outcome_of : PySem.W.codeIn K cd_outcome_of "outcome_of" = true) (ke_outcome_of : PySem.W.keepIn K (.ref a_outcome_of) = true)
    {od_outcome_holds an_outcome_holds : Option Addr} {sl_outcome_holds : Array (Option Value)} {oc_outcome_holds kV_outcome_holds dc_outcome_holds pm_outcome_holds cd_outcome_holds ct_outcome_holds : Value} {a_outcome_holds : Addr}
    (na_outcome_holds : PySem.W.nsIn K mainGlobals "outcome_holds" = some (some (.ref a_outcome_holds)))
    (lo_outcome_holds : K.lookup a_outcome_holds = some ⟨oc_outcome_holds, od_outcome_holds, .func (PySem.W.fnOf "outcome_holds" "outcome_holds" (defArgs s_outcome_holds) (defBody s_outcome_holds) (defScope s_outcome_holds) .none kV_outcome_holds dc_outcome_holds pm_outcome_holds an_outcome_holds cd_outcome_holds ct_outcome_holds), sl_outcome_holds⟩)
    (co_outcome_holds : PySem.W.codeIn K cd_outcome_holds "outcome_holds" = true) (ke_outcome_holds : PySem.W.keepIn K (.ref a_outcome_holds) = true)
    {od_are_parents an_are_parents : Option Addr} {sl_are_parents : Array (Option Value)} {oc_are_parents kV_are_parents dc_are_parents pm_are_parents cd_are_parents ct_are_parents : Value} {a_are_parents : Addr}
    (na_are_parents : PySem.W.nsIn K mainGlobals "are_parents" = some (some (.ref a_are_parents)))
    (lo_are_parents : K.lookup a_are_parents = some ⟨oc_are_parents, od_are_parents, .func (PySem.W.fnOf "are_parents" "are_parents" (defArgs s_are_parents) (defBody s_are_parents) (defScope s_are_parents) .none kV_are_parents dc_are_parents pm_are_parents an_are_parents cd_are_parents ct_are_parents), sl_are_parents⟩)
    (co_are_parents : PySem.W.codeIn K cd_are_parents "are_parents" = true) (ke_are_parents : PySem.W.keepIn K (.ref a_are_parents) = true)
    {od_is_tree_of an_is_tree_of : Option Addr} {sl_is_tree_of : Array (Option Value)} {oc_is_tree_of kV_is_tree_of dc_is_tree_of pm_is_tree_of cd_is_tree_of ct_is_tree_of : Value} {a_is_tree_of : Addr}
    (na_is_tree_of : PySem.W.nsIn K mainGlobals "is_tree_of" = some (some (.ref a_is_tree_of)))
    (lo_is_tree_of : K.lookup a_is_tree_of = some ⟨oc_is_tree_of, od_is_tree_of, .func (PySem.W.fnOf "is_tree_of" "is_tree_of" (defArgs s_is_tree_of) (defBody s_is_tree_of) (defScope s_is_tree_of) .none kV_is_tree_of dc_is_tree_of pm_is_tree_of an_is_tree_of cd_is_tree_of ct_is_tree_of), sl_is_tree_of⟩)
    (co_is_tree_of : PySem.W.codeIn K cd_is_tree_of "is_tree_of" = true) (ke_is_tree_of : PySem.W.keepIn K (.ref a_is_tree_of) = true)
    {od_is_tree an_is_tree : Option Addr} {sl_is_tree : Array (Option Value)} {oc_is_tree kV_is_tree dc_is_tree pm_is_tree cd_is_tree ct_is_tree : Value} {a_is_tree : Addr}
    (na_is_tree : PySem.W.nsIn K mainGlobals "is_tree" = some (some (.ref a_is_tree)))
    (lo_is_tree : K.lookup a_is_tree = some ⟨oc_is_tree, od_is_tree, .func (PySem.W.fnOf "is_tree" "is_tree" (defArgs s_is_tree) (defBody s_is_tree) (defScope s_is_tree) .none kV_is_tree dc_is_tree pm_is_tree an_is_tree cd_is_tree ct_is_tree), sl_is_tree⟩)
    (co_is_tree : PySem.W.codeIn K cd_is_tree "is_tree" = true) (ke_is_tree : PySem.W.keepIn K (.ref a_is_tree) = true)
    {od_check_tree an_check_tree : Option Addr} {sl_check_tree : Array (Option Value)} {oc_check_tree kV_check_tree dc_check_tree pm_check_tree cd_check_tree ct_check_tree : Value} {a_check_tree : Addr}
    (na_check_tree : PySem.W.nsIn K mainGlobals "check_tree" = some (some (.ref a_check_tree)))
    (lo_check_tree : K.lookup a_check_tree = some ⟨oc_check_tree, od_check_tree, .func (PySem.W.fnOf "check_tree" "check_tree" (defArgs s_check_tree) (defBody s_check_tree) (defScope s_check_tree) .none kV_check_tree dc_check_tree pm_check_tree an_check_tree cd_check_tree ct_check_tree), sl_check_tree⟩)
    (co_check_tree : PySem.W.codeIn K cd_check_tree "check_tree" = true) (ke_check_tree : PySem.W.keepIn K (.ref a_check_tree) = true)
    {od_rest_of an_rest_of : Option Addr} {sl_rest_of : Array (Option Value)} {oc_rest_of kV_rest_of dc_rest_of pm_rest_of cd_rest_of ct_rest_of : Value} {a_rest_of : Addr}
    (na_rest_of : PySem.W.nsIn K mainGlobals "rest_of" = some (some (.ref a_rest_of)))
    (lo_rest_of : K.lookup a_rest_of = some ⟨oc_rest_of, od_rest_of, .func (PySem.W.fnOf "rest_of" "rest_of" (defArgs s_rest_of) (defBody s_rest_of) (defScope s_rest_of) .none kV_rest_of dc_rest_of pm_rest_of an_rest_of cd_rest_of ct_rest_of), sl_rest_of⟩)
    (co_rest_of : PySem.W.codeIn K cd_rest_of "rest_of" = true) (ke_rest_of : PySem.W.keepIn K (.ref a_rest_of) = true)
    {od_run_steps an_run_steps : Option Addr} {sl_run_steps : Array (Option Value)} {oc_run_steps kV_run_steps dc_run_steps pm_run_steps cd_run_steps ct_run_steps : Value} {a_run_steps : Addr}
    (na_run_steps : PySem.W.nsIn K mainGlobals "run_steps" = some (some (.ref a_run_steps)))
    (lo_run_steps : K.lookup a_run_steps = some ⟨oc_run_steps, od_run_steps, .func (PySem.W.fnOf "run_steps" "run_steps" (defArgs s_run_steps) (defBody s_run_steps) (defScope s_run_steps) .none kV_run_steps dc_run_steps pm_run_steps an_run_steps cd_run_steps ct_run_steps), sl_run_steps⟩)
    (co_run_steps : PySem.W.codeIn K cd_run_steps "run_steps" = true) (ke_run_steps : PySem.W.keepIn K (.ref a_run_steps) = true)
    {od_join_runs an_join_runs : Option Addr} {sl_join_runs : Array (Option Value)} {oc_join_runs kV_join_runs dc_join_runs pm_join_runs cd_join_runs ct_join_runs : Value} {a_join_runs : Addr}
    (na_join_runs : PySem.W.nsIn K mainGlobals "join_runs" = some (some (.ref a_join_runs)))
    (lo_join_runs : K.lookup a_join_runs = some ⟨oc_join_runs, od_join_runs, .func (PySem.W.fnOf "join_runs" "join_runs" (defArgs s_join_runs) (defBody s_join_runs) (defScope s_join_runs) .none kV_join_runs dc_join_runs pm_join_runs an_join_runs cd_join_runs ct_join_runs), sl_join_runs⟩)
    (co_join_runs : PySem.W.codeIn K cd_join_runs "join_runs" = true) (ke_join_runs : PySem.W.keepIn K (.ref a_join_runs) = true)
    {od_is_reader an_is_reader : Option Addr} {sl_is_reader : Array (Option Value)} {oc_is_reader kV_is_reader dc_is_reader pm_is_reader cd_is_reader ct_is_reader : Value} {a_is_reader : Addr}
    (na_is_reader : PySem.W.nsIn K mainGlobals "is_reader" = some (some (.ref a_is_reader)))
    (lo_is_reader : K.lookup a_is_reader = some ⟨oc_is_reader, od_is_reader, .func (PySem.W.fnOf "is_reader" "is_reader" (defArgs s_is_reader) (defBody s_is_reader) (defScope s_is_reader) .none kV_is_reader dc_is_reader pm_is_reader an_is_reader cd_is_reader ct_is_reader), sl_is_reader⟩)
    (co_is_reader : PySem.W.codeIn K cd_is_reader "is_reader" = true) (ke_is_reader : PySem.W.keepIn K (.ref a_is_reader) = true)
    {od_reader_of an_reader_of : Option Addr} {sl_reader_of : Array (Option Value)} {oc_reader_of kV_reader_of dc_reader_of pm_reader_of cd_reader_of ct_reader_of : Value} {a_reader_of : Addr}
    (na_reader_of : PySem.W.nsIn K mainGlobals "reader_of" = some (some (.ref a_reader_of)))
    (lo_reader_of : K.lookup a_reader_of = some ⟨oc_reader_of, od_reader_of, .func (PySem.W.fnOf "reader_of" "reader_of" (defArgs s_reader_of) (defBody s_reader_of) (defScope s_reader_of) .none kV_reader_of dc_reader_of pm_reader_of an_reader_of cd_reader_of ct_reader_of), sl_reader_of⟩)
    (co_reader_of : PySem.W.codeIn K cd_reader_of "reader_of" = true) (ke_reader_of : PySem.W.keepIn K (.ref a_reader_of) = true)
    {od_reader_holds an_reader_holds : Option Addr} {sl_reader_holds : Array (Option Value)} {oc_reader_holds kV_reader_holds dc_reader_holds pm_reader_holds cd_reader_holds ct_reader_holds : Value} {a_reader_holds : Addr}
    (na_reader_holds : PySem.W.nsIn K mainGlobals "reader_holds" = some (some (.ref a_reader_holds)))
    (lo_reader_holds : K.lookup a_reader_holds = some ⟨oc_reader_holds, od_reader_holds, .func (PySem.W.fnOf "reader_holds" "reader_holds" (defArgs s_reader_holds) (defBody s_reader_holds) (defScope s_reader_holds) .none kV_reader_holds dc_reader_holds pm_reader_holds an_reader_holds cd_reader_holds ct_reader_holds), sl_reader_holds⟩)
    (co_reader_holds : PySem.W.codeIn K cd_reader_holds "reader_holds" = true) (ke_reader_holds : PySem.W.keepIn K (.ref a_reader_holds) = true)
    {od_two_readers an_two_readers : Option Addr} {sl_two_readers : Array (Option Value)} {oc_two_readers kV_two_readers dc_two_readers pm_two_readers cd_two_readers ct_two_readers : Value} {a_two_readers : Addr}
    (na_two_readers : PySem.W.nsIn K mainGlobals "two_readers" = some (some (.ref a_two_readers)))
    (lo_two_readers : K.lookup a_two_readers = some ⟨oc_two_readers, od_two_readers, .func (PySem.W.fnOf "two_readers" "two_readers" (defArgs s_two_readers) (defBody s_two_readers) (defScope s_two_readers) .none kV_two_readers dc_two_readers pm_two_readers an_two_readers cd_two_readers ct_two_readers), sl_two_readers⟩)
    (co_two_readers : PySem.W.codeIn K cd_two_readers "two_readers" = true) (ke_two_readers : PySem.W.keepIn K (.ref a_two_readers) = true)
    {od_first_difference an_first_difference : Option Addr} {sl_first_difference : Array (Option Value)} {oc_first_difference kV_first_difference dc_first_difference pm_first_difference cd_first_difference ct_first_difference : Value} {a_first_difference : Addr}
    (na_first_difference : PySem.W.nsIn K mainGlobals "first_difference" = some (some (.ref a_first_difference)))
    (lo_first_difference : K.lookup a_first_difference = some ⟨oc_first_difference, od_first_difference, .func (PySem.W.fnOf "first_difference" "first_difference" (defArgs s_first_difference) (defBody s_first_difference) (defScope s_first_difference) .none kV_first_difference dc_first_difference pm_first_difference an_first_difference cd_first_difference ct_first_difference), sl_first_difference⟩)
    (co_first_difference : PySem.W.codeIn K cd_first_difference "first_difference" = true) (ke_first_difference : PySem.W.keepIn K (.ref a_first_difference) = true)
    {od_first_clash an_first_clash : Option Addr} {sl_first_clash : Array (Option Value)} {oc_first_clash kV_first_clash dc_first_clash pm_first_clash cd_first_clash ct_first_clash : Value} {a_first_clash : Addr}
    (na_first_clash : PySem.W.nsIn K mainGlobals "first_clash" = some (some (.ref a_first_clash)))
    (lo_first_clash : K.lookup a_first_clash = some ⟨oc_first_clash, od_first_clash, .func (PySem.W.fnOf "first_clash" "first_clash" (defArgs s_first_clash) (defBody s_first_clash) (defScope s_first_clash) .none kV_first_clash dc_first_clash pm_first_clash an_first_clash cd_first_clash ct_first_clash), sl_first_clash⟩)
    (co_first_clash : PySem.W.codeIn K cd_first_clash "first_clash" = true) (ke_first_clash : PySem.W.keepIn K (.ref a_first_clash) = true)
    {od_law_first_doors an_law_first_doors : Option Addr} {sl_law_first_doors : Array (Option Value)} {oc_law_first_doors kV_law_first_doors dc_law_first_doors pm_law_first_doors cd_law_first_doors ct_law_first_doors : Value} {a_law_first_doors : Addr}
    (na_law_first_doors : PySem.W.nsIn K mainGlobals "_law_first_doors" = some (some (.ref a_law_first_doors)))
    (lo_law_first_doors : K.lookup a_law_first_doors = some ⟨oc_law_first_doors, od_law_first_doors, .func (PySem.W.fnOf "_law_first_doors" "_law_first_doors" (defArgs s_law_first_doors) (defBody s_law_first_doors) (defScope s_law_first_doors) .none kV_law_first_doors dc_law_first_doors pm_law_first_doors an_law_first_doors cd_law_first_doors ct_law_first_doors), sl_law_first_doors⟩)
    (co_law_first_doors : PySem.W.codeIn K cd_law_first_doors "_law_first_doors" = true) (ke_law_first_doors : PySem.W.keepIn K (.ref a_law_first_doors) = true)
    {od_spare_rules an_spare_rules : Option Addr} {sl_spare_rules : Array (Option Value)} {oc_spare_rules kV_spare_rules dc_spare_rules pm_spare_rules cd_spare_rules ct_spare_rules : Value} {a_spare_rules : Addr}
    (na_spare_rules : PySem.W.nsIn K mainGlobals "spare_rules" = some (some (.ref a_spare_rules)))
    (lo_spare_rules : K.lookup a_spare_rules = some ⟨oc_spare_rules, od_spare_rules, .func (PySem.W.fnOf "spare_rules" "spare_rules" (defArgs s_spare_rules) (defBody s_spare_rules) (defScope s_spare_rules) .none kV_spare_rules dc_spare_rules pm_spare_rules an_spare_rules cd_spare_rules ct_spare_rules), sl_spare_rules⟩)
    (co_spare_rules : PySem.W.codeIn K cd_spare_rules "spare_rules" = true) (ke_spare_rules : PySem.W.keepIn K (.ref a_spare_rules) = true)
    {od_check_few_rules an_check_few_rules : Option Addr} {sl_check_few_rules : Array (Option Value)} {oc_check_few_rules kV_check_few_rules dc_check_few_rules pm_check_few_rules cd_check_few_rules ct_check_few_rules : Value} {a_check_few_rules : Addr}
    (na_check_few_rules : PySem.W.nsIn K mainGlobals "check_few_rules" = some (some (.ref a_check_few_rules)))
    (lo_check_few_rules : K.lookup a_check_few_rules = some ⟨oc_check_few_rules, od_check_few_rules, .func (PySem.W.fnOf "check_few_rules" "check_few_rules" (defArgs s_check_few_rules) (defBody s_check_few_rules) (defScope s_check_few_rules) .none kV_check_few_rules dc_check_few_rules pm_check_few_rules an_check_few_rules cd_check_few_rules ct_check_few_rules), sl_check_few_rules⟩)
    (co_check_few_rules : PySem.W.codeIn K cd_check_few_rules "check_few_rules" = true) (ke_check_few_rules : PySem.W.keepIn K (.ref a_check_few_rules) = true)
    {od_fewest_rules an_fewest_rules : Option Addr} {sl_fewest_rules : Array (Option Value)} {oc_fewest_rules kV_fewest_rules dc_fewest_rules pm_fewest_rules cd_fewest_rules ct_fewest_rules : Value} {a_fewest_rules : Addr}
    (na_fewest_rules : PySem.W.nsIn K mainGlobals "fewest_rules" = some (some (.ref a_fewest_rules)))
    (lo_fewest_rules : K.lookup a_fewest_rules = some ⟨oc_fewest_rules, od_fewest_rules, .func (PySem.W.fnOf "fewest_rules" "fewest_rules" (defArgs s_fewest_rules) (defBody s_fewest_rules) (defScope s_fewest_rules) .none kV_fewest_rules dc_fewest_rules pm_fewest_rules an_fewest_rules cd_fewest_rules ct_fewest_rules), sl_fewest_rules⟩)
    (co_fewest_rules : PySem.W.codeIn K cd_fewest_rules "fewest_rules" = true) (ke_fewest_rules : PySem.W.keepIn K (.ref a_fewest_rules) = true)
    {od_fewest_removals an_fewest_removals : Option Addr} {sl_fewest_removals : Array (Option Value)} {oc_fewest_removals kV_fewest_removals dc_fewest_removals pm_fewest_removals cd_fewest_removals ct_fewest_removals : Value} {a_fewest_removals : Addr}
    (na_fewest_removals : PySem.W.nsIn K mainGlobals "fewest_removals" = some (some (.ref a_fewest_removals)))
    (lo_fewest_removals : K.lookup a_fewest_removals = some ⟨oc_fewest_removals, od_fewest_removals, .func (PySem.W.fnOf "fewest_removals" "fewest_removals" (defArgs s_fewest_removals) (defBody s_fewest_removals) (defScope s_fewest_removals) .none kV_fewest_removals dc_fewest_removals pm_fewest_removals an_fewest_removals cd_fewest_removals ct_fewest_removals), sl_fewest_removals⟩)
    (co_fewest_removals : PySem.W.codeIn K cd_fewest_removals "fewest_removals" = true) (ke_fewest_removals : PySem.W.keepIn K (.ref a_fewest_removals) = true)
    {od_check_settled_node an_check_settled_node : Option Addr} {sl_check_settled_node : Array (Option Value)} {oc_check_settled_node kV_check_settled_node dc_check_settled_node pm_check_settled_node cd_check_settled_node ct_check_settled_node : Value} {a_check_settled_node : Addr}
    (na_check_settled_node : PySem.W.nsIn K mainGlobals "check_settled_node" = some (some (.ref a_check_settled_node)))
    (lo_check_settled_node : K.lookup a_check_settled_node = some ⟨oc_check_settled_node, od_check_settled_node, .func (PySem.W.fnOf "check_settled_node" "check_settled_node" (defArgs s_check_settled_node) (defBody s_check_settled_node) (defScope s_check_settled_node) .none kV_check_settled_node dc_check_settled_node pm_check_settled_node an_check_settled_node cd_check_settled_node ct_check_settled_node), sl_check_settled_node⟩)
    (co_check_settled_node : PySem.W.codeIn K cd_check_settled_node "check_settled_node" = true) (ke_check_settled_node : PySem.W.keepIn K (.ref a_check_settled_node) = true)
    {od_changed_nodes an_changed_nodes : Option Addr} {sl_changed_nodes : Array (Option Value)} {oc_changed_nodes kV_changed_nodes dc_changed_nodes pm_changed_nodes cd_changed_nodes ct_changed_nodes : Value} {a_changed_nodes : Addr}
    (na_changed_nodes : PySem.W.nsIn K mainGlobals "changed_nodes" = some (some (.ref a_changed_nodes)))
    (lo_changed_nodes : K.lookup a_changed_nodes = some ⟨oc_changed_nodes, od_changed_nodes, .func (PySem.W.fnOf "changed_nodes" "changed_nodes" (defArgs s_changed_nodes) (defBody s_changed_nodes) (defScope s_changed_nodes) .none kV_changed_nodes dc_changed_nodes pm_changed_nodes an_changed_nodes cd_changed_nodes ct_changed_nodes), sl_changed_nodes⟩)
    (co_changed_nodes : PySem.W.codeIn K cd_changed_nodes "changed_nodes" = true) (ke_changed_nodes : PySem.W.keepIn K (.ref a_changed_nodes) = true)
    {od_change_reach an_change_reach : Option Addr} {sl_change_reach : Array (Option Value)} {oc_change_reach kV_change_reach dc_change_reach pm_change_reach cd_change_reach ct_change_reach : Value} {a_change_reach : Addr}
    (na_change_reach : PySem.W.nsIn K mainGlobals "change_reach" = some (some (.ref a_change_reach)))
    (lo_change_reach : K.lookup a_change_reach = some ⟨oc_change_reach, od_change_reach, .func (PySem.W.fnOf "change_reach" "change_reach" (defArgs s_change_reach) (defBody s_change_reach) (defScope s_change_reach) .none kV_change_reach dc_change_reach pm_change_reach an_change_reach cd_change_reach ct_change_reach), sl_change_reach⟩)
    (co_change_reach : PySem.W.codeIn K cd_change_reach "change_reach" = true) (ke_change_reach : PySem.W.keepIn K (.ref a_change_reach) = true)
    {od_pair_ranks an_pair_ranks : Option Addr} {sl_pair_ranks : Array (Option Value)} {oc_pair_ranks kV_pair_ranks dc_pair_ranks pm_pair_ranks cd_pair_ranks ct_pair_ranks : Value} {a_pair_ranks : Addr}
    (na_pair_ranks : PySem.W.nsIn K mainGlobals "pair_ranks" = some (some (.ref a_pair_ranks)))
    (lo_pair_ranks : K.lookup a_pair_ranks = some ⟨oc_pair_ranks, od_pair_ranks, .func (PySem.W.fnOf "pair_ranks" "pair_ranks" (defArgs s_pair_ranks) (defBody s_pair_ranks) (defScope s_pair_ranks) .none kV_pair_ranks dc_pair_ranks pm_pair_ranks an_pair_ranks cd_pair_ranks ct_pair_ranks), sl_pair_ranks⟩)
    (co_pair_ranks : PySem.W.codeIn K cd_pair_ranks "pair_ranks" = true) (ke_pair_ranks : PySem.W.keepIn K (.ref a_pair_ranks) = true)
    {od_reach_ranks an_reach_ranks : Option Addr} {sl_reach_ranks : Array (Option Value)} {oc_reach_ranks kV_reach_ranks dc_reach_ranks pm_reach_ranks cd_reach_ranks ct_reach_ranks : Value} {a_reach_ranks : Addr}
    (na_reach_ranks : PySem.W.nsIn K mainGlobals "reach_ranks" = some (some (.ref a_reach_ranks)))
    (lo_reach_ranks : K.lookup a_reach_ranks = some ⟨oc_reach_ranks, od_reach_ranks, .func (PySem.W.fnOf "reach_ranks" "reach_ranks" (defArgs s_reach_ranks) (defBody s_reach_ranks) (defScope s_reach_ranks) .none kV_reach_ranks dc_reach_ranks pm_reach_ranks an_reach_ranks cd_reach_ranks ct_reach_ranks), sl_reach_ranks⟩)
    (co_reach_ranks : PySem.W.codeIn K cd_reach_ranks "reach_ranks" = true) (ke_reach_ranks : PySem.W.keepIn K (.ref a_reach_ranks) = true)
    {od_touched_states an_touched_states : Option Addr} {sl_touched_states : Array (Option Value)} {oc_touched_states kV_touched_states dc_touched_states pm_touched_states cd_touched_states ct_touched_states : Value} {a_touched_states : Addr}
    (na_touched_states : PySem.W.nsIn K mainGlobals "touched_states" = some (some (.ref a_touched_states)))
    (lo_touched_states : K.lookup a_touched_states = some ⟨oc_touched_states, od_touched_states, .func (PySem.W.fnOf "touched_states" "touched_states" (defArgs s_touched_states) (defBody s_touched_states) (defScope s_touched_states) .none kV_touched_states dc_touched_states pm_touched_states an_touched_states cd_touched_states ct_touched_states), sl_touched_states⟩)
    (co_touched_states : PySem.W.codeIn K cd_touched_states "touched_states" = true) (ke_touched_states : PySem.W.keepIn K (.ref a_touched_states) = true)
    {od_law_later_doors an_law_later_doors : Option Addr} {sl_law_later_doors : Array (Option Value)} {oc_law_later_doors kV_law_later_doors dc_law_later_doors pm_law_later_doors cd_law_later_doors ct_law_later_doors : Value} {a_law_later_doors : Addr}
    (na_law_later_doors : PySem.W.nsIn K mainGlobals "_law_later_doors" = some (some (.ref a_law_later_doors)))
    (lo_law_later_doors : K.lookup a_law_later_doors = some ⟨oc_law_later_doors, od_law_later_doors, .func (PySem.W.fnOf "_law_later_doors" "_law_later_doors" (defArgs s_law_later_doors) (defBody s_law_later_doors) (defScope s_law_later_doors) .none kV_law_later_doors dc_law_later_doors pm_law_later_doors an_law_later_doors cd_law_later_doors ct_law_later_doors), sl_law_later_doors⟩)
    (co_law_later_doors : PySem.W.codeIn K cd_law_later_doors "_law_later_doors" = true) (ke_law_later_doors : PySem.W.keepIn K (.ref a_law_later_doors) = true)
    {od_law_refused an_law_refused : Option Addr} {sl_law_refused : Array (Option Value)} {oc_law_refused kV_law_refused dc_law_refused pm_law_refused cd_law_refused ct_law_refused : Value} {a_law_refused : Addr}
    (na_law_refused : PySem.W.nsIn K mainGlobals "_law_refused" = some (some (.ref a_law_refused)))
    (lo_law_refused : K.lookup a_law_refused = some ⟨oc_law_refused, od_law_refused, .func (PySem.W.fnOf "_law_refused" "_law_refused" (defArgs s_law_refused) (defBody s_law_refused) (defScope s_law_refused) .none kV_law_refused dc_law_refused pm_law_refused an_law_refused cd_law_refused ct_law_refused), sl_law_refused⟩)
    (co_law_refused : PySem.W.codeIn K cd_law_refused "_law_refused" = true) (ke_law_refused : PySem.W.keepIn K (.ref a_law_refused) = true)
    {od_law an_law : Option Addr} {sl_law : Array (Option Value)} {oc_law kV_law dc_law pm_law cd_law ct_law : Value} {a_law : Addr}
    (na_law : PySem.W.nsIn K mainGlobals "law" = some (some (.ref a_law)))
    (lo_law : K.lookup a_law = some ⟨oc_law, od_law, .func (PySem.W.fnOf "law" "law" (defArgs s_law) (defBody s_law) (defScope s_law) .none kV_law dc_law pm_law an_law cd_law ct_law), sl_law⟩)
    (co_law : PySem.W.codeIn K cd_law "law" = true) (ke_law : PySem.W.keepIn K (.ref a_law) = true)
    {t_MOST_STATES : Tok} (gc_MOST_STATES : PySem.W.nsIn K mainGlobals "MOST_STATES" = some (some (.int (4) t_MOST_STATES)))
    {t_MOST_RULES : Tok} (gc_MOST_RULES : PySem.W.nsIn K mainGlobals "MOST_RULES" = some (some (.int (12) t_MOST_RULES)))
    {t_MOST_NODES : Tok} (gc_MOST_NODES : PySem.W.nsIn K mainGlobals "MOST_NODES" = some (some (.int (250) t_MOST_NODES)))
    {t_NO_PARENT : Tok} (gc_NO_PARENT : PySem.W.nsIn K mainGlobals "NO_PARENT" = some (some (.int (-1) t_NO_PARENT)))
    {t_MOST_ROWS : Tok} (gc_MOST_ROWS : PySem.W.nsIn K mainGlobals "MOST_ROWS" = some (some (.int (400) t_MOST_ROWS)))
    {t_MOST_RULES_TO_CHOOSE : Tok} (gc_MOST_RULES_TO_CHOOSE : PySem.W.nsIn K mainGlobals "MOST_RULES_TO_CHOOSE" = some (some (.int (7) t_MOST_RULES_TO_CHOOSE)))
    {ca_BadBook : Addr} (ga_BadBook : PySem.W.nsIn K mainGlobals "BadBook" = some (some (.ref ca_BadBook)))
    {ca_BadState : Addr} (ga_BadState : PySem.W.nsIn K mainGlobals "BadState" = some (some (.ref ca_BadState)))
    {ca_BadTree : Addr} (ga_BadTree : PySem.W.nsIn K mainGlobals "BadTree" = some (some (.ref ca_BadTree)))
    {ca_NoNode : Addr} (ga_NoNode : PySem.W.nsIn K mainGlobals "NoNode" = some (some (.ref ca_NoNode)))
    {ca_UnlikeBooks : Addr} (ga_UnlikeBooks : PySem.W.nsIn K mainGlobals "UnlikeBooks" = some (some (.ref ca_UnlikeBooks)))
    {ca_RestError : Addr} (ga_RestError : PySem.W.nsIn K mainGlobals "RestError" = some (some (.ref ca_RestError)))
    {ca_BadReader : Addr} (ga_BadReader : PySem.W.nsIn K mainGlobals "BadReader" = some (some (.ref ca_BadReader)))
    {ca_NoOneRest : Addr} (ga_NoOneRest : PySem.W.nsIn K mainGlobals "NoOneRest" = some (some (.ref ca_NoOneRest)))
    {ca_NoEnd : Addr} (ga_NoEnd : PySem.W.nsIn K mainGlobals "NoEnd" = some (some (.ref ca_NoEnd)))
    (er_BadBook : errF K ca_BadBook = true)
    (er_BadState : errF K ca_BadState = true)
    (er_BadTree : errF K ca_BadTree = true)
    (er_NoNode : errF K ca_NoNode = true)
    (er_UnlikeBooks : errF K ca_UnlikeBooks = true)
    (xm_BadBook_BadBook : PySem.W.exmOne K (.ref ca_BadBook) (.ref ca_BadBook) = some true)
    (xm_BadState_BadBook : PySem.W.exmOne K (.ref ca_BadState) (.ref ca_BadBook) = some false)
    (xm_BadTree_BadBook : PySem.W.exmOne K (.ref ca_BadTree) (.ref ca_BadBook) = some false)
    (xm_NoNode_BadBook : PySem.W.exmOne K (.ref ca_NoNode) (.ref ca_BadBook) = some false)
    (xm_UnlikeBooks_BadBook : PySem.W.exmOne K (.ref ca_UnlikeBooks) (.ref ca_BadBook) = some false)
    (xm_RestError_BadBook : PySem.W.exmOne K (.ref ca_RestError) (.ref ca_BadBook) = some false)
    (xm_BadReader_BadBook : PySem.W.exmOne K (.ref ca_BadReader) (.ref ca_BadBook) = some false)
    (xm_NoOneRest_BadBook : PySem.W.exmOne K (.ref ca_NoOneRest) (.ref ca_BadBook) = some false)
    (xm_NoEnd_BadBook : PySem.W.exmOne K (.ref ca_NoEnd) (.ref ca_BadBook) = some false)
    (eb_tabi : tabIB K (ecL [("BadBook", ca_BadBook), ("BadState", ca_BadState), ("BadTree", ca_BadTree), ("NoNode", ca_NoNode), ("UnlikeBooks", ca_UnlikeBooks), ("RestError", ca_RestError), ("BadReader", ca_BadReader), ("NoOneRest", ca_NoOneRest), ("NoEnd", ca_NoEnd)]) tabi = true)
    (eb_tabg : tabGB K (ecL [("BadBook", ca_BadBook), ("BadState", ca_BadState), ("BadTree", ca_BadTree), ("NoNode", ca_NoNode), ("UnlikeBooks", ca_UnlikeBooks), ("RestError", ca_RestError), ("BadReader", ca_BadReader), ("NoOneRest", ca_NoOneRest), ("NoEnd", ca_NoEnd)]) tabl = true)
    (eb_zz : bltB K ["len", "range", "isinstance", "int", "bool", "str", "list", "tuple", "dict", "set", "min", "max", "sum", "all", "any", "sorted", "enumerate", "zip", "ValueError"] = true) :
    ∃ fd : FuncData, (∀ (s : Shared) (v : Value), BindsTo s fd ⟨[v], []⟩ [("script", v)]) ∧ ∀ base : Heap, K.In base → base.Ns mainGlobals mg → ∃ ec : EC, FnOk l.prog w K mg base (L2.CX l.prog w) 14 fa fd ["script"] (spD K ec 1 f_law) := by
  have e := hfa.symm.trans (PySem.W.mg_of X G na_law)
  cases e
  have T : Bl mg := ⟨PySem.W.mg_none_of X G (bltB_at eb_zz (x := "len") (by decide)), PySem.W.mg_none_of X G (bltB_at eb_zz (x := "range") (by decide)), PySem.W.mg_none_of X G (bltB_at eb_zz (x := "isinstance") (by decide)), PySem.W.mg_none_of X G (bltB_at eb_zz (x := "int") (by decide)), PySem.W.mg_none_of X G (bltB_at eb_zz (x := "bool") (by decide)), PySem.W.mg_none_of X G (bltB_at eb_zz (x := "str") (by decide)), PySem.W.mg_none_of X G (bltB_at eb_zz (x := "list") (by decide)), PySem.W.mg_none_of X G (bltB_at eb_zz (x := "tuple") (by decide)), PySem.W.mg_none_of X G (bltB_at eb_zz (x := "dict") (by decide)), PySem.W.mg_none_of X G (bltB_at eb_zz (x := "set") (by decide)), PySem.W.mg_none_of X G (bltB_at eb_zz (x := "min") (by decide)), PySem.W.mg_none_of X G (bltB_at eb_zz (x := "max") (by decide)), PySem.W.mg_none_of X G (bltB_at eb_zz (x := "sum") (by decide)), PySem.W.mg_none_of X G (bltB_at eb_zz (x := "all") (by decide)), PySem.W.mg_none_of X G (bltB_at eb_zz (x := "any") (by decide)), PySem.W.mg_none_of X G (bltB_at eb_zz (x := "sorted") (by decide)), PySem.W.mg_none_of X G (bltB_at eb_zz (x := "enumerate") (by decide)), PySem.W.mg_none_of X G (bltB_at eb_zz (x := "zip") (by decide))⟩
  have C : Cn mg := ⟨⟨_, PySem.W.mg_of X G gc_MOST_STATES⟩, ⟨_, PySem.W.mg_of X G gc_MOST_RULES⟩, ⟨_, PySem.W.mg_of X G gc_MOST_NODES⟩, ⟨_, PySem.W.mg_of X G gc_NO_PARENT⟩, ⟨_, PySem.W.mg_of X G gc_MOST_ROWS⟩, ⟨_, PySem.W.mg_of X G gc_MOST_RULES_TO_CHOOSE⟩⟩
  have F_law_deck := fun_mk (st := s_law_deck) lo_law_deck co_law_deck ke_law_deck
  have D_law_deck : DAt K mg "_law_deck" s_law_deck P_law_deck := ⟨_, _, PySem.W.mg_of X G na_law_deck, F_law_deck, F_law_deck.binds (ps := P_law_deck) fun _ _ _ _ _ _ => pat2 (fun _ _ => rfl)⟩
  have F_law_pick := fun_mk (st := s_law_pick) lo_law_pick co_law_pick ke_law_pick
  have D_law_pick : DAt K mg "_law_pick" s_law_pick P_law_pick := ⟨_, _, PySem.W.mg_of X G na_law_pick, F_law_pick, F_law_pick.binds (ps := P_law_pick) fun _ _ _ _ _ _ => pat2 (fun _ _ => rfl)⟩
  have F_law_put := fun_mk (st := s_law_put) lo_law_put co_law_put ke_law_put
  have D_law_put : DAt K mg "_law_put" s_law_put P_law_put := ⟨_, _, PySem.W.mg_of X G na_law_put, F_law_put, F_law_put.binds (ps := P_law_put) fun _ _ _ _ _ _ => pat2 (fun _ _ => rfl)⟩
  have F_law_signal := fun_mk (st := s_law_signal) lo_law_signal co_law_signal ke_law_signal
  have D_law_signal : DAt K mg "_law_signal" s_law_signal P_law_signal := ⟨_, _, PySem.W.mg_of X G na_law_signal, F_law_signal, F_law_signal.binds (ps := P_law_signal) fun _ _ _ _ _ _ => pat2 (fun _ _ => rfl)⟩
  have F_law_free := fun_mk (st := s_law_free) lo_law_free co_law_free ke_law_free
  have D_law_free : DAt K mg "_law_free" s_law_free P_law_free := ⟨_, _, PySem.W.mg_of X G na_law_free, F_law_free, F_law_free.binds (ps := P_law_free) fun _ _ _ _ _ _ => pat4 (fun _ _ _ _ => rfl)⟩
  have F_law_bad_rule := fun_mk (st := s_law_bad_rule) lo_law_bad_rule co_law_bad_rule ke_law_bad_rule
  have D_law_bad_rule : DAt K mg "_law_bad_rule" s_law_bad_rule P_law_bad_rule := ⟨_, _, PySem.W.mg_of X G na_law_bad_rule, F_law_bad_rule, F_law_bad_rule.binds (ps := P_law_bad_rule) fun _ _ _ _ _ _ => pat4 (fun _ _ _ _ => rfl)⟩
  have F_law_thirteen := fun_mk (st := s_law_thirteen) lo_law_thirteen co_law_thirteen ke_law_thirteen
  have D_law_thirteen : DAt K mg "_law_thirteen" s_law_thirteen P_law_thirteen := ⟨_, _, PySem.W.mg_of X G na_law_thirteen, F_law_thirteen, F_law_thirteen.binds (ps := P_law_thirteen) fun _ _ _ _ _ _ => pat0 rfl⟩
  have F_law_bad := fun_mk (st := s_law_bad) lo_law_bad co_law_bad ke_law_bad
  have D_law_bad : DAt K mg "_law_bad" s_law_bad P_law_bad := ⟨_, _, PySem.W.mg_of X G na_law_bad, F_law_bad, F_law_bad.binds (ps := P_law_bad) fun _ _ _ _ _ _ => pat3 (fun _ _ _ => rfl)⟩
  have F_is_tuple_of := fun_mk (st := s_is_tuple_of) lo_is_tuple_of co_is_tuple_of ke_is_tuple_of
  have D_is_tuple_of : DAt K mg "is_tuple_of" s_is_tuple_of P_is_tuple_of := ⟨_, _, PySem.W.mg_of X G na_is_tuple_of, F_is_tuple_of, F_is_tuple_of.binds (ps := P_is_tuple_of) fun _ _ _ _ _ _ => pat2 (fun _ _ => rfl)⟩
  have F_is_integer := fun_mk (st := s_is_integer) lo_is_integer co_is_integer ke_is_integer
  have D_is_integer : DAt K mg "is_integer" s_is_integer P_is_integer := ⟨_, _, PySem.W.mg_of X G na_is_integer, F_is_integer, F_is_integer.binds (ps := P_is_integer) fun _ _ _ _ _ _ => pat1 (fun _ => rfl)⟩
  have F_is_integer_from := fun_mk (st := s_is_integer_from) lo_is_integer_from co_is_integer_from ke_is_integer_from
  have D_is_integer_from : DAt K mg "is_integer_from" s_is_integer_from P_is_integer_from := ⟨_, _, PySem.W.mg_of X G na_is_integer_from, F_is_integer_from, F_is_integer_from.binds (ps := P_is_integer_from) fun _ _ _ _ _ _ => pat3 (fun _ _ _ => rfl)⟩
  have F_is_number_below := fun_mk (st := s_is_number_below) lo_is_number_below co_is_number_below ke_is_number_below
  have D_is_number_below : DAt K mg "is_number_below" s_is_number_below P_is_number_below := ⟨_, _, PySem.W.mg_of X G na_is_number_below, F_is_number_below, F_is_number_below.binds (ps := P_is_number_below) fun _ _ _ _ _ _ => pat2 (fun _ _ => rfl)⟩
  have F_are_numbers_below := fun_mk (st := s_are_numbers_below) lo_are_numbers_below co_are_numbers_below ke_are_numbers_below
  have D_are_numbers_below : DAt K mg "are_numbers_below" s_are_numbers_below P_are_numbers_below := ⟨_, _, PySem.W.mg_of X G na_are_numbers_below, F_are_numbers_below, F_are_numbers_below.binds (ps := P_are_numbers_below) fun _ _ _ _ _ _ => pat2 (fun _ _ => rfl)⟩
  have F_is_rule := fun_mk (st := s_is_rule) lo_is_rule co_is_rule ke_is_rule
  have D_is_rule : DAt K mg "is_rule" s_is_rule P_is_rule := ⟨_, _, PySem.W.mg_of X G na_is_rule, F_is_rule, F_is_rule.binds (ps := P_is_rule) fun _ _ _ _ _ _ => pat2 (fun _ _ => rfl)⟩
  have F_is_book := fun_mk (st := s_is_book) lo_is_book co_is_book ke_is_book
  have D_is_book : DAt K mg "is_book" s_is_book P_is_book := ⟨_, _, PySem.W.mg_of X G na_is_book, F_is_book, F_is_book.binds (ps := P_is_book) fun _ _ _ _ _ _ => pat1 (fun _ => rfl)⟩
  have F_check_book := fun_mk (st := s_check_book) lo_check_book co_check_book ke_check_book
  have D_check_book : DAt K mg "check_book" s_check_book P_check_book := ⟨_, _, PySem.W.mg_of X G na_check_book, F_check_book, F_check_book.binds (ps := P_check_book) fun _ _ _ _ _ _ => pat1 (fun _ => rfl)⟩
  have F_outcome_of := fun_mk (st := s_outcome_of) lo_outcome_of co_outcome_of ke_outcome_of
  have D_outcome_of : DAt K mg "outcome_of" s_outcome_of P_outcome_of := ⟨_, _, PySem.W.mg_of X G na_outcome_of, F_outcome_of, F_outcome_of.binds (ps := P_outcome_of) fun _ _ _ _ _ _ => pat1 (fun _ => rfl)⟩
  have F_outcome_holds := fun_mk (st := s_outcome_holds) lo_outcome_holds co_outcome_holds ke_outcome_holds
  have D_outcome_holds : DAt K mg "outcome_holds" s_outcome_holds P_outcome_holds := ⟨_, _, PySem.W.mg_of X G na_outcome_holds, F_outcome_holds, F_outcome_holds.binds (ps := P_outcome_holds) fun _ _ _ _ _ _ => pat2 (fun _ _ => rfl)⟩
  have F_are_parents := fun_mk (st := s_are_parents) lo_are_parents co_are_parents ke_are_parents
  have D_are_parents : DAt K mg "are_parents" s_are_parents P_are_parents := ⟨_, _, PySem.W.mg_of X G na_are_parents, F_are_parents, F_are_parents.binds (ps := P_are_parents) fun _ _ _ _ _ _ => pat1 (fun _ => rfl)⟩
  have F_is_tree_of := fun_mk (st := s_is_tree_of) lo_is_tree_of co_is_tree_of ke_is_tree_of
  have D_is_tree_of : DAt K mg "is_tree_of" s_is_tree_of P_is_tree_of := ⟨_, _, PySem.W.mg_of X G na_is_tree_of, F_is_tree_of, F_is_tree_of.binds (ps := P_is_tree_of) fun _ _ _ _ _ _ => pat2 (fun _ _ => rfl)⟩
  have F_is_tree := fun_mk (st := s_is_tree) lo_is_tree co_is_tree ke_is_tree
  have D_is_tree : DAt K mg "is_tree" s_is_tree P_is_tree := ⟨_, _, PySem.W.mg_of X G na_is_tree, F_is_tree, F_is_tree.binds (ps := P_is_tree) fun _ _ _ _ _ _ => pat2 (fun _ _ => rfl)⟩
  have F_check_tree := fun_mk (st := s_check_tree) lo_check_tree co_check_tree ke_check_tree
  have D_check_tree : DAt K mg "check_tree" s_check_tree P_check_tree := ⟨_, _, PySem.W.mg_of X G na_check_tree, F_check_tree, F_check_tree.binds (ps := P_check_tree) fun _ _ _ _ _ _ => pat2 (fun _ _ => rfl)⟩
  have F_rest_of := fun_mk (st := s_rest_of) lo_rest_of co_rest_of ke_rest_of
  have D_rest_of : DAt K mg "rest_of" s_rest_of P_rest_of := ⟨_, _, PySem.W.mg_of X G na_rest_of, F_rest_of, F_rest_of.binds (ps := P_rest_of) fun _ _ _ _ _ _ => pat2 (fun _ _ => rfl)⟩
  have F_run_steps := fun_mk (st := s_run_steps) lo_run_steps co_run_steps ke_run_steps
  have D_run_steps : DAt K mg "run_steps" s_run_steps P_run_steps := ⟨_, _, PySem.W.mg_of X G na_run_steps, F_run_steps, F_run_steps.binds (ps := P_run_steps) fun _ _ _ _ _ _ => pat3 (fun _ _ _ => rfl)⟩
  have F_join_runs := fun_mk (st := s_join_runs) lo_join_runs co_join_runs ke_join_runs
  have D_join_runs : DAt K mg "join_runs" s_join_runs P_join_runs := ⟨_, _, PySem.W.mg_of X G na_join_runs, F_join_runs, F_join_runs.binds (ps := P_join_runs) fun _ _ _ _ _ _ => pat4 (fun _ _ _ _ => rfl)⟩
  have F_is_reader := fun_mk (st := s_is_reader) lo_is_reader co_is_reader ke_is_reader
  have D_is_reader : DAt K mg "is_reader" s_is_reader P_is_reader := ⟨_, _, PySem.W.mg_of X G na_is_reader, F_is_reader, F_is_reader.binds (ps := P_is_reader) fun _ _ _ _ _ _ => pat2 (fun _ _ => rfl)⟩
  have F_reader_of := fun_mk (st := s_reader_of) lo_reader_of co_reader_of ke_reader_of
  have D_reader_of : DAt K mg "reader_of" s_reader_of P_reader_of := ⟨_, _, PySem.W.mg_of X G na_reader_of, F_reader_of, F_reader_of.binds (ps := P_reader_of) fun _ _ _ _ _ _ => pat1 (fun _ => rfl)⟩
  have F_reader_holds := fun_mk (st := s_reader_holds) lo_reader_holds co_reader_holds ke_reader_holds
  have D_reader_holds : DAt K mg "reader_holds" s_reader_holds P_reader_holds := ⟨_, _, PySem.W.mg_of X G na_reader_holds, F_reader_holds, F_reader_holds.binds (ps := P_reader_holds) fun _ _ _ _ _ _ => pat2 (fun _ _ => rfl)⟩
  have F_two_readers := fun_mk (st := s_two_readers) lo_two_readers co_two_readers ke_two_readers
  have D_two_readers : DAt K mg "two_readers" s_two_readers P_two_readers := ⟨_, _, PySem.W.mg_of X G na_two_readers, F_two_readers, F_two_readers.binds (ps := P_two_readers) fun _ _ _ _ _ _ => pat2 (fun _ _ => rfl)⟩
  have F_first_difference := fun_mk (st := s_first_difference) lo_first_difference co_first_difference ke_first_difference
  have D_first_difference : DAt K mg "first_difference" s_first_difference P_first_difference := ⟨_, _, PySem.W.mg_of X G na_first_difference, F_first_difference, F_first_difference.binds (ps := P_first_difference) fun _ _ _ _ _ _ => pat2 (fun _ _ => rfl)⟩
  have F_first_clash := fun_mk (st := s_first_clash) lo_first_clash co_first_clash ke_first_clash
  have D_first_clash : DAt K mg "first_clash" s_first_clash P_first_clash := ⟨_, _, PySem.W.mg_of X G na_first_clash, F_first_clash, F_first_clash.binds (ps := P_first_clash) fun _ _ _ _ _ _ => pat2 (fun _ _ => rfl)⟩
  have F_law_first_doors := fun_mk (st := s_law_first_doors) lo_law_first_doors co_law_first_doors ke_law_first_doors
  have D_law_first_doors : DAt K mg "_law_first_doors" s_law_first_doors P_law_first_doors := ⟨_, _, PySem.W.mg_of X G na_law_first_doors, F_law_first_doors, F_law_first_doors.binds (ps := P_law_first_doors) fun _ _ _ _ _ _ => pat3 (fun _ _ _ => rfl)⟩
  have F_spare_rules := fun_mk (st := s_spare_rules) lo_spare_rules co_spare_rules ke_spare_rules
  have D_spare_rules : DAt K mg "spare_rules" s_spare_rules P_spare_rules := ⟨_, _, PySem.W.mg_of X G na_spare_rules, F_spare_rules, F_spare_rules.binds (ps := P_spare_rules) fun _ _ _ _ _ _ => pat1 (fun _ => rfl)⟩
  have F_check_few_rules := fun_mk (st := s_check_few_rules) lo_check_few_rules co_check_few_rules ke_check_few_rules
  have D_check_few_rules : DAt K mg "check_few_rules" s_check_few_rules P_check_few_rules := ⟨_, _, PySem.W.mg_of X G na_check_few_rules, F_check_few_rules, F_check_few_rules.binds (ps := P_check_few_rules) fun _ _ _ _ _ _ => pat1 (fun _ => rfl)⟩
  have F_fewest_rules := fun_mk (st := s_fewest_rules) lo_fewest_rules co_fewest_rules ke_fewest_rules
  have D_fewest_rules : DAt K mg "fewest_rules" s_fewest_rules P_fewest_rules := ⟨_, _, PySem.W.mg_of X G na_fewest_rules, F_fewest_rules, F_fewest_rules.binds (ps := P_fewest_rules) fun _ _ _ _ _ _ => pat1 (fun _ => rfl)⟩
  have F_fewest_removals := fun_mk (st := s_fewest_removals) lo_fewest_removals co_fewest_removals ke_fewest_removals
  have D_fewest_removals : DAt K mg "fewest_removals" s_fewest_removals P_fewest_removals := ⟨_, _, PySem.W.mg_of X G na_fewest_removals, F_fewest_removals, F_fewest_removals.binds (ps := P_fewest_removals) fun _ _ _ _ _ _ => pat1 (fun _ => rfl)⟩
  have F_check_settled_node := fun_mk (st := s_check_settled_node) lo_check_settled_node co_check_settled_node ke_check_settled_node
  have D_check_settled_node : DAt K mg "check_settled_node" s_check_settled_node P_check_settled_node := ⟨_, _, PySem.W.mg_of X G na_check_settled_node, F_check_settled_node, F_check_settled_node.binds (ps := P_check_settled_node) fun _ _ _ _ _ _ => pat4 (fun _ _ _ _ => rfl)⟩
  have F_changed_nodes := fun_mk (st := s_changed_nodes) lo_changed_nodes co_changed_nodes ke_changed_nodes
  have D_changed_nodes : DAt K mg "changed_nodes" s_changed_nodes P_changed_nodes := ⟨_, _, PySem.W.mg_of X G na_changed_nodes, F_changed_nodes, F_changed_nodes.binds (ps := P_changed_nodes) fun _ _ _ _ _ _ => pat4 (fun _ _ _ _ => rfl)⟩
  have F_change_reach := fun_mk (st := s_change_reach) lo_change_reach co_change_reach ke_change_reach
  have D_change_reach : DAt K mg "change_reach" s_change_reach P_change_reach := ⟨_, _, PySem.W.mg_of X G na_change_reach, F_change_reach, F_change_reach.binds (ps := P_change_reach) fun _ _ _ _ _ _ => pat1 (fun _ => rfl)⟩
  have F_pair_ranks := fun_mk (st := s_pair_ranks) lo_pair_ranks co_pair_ranks ke_pair_ranks
  have D_pair_ranks : DAt K mg "pair_ranks" s_pair_ranks P_pair_ranks := ⟨_, _, PySem.W.mg_of X G na_pair_ranks, F_pair_ranks, F_pair_ranks.binds (ps := P_pair_ranks) fun _ _ _ _ _ _ => pat1 (fun _ => rfl)⟩
  have F_reach_ranks := fun_mk (st := s_reach_ranks) lo_reach_ranks co_reach_ranks ke_reach_ranks
  have D_reach_ranks : DAt K mg "reach_ranks" s_reach_ranks P_reach_ranks := ⟨_, _, PySem.W.mg_of X G na_reach_ranks, F_reach_ranks, F_reach_ranks.binds (ps := P_reach_ranks) fun _ _ _ _ _ _ => pat1 (fun _ => rfl)⟩
  have F_touched_states := fun_mk (st := s_touched_states) lo_touched_states co_touched_states ke_touched_states
  have D_touched_states : DAt K mg "touched_states" s_touched_states P_touched_states := ⟨_, _, PySem.W.mg_of X G na_touched_states, F_touched_states, F_touched_states.binds (ps := P_touched_states) fun _ _ _ _ _ _ => pat2 (fun _ _ => rfl)⟩
  have F_law_later_doors := fun_mk (st := s_law_later_doors) lo_law_later_doors co_law_later_doors ke_law_later_doors
  have D_law_later_doors : DAt K mg "_law_later_doors" s_law_later_doors P_law_later_doors := ⟨_, _, PySem.W.mg_of X G na_law_later_doors, F_law_later_doors, F_law_later_doors.binds (ps := P_law_later_doors) fun _ _ _ _ _ _ => pat3 (fun _ _ _ => rfl)⟩
  have F_law_refused := fun_mk (st := s_law_refused) lo_law_refused co_law_refused ke_law_refused
  have D_law_refused : DAt K mg "_law_refused" s_law_refused P_law_refused := ⟨_, _, PySem.W.mg_of X G na_law_refused, F_law_refused, F_law_refused.binds (ps := P_law_refused) fun _ _ _ _ _ _ => pat3 (fun _ _ _ => rfl)⟩
  have F_law := fun_mk (st := s_law) lo_law co_law ke_law
  have D_law : DAt K mg "law" s_law P_law := ⟨_, _, PySem.W.mg_of X G na_law, F_law, F_law.binds (ps := P_law) fun _ _ _ _ _ _ => pat1 (fun _ => rfl)⟩
  refine ⟨PySem.W.fnOf "law" "law" (defArgs s_law) (defBody s_law) (defScope s_law) .none kV_law dc_law pm_law an_law cd_law ct_law, fun s v => .of_eq rfl, fun base _ _ => ⟨ecL [("BadBook", ca_BadBook), ("BadState", ca_BadState), ("BadTree", ca_BadTree), ("NoNode", ca_NoNode), ("UnlikeBooks", ca_UnlikeBooks), ("RestError", ca_RestError), ("BadReader", ca_BadReader), ("NoOneRest", ca_NoOneRest), ("NoEnd", ca_NoEnd)], ?_⟩⟩
  have Z : Er l.prog w K mg base (ecL [("BadBook", ca_BadBook), ("BadState", ca_BadState), ("BadTree", ca_BadTree), ("NoNode", ca_NoNode), ("UnlikeBooks", ca_UnlikeBooks), ("RestError", ca_RestError), ("BadReader", ca_BadReader), ("NoOneRest", ca_NoOneRest), ("NoEnd", ca_NoEnd)]) := ⟨PySem.W.mg_of X G ga_BadBook, PySem.W.mg_of X G ga_BadState, PySem.W.mg_of X G ga_BadTree, PySem.W.mg_of X G ga_NoNode, PySem.W.mg_of X G ga_UnlikeBooks, PySem.W.mg_of X G ga_RestError, PySem.W.mg_of X G ga_BadReader, PySem.W.mg_of X G ga_NoOneRest, PySem.W.mg_of X G ga_NoEnd, er_BadBook, er_BadState, er_BadTree, er_NoNode, er_UnlikeBooks, (tabT_cons xm_BadBook_BadBook (tabT_cons xm_BadState_BadBook (tabT_cons xm_BadTree_BadBook (tabT_cons xm_NoNode_BadBook (tabT_cons xm_UnlikeBooks_BadBook (tabT_cons xm_RestError_BadBook (tabT_cons xm_BadReader_BadBook (tabT_cons xm_NoOneRest_BadBook (tabT_cons xm_NoEnd_BadBook tabT_nil))))))))), tabIB_ok eb_tabi, PySem.W.mg_none_of X G (bltB_at eb_zz (x := "ValueError") (by decide)), tabGB_ok eb_tabg⟩
  have G_law_deck : DOkO l.prog w K mg base (ecL [("BadBook", ca_BadBook), ("BadState", ca_BadState), ("BadTree", ca_BadTree), ("NoNode", ca_NoNode), ("UnlikeBooks", ca_UnlikeBooks), ("RestError", ca_RestError), ("BadReader", ca_BadReader), ("NoOneRest", ca_NoOneRest), ("NoEnd", ca_NoEnd)]) "_law_deck" P_law_deck 1 2 f_law_deck := ok_law_deck T C Z D_law_deck
  have G_law_pick : DOkI l.prog w K mg base (ecL [("BadBook", ca_BadBook), ("BadState", ca_BadState), ("BadTree", ca_BadTree), ("NoNode", ca_NoNode), ("UnlikeBooks", ca_UnlikeBooks), ("RestError", ca_RestError), ("BadReader", ca_BadReader), ("NoOneRest", ca_NoOneRest), ("NoEnd", ca_NoEnd)]) "_law_pick" P_law_pick 1 2 f_law_pick := ok_law_pick T C Z D_law_pick
  have G_law_put : DOkI l.prog w K mg base (ecL [("BadBook", ca_BadBook), ("BadState", ca_BadState), ("BadTree", ca_BadTree), ("NoNode", ca_NoNode), ("UnlikeBooks", ca_UnlikeBooks), ("RestError", ca_RestError), ("BadReader", ca_BadReader), ("NoOneRest", ca_NoOneRest), ("NoEnd", ca_NoEnd)]) "_law_put" P_law_put 1 2 f_law_put := ok_law_put T C Z D_law_put
  have G_law_signal : DOkI l.prog w K mg base (ecL [("BadBook", ca_BadBook), ("BadState", ca_BadState), ("BadTree", ca_BadTree), ("NoNode", ca_NoNode), ("UnlikeBooks", ca_UnlikeBooks), ("RestError", ca_RestError), ("BadReader", ca_BadReader), ("NoOneRest", ca_NoOneRest), ("NoEnd", ca_NoEnd)]) "_law_signal" P_law_signal 2 2 f_law_signal := ok_law_signal T C Z D_law_signal G_law_pick
  have G_law_free : DOkI l.prog w K mg base (ecL [("BadBook", ca_BadBook), ("BadState", ca_BadState), ("BadTree", ca_BadTree), ("NoNode", ca_NoNode), ("UnlikeBooks", ca_UnlikeBooks), ("RestError", ca_RestError), ("BadReader", ca_BadReader), ("NoOneRest", ca_NoOneRest), ("NoEnd", ca_NoEnd)]) "_law_free" P_law_free 3 4 f_law_free := ok_law_free T C Z D_law_free G_law_pick G_law_put G_law_signal
  have G_law_bad_rule : DOkI l.prog w K mg base (ecL [("BadBook", ca_BadBook), ("BadState", ca_BadState), ("BadTree", ca_BadTree), ("NoNode", ca_NoNode), ("UnlikeBooks", ca_UnlikeBooks), ("RestError", ca_RestError), ("BadReader", ca_BadReader), ("NoOneRest", ca_NoOneRest), ("NoEnd", ca_NoEnd)]) "_law_bad_rule" P_law_bad_rule 2 4 f_law_bad_rule := ok_law_bad_rule T C Z D_law_bad_rule G_law_pick
  have G_law_thirteen : DOk l.prog w K mg base (ecL [("BadBook", ca_BadBook), ("BadState", ca_BadState), ("BadTree", ca_BadTree), ("NoNode", ca_NoNode), ("UnlikeBooks", ca_UnlikeBooks), ("RestError", ca_RestError), ("BadReader", ca_BadReader), ("NoOneRest", ca_NoOneRest), ("NoEnd", ca_NoEnd)]) "_law_thirteen" P_law_thirteen 1 0 f_law_thirteen := ok_law_thirteen T C Z D_law_thirteen
  have G_law_bad : DOkI l.prog w K mg base (ecL [("BadBook", ca_BadBook), ("BadState", ca_BadState), ("BadTree", ca_BadTree), ("NoNode", ca_NoNode), ("UnlikeBooks", ca_UnlikeBooks), ("RestError", ca_RestError), ("BadReader", ca_BadReader), ("NoOneRest", ca_NoOneRest), ("NoEnd", ca_NoEnd)]) "_law_bad" P_law_bad 3 3 f_law_bad := ok_law_bad T C Z D_law_bad G_law_pick G_law_bad_rule G_law_thirteen
  have G_is_tuple_of : DOk l.prog w K mg base (ecL [("BadBook", ca_BadBook), ("BadState", ca_BadState), ("BadTree", ca_BadTree), ("NoNode", ca_NoNode), ("UnlikeBooks", ca_UnlikeBooks), ("RestError", ca_RestError), ("BadReader", ca_BadReader), ("NoOneRest", ca_NoOneRest), ("NoEnd", ca_NoEnd)]) "is_tuple_of" P_is_tuple_of 1 2 f_is_tuple_of := ok_is_tuple_of T C Z D_is_tuple_of
  have G_is_integer : DOk l.prog w K mg base (ecL [("BadBook", ca_BadBook), ("BadState", ca_BadState), ("BadTree", ca_BadTree), ("NoNode", ca_NoNode), ("UnlikeBooks", ca_UnlikeBooks), ("RestError", ca_RestError), ("BadReader", ca_BadReader), ("NoOneRest", ca_NoOneRest), ("NoEnd", ca_NoEnd)]) "is_integer" P_is_integer 1 1 f_is_integer := ok_is_integer T C Z D_is_integer
  have G_is_integer_from : DOk l.prog w K mg base (ecL [("BadBook", ca_BadBook), ("BadState", ca_BadState), ("BadTree", ca_BadTree), ("NoNode", ca_NoNode), ("UnlikeBooks", ca_UnlikeBooks), ("RestError", ca_RestError), ("BadReader", ca_BadReader), ("NoOneRest", ca_NoOneRest), ("NoEnd", ca_NoEnd)]) "is_integer_from" P_is_integer_from 2 3 f_is_integer_from := ok_is_integer_from T C Z D_is_integer_from G_is_integer
  have G_is_number_below : DOk l.prog w K mg base (ecL [("BadBook", ca_BadBook), ("BadState", ca_BadState), ("BadTree", ca_BadTree), ("NoNode", ca_NoNode), ("UnlikeBooks", ca_UnlikeBooks), ("RestError", ca_RestError), ("BadReader", ca_BadReader), ("NoOneRest", ca_NoOneRest), ("NoEnd", ca_NoEnd)]) "is_number_below" P_is_number_below 3 2 f_is_number_below := ok_is_number_below T C Z D_is_number_below G_is_integer_from
  have G_are_numbers_below : DOk l.prog w K mg base (ecL [("BadBook", ca_BadBook), ("BadState", ca_BadState), ("BadTree", ca_BadTree), ("NoNode", ca_NoNode), ("UnlikeBooks", ca_UnlikeBooks), ("RestError", ca_RestError), ("BadReader", ca_BadReader), ("NoOneRest", ca_NoOneRest), ("NoEnd", ca_NoEnd)]) "are_numbers_below" P_are_numbers_below 4 2 f_are_numbers_below := ok_are_numbers_below T C Z D_are_numbers_below G_is_number_below
  have G_is_rule : DOk l.prog w K mg base (ecL [("BadBook", ca_BadBook), ("BadState", ca_BadState), ("BadTree", ca_BadTree), ("NoNode", ca_NoNode), ("UnlikeBooks", ca_UnlikeBooks), ("RestError", ca_RestError), ("BadReader", ca_BadReader), ("NoOneRest", ca_NoOneRest), ("NoEnd", ca_NoEnd)]) "is_rule" P_is_rule 5 2 f_is_rule := ok_is_rule T C Z D_is_rule G_is_tuple_of G_are_numbers_below
  have G_is_book : DOk l.prog w K mg base (ecL [("BadBook", ca_BadBook), ("BadState", ca_BadState), ("BadTree", ca_BadTree), ("NoNode", ca_NoNode), ("UnlikeBooks", ca_UnlikeBooks), ("RestError", ca_RestError), ("BadReader", ca_BadReader), ("NoOneRest", ca_NoOneRest), ("NoEnd", ca_NoEnd)]) "is_book" P_is_book 6 1 f_is_book := ok_is_book T C Z D_is_book G_is_tuple_of G_is_integer_from G_is_rule
  have G_check_book : DOk l.prog w K mg base (ecL [("BadBook", ca_BadBook), ("BadState", ca_BadState), ("BadTree", ca_BadTree), ("NoNode", ca_NoNode), ("UnlikeBooks", ca_UnlikeBooks), ("RestError", ca_RestError), ("BadReader", ca_BadReader), ("NoOneRest", ca_NoOneRest), ("NoEnd", ca_NoEnd)]) "check_book" P_check_book 7 1 f_check_book := ok_check_book T C Z D_check_book G_is_book
  have G_outcome_of : DOk l.prog w K mg base (ecL [("BadBook", ca_BadBook), ("BadState", ca_BadState), ("BadTree", ca_BadTree), ("NoNode", ca_NoNode), ("UnlikeBooks", ca_UnlikeBooks), ("RestError", ca_RestError), ("BadReader", ca_BadReader), ("NoOneRest", ca_NoOneRest), ("NoEnd", ca_NoEnd)]) "outcome_of" P_outcome_of 8 1 f_outcome_of := ok_outcome_of T C Z D_outcome_of G_check_book
  have G_outcome_holds : DOk l.prog w K mg base (ecL [("BadBook", ca_BadBook), ("BadState", ca_BadState), ("BadTree", ca_BadTree), ("NoNode", ca_NoNode), ("UnlikeBooks", ca_UnlikeBooks), ("RestError", ca_RestError), ("BadReader", ca_BadReader), ("NoOneRest", ca_NoOneRest), ("NoEnd", ca_NoEnd)]) "outcome_holds" P_outcome_holds 8 2 f_outcome_holds := ok_outcome_holds T C Z D_outcome_holds G_check_book
  have G_are_parents : DOk l.prog w K mg base (ecL [("BadBook", ca_BadBook), ("BadState", ca_BadState), ("BadTree", ca_BadTree), ("NoNode", ca_NoNode), ("UnlikeBooks", ca_UnlikeBooks), ("RestError", ca_RestError), ("BadReader", ca_BadReader), ("NoOneRest", ca_NoOneRest), ("NoEnd", ca_NoEnd)]) "are_parents" P_are_parents 3 1 f_are_parents := ok_are_parents T C Z D_are_parents G_is_integer_from
  have G_is_tree_of : DOk l.prog w K mg base (ecL [("BadBook", ca_BadBook), ("BadState", ca_BadState), ("BadTree", ca_BadTree), ("NoNode", ca_NoNode), ("UnlikeBooks", ca_UnlikeBooks), ("RestError", ca_RestError), ("BadReader", ca_BadReader), ("NoOneRest", ca_NoOneRest), ("NoEnd", ca_NoEnd)]) "is_tree_of" P_is_tree_of 4 2 f_is_tree_of := ok_is_tree_of T C Z D_is_tree_of G_is_tuple_of G_are_parents G_is_number_below
  have G_is_tree : DOk l.prog w K mg base (ecL [("BadBook", ca_BadBook), ("BadState", ca_BadState), ("BadTree", ca_BadTree), ("NoNode", ca_NoNode), ("UnlikeBooks", ca_UnlikeBooks), ("RestError", ca_RestError), ("BadReader", ca_BadReader), ("NoOneRest", ca_NoOneRest), ("NoEnd", ca_NoEnd)]) "is_tree" P_is_tree 8 2 f_is_tree := ok_is_tree T C Z D_is_tree G_check_book G_are_numbers_below G_is_tree_of
  have G_check_tree : DOk l.prog w K mg base (ecL [("BadBook", ca_BadBook), ("BadState", ca_BadState), ("BadTree", ca_BadTree), ("NoNode", ca_NoNode), ("UnlikeBooks", ca_UnlikeBooks), ("RestError", ca_RestError), ("BadReader", ca_BadReader), ("NoOneRest", ca_NoOneRest), ("NoEnd", ca_NoEnd)]) "check_tree" P_check_tree 9 2 f_check_tree := ok_check_tree T C Z D_check_tree G_is_tree
  have G_rest_of : DOk l.prog w K mg base (ecL [("BadBook", ca_BadBook), ("BadState", ca_BadState), ("BadTree", ca_BadTree), ("NoNode", ca_NoNode), ("UnlikeBooks", ca_UnlikeBooks), ("RestError", ca_RestError), ("BadReader", ca_BadReader), ("NoOneRest", ca_NoOneRest), ("NoEnd", ca_NoEnd)]) "rest_of" P_rest_of 10 2 f_rest_of := ok_rest_of T C Z D_rest_of G_check_tree
  have G_run_steps : DOk l.prog w K mg base (ecL [("BadBook", ca_BadBook), ("BadState", ca_BadState), ("BadTree", ca_BadTree), ("NoNode", ca_NoNode), ("UnlikeBooks", ca_UnlikeBooks), ("RestError", ca_RestError), ("BadReader", ca_BadReader), ("NoOneRest", ca_NoOneRest), ("NoEnd", ca_NoEnd)]) "run_steps" P_run_steps 10 3 f_run_steps := ok_run_steps T C Z D_run_steps G_check_tree
  have G_join_runs : DOk l.prog w K mg base (ecL [("BadBook", ca_BadBook), ("BadState", ca_BadState), ("BadTree", ca_BadTree), ("NoNode", ca_NoNode), ("UnlikeBooks", ca_UnlikeBooks), ("RestError", ca_RestError), ("BadReader", ca_BadReader), ("NoOneRest", ca_NoOneRest), ("NoEnd", ca_NoEnd)]) "join_runs" P_join_runs 11 4 f_join_runs := ok_join_runs T C Z D_join_runs G_run_steps
  have G_is_reader : DOk l.prog w K mg base (ecL [("BadBook", ca_BadBook), ("BadState", ca_BadState), ("BadTree", ca_BadTree), ("NoNode", ca_NoNode), ("UnlikeBooks", ca_UnlikeBooks), ("RestError", ca_RestError), ("BadReader", ca_BadReader), ("NoOneRest", ca_NoOneRest), ("NoEnd", ca_NoEnd)]) "is_reader" P_is_reader 8 2 f_is_reader := ok_is_reader T C Z D_is_reader G_check_book
  have G_reader_of : DOk l.prog w K mg base (ecL [("BadBook", ca_BadBook), ("BadState", ca_BadState), ("BadTree", ca_BadTree), ("NoNode", ca_NoNode), ("UnlikeBooks", ca_UnlikeBooks), ("RestError", ca_RestError), ("BadReader", ca_BadReader), ("NoOneRest", ca_NoOneRest), ("NoEnd", ca_NoEnd)]) "reader_of" P_reader_of 8 1 f_reader_of := ok_reader_of T C Z D_reader_of G_check_book
  have G_reader_holds : DOk l.prog w K mg base (ecL [("BadBook", ca_BadBook), ("BadState", ca_BadState), ("BadTree", ca_BadTree), ("NoNode", ca_NoNode), ("UnlikeBooks", ca_UnlikeBooks), ("RestError", ca_RestError), ("BadReader", ca_BadReader), ("NoOneRest", ca_NoOneRest), ("NoEnd", ca_NoEnd)]) "reader_holds" P_reader_holds 8 2 f_reader_holds := ok_reader_holds T C Z D_reader_holds G_check_book
  have G_two_readers : DOk l.prog w K mg base (ecL [("BadBook", ca_BadBook), ("BadState", ca_BadState), ("BadTree", ca_BadTree), ("NoNode", ca_NoNode), ("UnlikeBooks", ca_UnlikeBooks), ("RestError", ca_RestError), ("BadReader", ca_BadReader), ("NoOneRest", ca_NoOneRest), ("NoEnd", ca_NoEnd)]) "two_readers" P_two_readers 8 2 f_two_readers := ok_two_readers T C Z D_two_readers G_check_book
  have G_first_difference : DOk l.prog w K mg base (ecL [("BadBook", ca_BadBook), ("BadState", ca_BadState), ("BadTree", ca_BadTree), ("NoNode", ca_NoNode), ("UnlikeBooks", ca_UnlikeBooks), ("RestError", ca_RestError), ("BadReader", ca_BadReader), ("NoOneRest", ca_NoOneRest), ("NoEnd", ca_NoEnd)]) "first_difference" P_first_difference 9 2 f_first_difference := ok_first_difference T C Z D_first_difference G_two_readers
  have G_first_clash : DOk l.prog w K mg base (ecL [("BadBook", ca_BadBook), ("BadState", ca_BadState), ("BadTree", ca_BadTree), ("NoNode", ca_NoNode), ("UnlikeBooks", ca_UnlikeBooks), ("RestError", ca_RestError), ("BadReader", ca_BadReader), ("NoOneRest", ca_NoOneRest), ("NoEnd", ca_NoEnd)]) "first_clash" P_first_clash 9 2 f_first_clash := ok_first_clash T C Z D_first_clash G_two_readers
  have G_law_first_doors : DOk l.prog w K mg base (ecL [("BadBook", ca_BadBook), ("BadState", ca_BadState), ("BadTree", ca_BadTree), ("NoNode", ca_NoNode), ("UnlikeBooks", ca_UnlikeBooks), ("RestError", ca_RestError), ("BadReader", ca_BadReader), ("NoOneRest", ca_NoOneRest), ("NoEnd", ca_NoEnd)]) "_law_first_doors" P_law_first_doors 12 3 f_law_first_doors := ok_law_first_doors T C Z D_law_first_doors G_outcome_of G_outcome_holds G_rest_of G_join_runs G_is_reader G_reader_of G_reader_holds G_first_difference G_first_clash
  have G_spare_rules : DOk l.prog w K mg base (ecL [("BadBook", ca_BadBook), ("BadState", ca_BadState), ("BadTree", ca_BadTree), ("NoNode", ca_NoNode), ("UnlikeBooks", ca_UnlikeBooks), ("RestError", ca_RestError), ("BadReader", ca_BadReader), ("NoOneRest", ca_NoOneRest), ("NoEnd", ca_NoEnd)]) "spare_rules" P_spare_rules 8 1 f_spare_rules := ok_spare_rules T C Z D_spare_rules G_check_book
  have G_check_few_rules : DOk l.prog w K mg base (ecL [("BadBook", ca_BadBook), ("BadState", ca_BadState), ("BadTree", ca_BadTree), ("NoNode", ca_NoNode), ("UnlikeBooks", ca_UnlikeBooks), ("RestError", ca_RestError), ("BadReader", ca_BadReader), ("NoOneRest", ca_NoOneRest), ("NoEnd", ca_NoEnd)]) "check_few_rules" P_check_few_rules 8 1 f_check_few_rules := ok_check_few_rules T C Z D_check_few_rules G_check_book
  have G_fewest_rules : DOk l.prog w K mg base (ecL [("BadBook", ca_BadBook), ("BadState", ca_BadState), ("BadTree", ca_BadTree), ("NoNode", ca_NoNode), ("UnlikeBooks", ca_UnlikeBooks), ("RestError", ca_RestError), ("BadReader", ca_BadReader), ("NoOneRest", ca_NoOneRest), ("NoEnd", ca_NoEnd)]) "fewest_rules" P_fewest_rules 9 1 f_fewest_rules := ok_fewest_rules T C Z D_fewest_rules G_check_few_rules
  have G_fewest_removals : DOk l.prog w K mg base (ecL [("BadBook", ca_BadBook), ("BadState", ca_BadState), ("BadTree", ca_BadTree), ("NoNode", ca_NoNode), ("UnlikeBooks", ca_UnlikeBooks), ("RestError", ca_RestError), ("BadReader", ca_BadReader), ("NoOneRest", ca_NoOneRest), ("NoEnd", ca_NoEnd)]) "fewest_removals" P_fewest_removals 9 1 f_fewest_removals := ok_fewest_removals T C Z D_fewest_removals G_check_few_rules
  have G_check_settled_node : DOk l.prog w K mg base (ecL [("BadBook", ca_BadBook), ("BadState", ca_BadState), ("BadTree", ca_BadTree), ("NoNode", ca_NoNode), ("UnlikeBooks", ca_UnlikeBooks), ("RestError", ca_RestError), ("BadReader", ca_BadReader), ("NoOneRest", ca_NoOneRest), ("NoEnd", ca_NoEnd)]) "check_settled_node" P_check_settled_node 10 4 f_check_settled_node := ok_check_settled_node T C Z D_check_settled_node G_check_tree
  have G_changed_nodes : DOk l.prog w K mg base (ecL [("BadBook", ca_BadBook), ("BadState", ca_BadState), ("BadTree", ca_BadTree), ("NoNode", ca_NoNode), ("UnlikeBooks", ca_UnlikeBooks), ("RestError", ca_RestError), ("BadReader", ca_BadReader), ("NoOneRest", ca_NoOneRest), ("NoEnd", ca_NoEnd)]) "changed_nodes" P_changed_nodes 11 4 f_changed_nodes := ok_changed_nodes T C Z D_changed_nodes G_check_settled_node
  have G_change_reach : DOk l.prog w K mg base (ecL [("BadBook", ca_BadBook), ("BadState", ca_BadState), ("BadTree", ca_BadTree), ("NoNode", ca_NoNode), ("UnlikeBooks", ca_UnlikeBooks), ("RestError", ca_RestError), ("BadReader", ca_BadReader), ("NoOneRest", ca_NoOneRest), ("NoEnd", ca_NoEnd)]) "change_reach" P_change_reach 9 1 f_change_reach := ok_change_reach T C Z D_change_reach G_reader_of
  have G_pair_ranks : DOk l.prog w K mg base (ecL [("BadBook", ca_BadBook), ("BadState", ca_BadState), ("BadTree", ca_BadTree), ("NoNode", ca_NoNode), ("UnlikeBooks", ca_UnlikeBooks), ("RestError", ca_RestError), ("BadReader", ca_BadReader), ("NoOneRest", ca_NoOneRest), ("NoEnd", ca_NoEnd)]) "pair_ranks" P_pair_ranks 1 1 f_pair_ranks := ok_pair_ranks T C Z D_pair_ranks
  have G_reach_ranks : DOk l.prog w K mg base (ecL [("BadBook", ca_BadBook), ("BadState", ca_BadState), ("BadTree", ca_BadTree), ("NoNode", ca_NoNode), ("UnlikeBooks", ca_UnlikeBooks), ("RestError", ca_RestError), ("BadReader", ca_BadReader), ("NoOneRest", ca_NoOneRest), ("NoEnd", ca_NoEnd)]) "reach_ranks" P_reach_ranks 9 1 f_reach_ranks := ok_reach_ranks T C Z D_reach_ranks G_reader_of G_pair_ranks
  have G_touched_states : DOk l.prog w K mg base (ecL [("BadBook", ca_BadBook), ("BadState", ca_BadState), ("BadTree", ca_BadTree), ("NoNode", ca_NoNode), ("UnlikeBooks", ca_UnlikeBooks), ("RestError", ca_RestError), ("BadReader", ca_BadReader), ("NoOneRest", ca_NoOneRest), ("NoEnd", ca_NoEnd)]) "touched_states" P_touched_states 8 2 f_touched_states := ok_touched_states T C Z D_touched_states G_check_book
  have G_law_later_doors : DOk l.prog w K mg base (ecL [("BadBook", ca_BadBook), ("BadState", ca_BadState), ("BadTree", ca_BadTree), ("NoNode", ca_NoNode), ("UnlikeBooks", ca_UnlikeBooks), ("RestError", ca_RestError), ("BadReader", ca_BadReader), ("NoOneRest", ca_NoOneRest), ("NoEnd", ca_NoEnd)]) "_law_later_doors" P_law_later_doors 12 3 f_law_later_doors := ok_law_later_doors T C Z D_law_later_doors G_first_clash G_spare_rules G_fewest_rules G_fewest_removals G_changed_nodes G_change_reach G_reach_ranks G_touched_states
  have G_law_refused : DOk l.prog w K mg base (ecL [("BadBook", ca_BadBook), ("BadState", ca_BadState), ("BadTree", ca_BadTree), ("NoNode", ca_NoNode), ("UnlikeBooks", ca_UnlikeBooks), ("RestError", ca_RestError), ("BadReader", ca_BadReader), ("NoOneRest", ca_NoOneRest), ("NoEnd", ca_NoEnd)]) "_law_refused" P_law_refused 13 3 f_law_refused := ok_law_refused T C Z D_law_refused G_law_first_doors G_law_later_doors
  have G_law : DOk l.prog w K mg base (ecL [("BadBook", ca_BadBook), ("BadState", ca_BadState), ("BadTree", ca_BadTree), ("NoNode", ca_NoNode), ("UnlikeBooks", ca_UnlikeBooks), ("RestError", ca_RestError), ("BadReader", ca_BadReader), ("NoOneRest", ca_NoOneRest), ("NoEnd", ca_NoEnd)]) "law" P_law 14 1 f_law := ok_law T C Z D_law G_law_deck G_law_pick G_law_free G_law_bad G_law_refused
  exact law_same G_law lo_law (PySem.W.mg_of X G na_law)
end K38
open PySem PySem.W PyProof.Rows
set_option maxHeartbeats 0 in
theorem PySem.Challenge.cw_onerest_k38_objects_that_are_no_books_holds : PySem.Challenge.rw_onerest_k38_objects_that_are_no_books.Holds := by
  w_on; o_law; k_head; (case hw => w_witness2)
  k_fill
  refine DL.law_walk (l := PySem.Challenge.rw_onerest_k38_objects_that_are_no_books) (n := 63) (k := 14) (x := "script") (g := K38.f_law) rfl (by decide) rfl ⟨rfl, by decide, by decide⟩ K38.law_true (by first | exact fun w h Y => PySem.W.kIn_of Y | exact fun w h Y => PySem.W.km_in_of Y) ?F
  case F =>
    intro w mg fa h KX G hmg
    refine' K38.all_mk KX G hmg ?na_law_deck ?lo_law_deck ?co_law_deck ?ke_law_deck ?na_law_pick ?lo_law_pick ?co_law_pick ?ke_law_pick ?na_law_put ?lo_law_put ?co_law_put ?ke_law_put ?na_law_signal ?lo_law_signal ?co_law_signal ?ke_law_signal ?na_law_free ?lo_law_free ?co_law_free ?ke_law_free ?na_law_bad_rule ?lo_law_bad_rule ?co_law_bad_rule ?ke_law_bad_rule ?na_law_thirteen ?lo_law_thirteen ?co_law_thirteen ?ke_law_thirteen ?na_law_bad ?lo_law_bad ?co_law_bad ?ke_law_bad ?na_is_tuple_of ?lo_is_tuple_of ?co_is_tuple_of ?ke_is_tuple_of ?na_is_integer ?lo_is_integer ?co_is_integer ?ke_is_integer ?na_is_integer_from ?lo_is_integer_from ?co_is_integer_from ?ke_is_integer_from ?na_is_number_below ?lo_is_number_below ?co_is_number_below ?ke_is_number_below ?na_are_numbers_below ?lo_are_numbers_below ?co_are_numbers_below ?ke_are_numbers_below ?na_is_rule ?lo_is_rule ?co_is_rule ?ke_is_rule ?na_is_book ?lo_is_book ?co_is_book ?ke_is_book ?na_check_book ?lo_check_book ?co_check_book ?ke_check_book ?na_outcome_of ?lo_outcome_of ?co_outcome_of ?ke_outcome_of ?na_outcome_holds ?lo_outcome_holds ?co_outcome_holds ?ke_outcome_holds ?na_are_parents ?lo_are_parents ?co_are_parents ?ke_are_parents ?na_is_tree_of ?lo_is_tree_of ?co_is_tree_of ?ke_is_tree_of ?na_is_tree ?lo_is_tree ?co_is_tree ?ke_is_tree ?na_check_tree ?lo_check_tree ?co_check_tree ?ke_check_tree ?na_rest_of ?lo_rest_of ?co_rest_of ?ke_rest_of ?na_run_steps ?lo_run_steps ?co_run_steps ?ke_run_steps ?na_join_runs ?lo_join_runs ?co_join_runs ?ke_join_runs ?na_is_reader ?lo_is_reader ?co_is_reader ?ke_is_reader ?na_reader_of ?lo_reader_of ?co_reader_of ?ke_reader_of ?na_reader_holds ?lo_reader_holds ?co_reader_holds ?ke_reader_holds ?na_two_readers ?lo_two_readers ?co_two_readers ?ke_two_readers ?na_first_difference ?lo_first_difference ?co_first_difference ?ke_first_difference ?na_first_clash ?lo_first_clash ?co_first_clash ?ke_first_clash ?na_law_first_doors ?lo_law_first_doors ?co_law_first_doors ?ke_law_first_doors ?na_spare_rules ?lo_spare_rules ?co_spare_rules ?ke_spare_rules ?na_check_few_rules ?lo_check_few_rules ?co_check_few_rules ?ke_check_few_rules ?na_fewest_rules ?lo_fewest_rules ?co_fewest_rules ?ke_fewest_rules ?na_fewest_removals ?lo_fewest_removals ?co_fewest_removals ?ke_fewest_removals ?na_check_settled_node ?lo_check_settled_node ?co_check_settled_node ?ke_check_settled_node ?na_changed_nodes ?lo_changed_nodes ?co_changed_nodes ?ke_changed_nodes ?na_change_reach ?lo_change_reach ?co_change_reach ?ke_change_reach ?na_pair_ranks ?lo_pair_ranks ?co_pair_ranks ?ke_pair_ranks ?na_reach_ranks ?lo_reach_ranks ?co_reach_ranks ?ke_reach_ranks ?na_touched_states ?lo_touched_states ?co_touched_states ?ke_touched_states ?na_law_later_doors ?lo_law_later_doors ?co_law_later_doors ?ke_law_later_doors ?na_law_refused ?lo_law_refused ?co_law_refused ?ke_law_refused ?na_law ?lo_law ?co_law ?ke_law ?gc_MOST_STATES ?gc_MOST_RULES ?gc_MOST_NODES ?gc_NO_PARENT ?gc_MOST_ROWS ?gc_MOST_RULES_TO_CHOOSE ?ga_BadBook ?ga_BadState ?ga_BadTree ?ga_NoNode ?ga_UnlikeBooks ?ga_RestError ?ga_BadReader ?ga_NoOneRest ?ga_NoEnd ?er_BadBook ?er_BadState ?er_BadTree ?er_NoNode ?er_UnlikeBooks ?xm_BadBook_BadBook ?xm_BadState_BadBook ?xm_BadTree_BadBook ?xm_NoNode_BadBook ?xm_UnlikeBooks_BadBook ?xm_RestError_BadBook ?xm_BadReader_BadBook ?xm_NoOneRest_BadBook ?xm_NoEnd_BadBook ?eb_tabi ?eb_tabg ?eb_zz
    (case na_law_deck => k_is)
    (case lo_law_deck => k_is)
    (case co_law_deck => k_is)
    (case ke_law_deck => k_is)
    (case na_law_pick => k_is)
    (case lo_law_pick => k_is)
    (case co_law_pick => k_is)
    (case ke_law_pick => k_is)
    (case na_law_put => k_is)
    (case lo_law_put => k_is)
    (case co_law_put => k_is)
    (case ke_law_put => k_is)
    (case na_law_signal => k_is)
    (case lo_law_signal => k_is)
    (case co_law_signal => k_is)
    (case ke_law_signal => k_is)
    (case na_law_free => k_is)
    (case lo_law_free => k_is)
    (case co_law_free => k_is)
    (case ke_law_free => k_is)
    (case na_law_bad_rule => k_is)
    (case lo_law_bad_rule => k_is)
    (case co_law_bad_rule => k_is)
    (case ke_law_bad_rule => k_is)
    (case na_law_thirteen => k_is)
    (case lo_law_thirteen => k_is)
    (case co_law_thirteen => k_is)
    (case ke_law_thirteen => k_is)
    (case na_law_bad => k_is)
    (case lo_law_bad => k_is)
    (case co_law_bad => k_is)
    (case ke_law_bad => k_is)
    (case na_is_tuple_of => k_is)
    (case lo_is_tuple_of => k_is)
    (case co_is_tuple_of => k_is)
    (case ke_is_tuple_of => k_is)
    (case na_is_integer => k_is)
    (case lo_is_integer => k_is)
    (case co_is_integer => k_is)
    (case ke_is_integer => k_is)
    (case na_is_integer_from => k_is)
    (case lo_is_integer_from => k_is)
    (case co_is_integer_from => k_is)
    (case ke_is_integer_from => k_is)
    (case na_is_number_below => k_is)
    (case lo_is_number_below => k_is)
    (case co_is_number_below => k_is)
    (case ke_is_number_below => k_is)
    (case na_are_numbers_below => k_is)
    (case lo_are_numbers_below => k_is)
    (case co_are_numbers_below => k_is)
    (case ke_are_numbers_below => k_is)
    (case na_is_rule => k_is)
    (case lo_is_rule => k_is)
    (case co_is_rule => k_is)
    (case ke_is_rule => k_is)
    (case na_is_book => k_is)
    (case lo_is_book => k_is)
    (case co_is_book => k_is)
    (case ke_is_book => k_is)
    (case na_check_book => k_is)
    (case lo_check_book => k_is)
    (case co_check_book => k_is)
    (case ke_check_book => k_is)
    (case na_outcome_of => k_is)
    (case lo_outcome_of => k_is)
    (case co_outcome_of => k_is)
    (case ke_outcome_of => k_is)
    (case na_outcome_holds => k_is)
    (case lo_outcome_holds => k_is)
    (case co_outcome_holds => k_is)
    (case ke_outcome_holds => k_is)
    (case na_are_parents => k_is)
    (case lo_are_parents => k_is)
    (case co_are_parents => k_is)
    (case ke_are_parents => k_is)
    (case na_is_tree_of => k_is)
    (case lo_is_tree_of => k_is)
    (case co_is_tree_of => k_is)
    (case ke_is_tree_of => k_is)
    (case na_is_tree => k_is)
    (case lo_is_tree => k_is)
    (case co_is_tree => k_is)
    (case ke_is_tree => k_is)
    (case na_check_tree => k_is)
    (case lo_check_tree => k_is)
    (case co_check_tree => k_is)
    (case ke_check_tree => k_is)
    (case na_rest_of => k_is)
    (case lo_rest_of => k_is)
    (case co_rest_of => k_is)
    (case ke_rest_of => k_is)
    (case na_run_steps => k_is)
    (case lo_run_steps => k_is)
    (case co_run_steps => k_is)
    (case ke_run_steps => k_is)
    (case na_join_runs => k_is)
    (case lo_join_runs => k_is)
    (case co_join_runs => k_is)
    (case ke_join_runs => k_is)
    (case na_is_reader => k_is)
    (case lo_is_reader => k_is)
    (case co_is_reader => k_is)
    (case ke_is_reader => k_is)
    (case na_reader_of => k_is)
    (case lo_reader_of => k_is)
    (case co_reader_of => k_is)
    (case ke_reader_of => k_is)
    (case na_reader_holds => k_is)
    (case lo_reader_holds => k_is)
    (case co_reader_holds => k_is)
    (case ke_reader_holds => k_is)
    (case na_two_readers => k_is)
    (case lo_two_readers => k_is)
    (case co_two_readers => k_is)
    (case ke_two_readers => k_is)
    (case na_first_difference => k_is)
    (case lo_first_difference => k_is)
    (case co_first_difference => k_is)
    (case ke_first_difference => k_is)
    (case na_first_clash => k_is)
    (case lo_first_clash => k_is)
    (case co_first_clash => k_is)
    (case ke_first_clash => k_is)
    (case na_law_first_doors => k_is)
    (case lo_law_first_doors => k_is)
    (case co_law_first_doors => k_is)
    (case ke_law_first_doors => k_is)
    (case na_spare_rules => k_is)
    (case lo_spare_rules => k_is)
    (case co_spare_rules => k_is)
    (case ke_spare_rules => k_is)
    (case na_check_few_rules => k_is)
    (case lo_check_few_rules => k_is)
    (case co_check_few_rules => k_is)
    (case ke_check_few_rules => k_is)
    (case na_fewest_rules => k_is)
    (case lo_fewest_rules => k_is)
    (case co_fewest_rules => k_is)
    (case ke_fewest_rules => k_is)
    (case na_fewest_removals => k_is)
    (case lo_fewest_removals => k_is)
    (case co_fewest_removals => k_is)
    (case ke_fewest_removals => k_is)
    (case na_check_settled_node => k_is)
    (case lo_check_settled_node => k_is)
    (case co_check_settled_node => k_is)
    (case ke_check_settled_node => k_is)
    (case na_changed_nodes => k_is)
    (case lo_changed_nodes => k_is)
    (case co_changed_nodes => k_is)
    (case ke_changed_nodes => k_is)
    (case na_change_reach => k_is)
    (case lo_change_reach => k_is)
    (case co_change_reach => k_is)
    (case ke_change_reach => k_is)
    (case na_pair_ranks => k_is)
    (case lo_pair_ranks => k_is)
    (case co_pair_ranks => k_is)
    (case ke_pair_ranks => k_is)
    (case na_reach_ranks => k_is)
    (case lo_reach_ranks => k_is)
    (case co_reach_ranks => k_is)
    (case ke_reach_ranks => k_is)
    (case na_touched_states => k_is)
    (case lo_touched_states => k_is)
    (case co_touched_states => k_is)
    (case ke_touched_states => k_is)
    (case na_law_later_doors => k_is)
    (case lo_law_later_doors => k_is)
    (case co_law_later_doors => k_is)
    (case ke_law_later_doors => k_is)
    (case na_law_refused => k_is)
    (case lo_law_refused => k_is)
    (case co_law_refused => k_is)
    (case ke_law_refused => k_is)
    (case na_law => k_is)
    (case lo_law => k_is)
    (case co_law => k_is)
    (case ke_law => k_is)
    (case gc_MOST_STATES => k_is)
    (case gc_MOST_RULES => k_is)
    (case gc_MOST_NODES => k_is)
    (case gc_NO_PARENT => k_is)
    (case gc_MOST_ROWS => k_is)
    (case gc_MOST_RULES_TO_CHOOSE => k_is)
    (case ga_BadBook => k_is)
    (case ga_BadState => k_is)
    (case ga_BadTree => k_is)
    (case ga_NoNode => k_is)
    (case ga_UnlikeBooks => k_is)
    (case ga_RestError => k_is)
    (case ga_BadReader => k_is)
    (case ga_NoOneRest => k_is)
    (case ga_NoEnd => k_is)
    (case er_BadBook => kernel_rfl)
    (case er_BadState => kernel_rfl)
    (case er_BadTree => kernel_rfl)
    (case er_NoNode => kernel_rfl)
    (case er_UnlikeBooks => kernel_rfl)
    (case xm_BadBook_BadBook => kernel_rfl)
    (case xm_BadState_BadBook => kernel_rfl)
    (case xm_BadTree_BadBook => kernel_rfl)
    (case xm_NoNode_BadBook => kernel_rfl)
    (case xm_UnlikeBooks_BadBook => kernel_rfl)
    (case xm_RestError_BadBook => kernel_rfl)
    (case xm_BadReader_BadBook => kernel_rfl)
    (case xm_NoOneRest_BadBook => kernel_rfl)
    (case xm_NoEnd_BadBook => kernel_rfl)
    (case eb_tabi => kernel_rfl)
    (case eb_tabg => kernel_rfl)
    (case eb_zz => kernel_rfl)
