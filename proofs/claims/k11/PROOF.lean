import PyProof.Rows.All
import Wide.All
import OpenK.AllK
import Wide.FinOn
import HandS.HeadHook4
import HandS.ForMost
import HandS.TupAny
import HandS.TupMul
import HandS.IsInst
import HandS.Zip
import HandS.Rev
import HandS.RevTup
import HandS.Walk
import HandS.Lambda
import KE.KeyNested
import KE.KDictKeyed
import KE.KDictDisplayH
import KE.GoesNew
import HandS.NoneIn
import HandS.Small
import HandS.ForExc
import HandS.Defaults
import HandS.HeadHook2
import PyProof.DictUpdate
import Wide.Once
import KE.KStateDown
import HandS.Head0
import HandS.Head1
import HandS.Head2
import HandS.HeadEnd
import HandS.HeadWalk
import HandS.FStr
import HandS.RaiseMore
import PyProof.ExcBaseAll.ValueError
import HandS.SetFor
import HandS.Codes
import HandS.ExcIs
import HandS.TupLen
import HandS.Star
import HandS.Style
import HandS.SortInts
import HandS.Strs
import HandS.TupSets
import KE.KSetDisp
import HandS.Conv
import KE.SortData
import KE.KDictWalk
import KE.KDictList
import KE.KDictSum
import PySem.Challenge.RW_callpact_k11_saves_put_in
set_option Elab.async false
set_option linter.all false
set_option maxRecDepth 100000
set_option maxHeartbeats 2000000
namespace LW
/-! MiniK -/
/-! MiniK: the defs of this law that make lambdas (by name). -/
section
open PySem
def KD : List He.Defn := [("law", none)]
/-- their tables of code objects -/
def KT (K : PySem.W.Frag) : List (Addr × Str) := KD.map fun p => ((He.cT K p).2, p.1 ++ ".<locals>.<lambda>")
end

/-! Mini0 -/
/-! Mini0: a small machine of plain data: values, a store of what changes, what a piece of program does. -/
section
open PySem L2

inductive PV where
  | non | bl (b : Bool) | int (i : Int) | str (s : Str)
  | tup (xs : List PV) | ls (xs : List PV) | fz (xs : List PV) | dc (ks : List Str) (vs : List PV) | loc (l : Nat)

mutual
def PV.beq : PV → PV → Bool
  | .non, .non => true
  | .bl a, .bl b => a == b
  | .int a, .int b => a == b
  | .str a, .str b => decide (a = b)
  | .tup a, .tup b => PV.beqs a b
  | .ls a, .ls b => PV.beqs a b
  | .fz a, .fz b => PV.beqs a b
  | .dc k a, .dc l b => decide (k = l) && PV.beqs a b
  | .loc a, .loc b => a == b
  | _, _ => false
def PV.beqs : List PV → List PV → Bool
  | [], [] => true
  | a :: r, b :: s => PV.beq a b && PV.beqs r s
  | _, _ => false
end
mutual
theorem PV.beq_eq : ∀ a b : PV, PV.beq a b = true → a = b
  | .non, b, h => by cases b <;> simp_all [PV.beq]
  | .bl x, b, h => by cases b <;> simp_all [PV.beq]
  | .int x, b, h => by cases b <;> simp_all [PV.beq]
  | .str x, b, h => by cases b <;> simp_all [PV.beq]
  | .tup xs, b, h => by
    cases b <;> simp [PV.beq] at h
    rw [PV.beqs_eq _ _ h]
  | .ls xs, b, h => by
    cases b <;> simp [PV.beq] at h
    rw [PV.beqs_eq _ _ h]
  | .fz xs, b, h => by
    cases b <;> simp [PV.beq] at h
    rw [PV.beqs_eq _ _ h]
  | .dc k xs, b, h => by
    cases b <;> simp [PV.beq] at h
    rw [h.1, PV.beqs_eq _ _ h.2]
  | .loc l, b, h => by cases b <;> simp_all [PV.beq]
theorem PV.beqs_eq : ∀ a b : List PV, PV.beqs a b = true → a = b
  | [], b, h => by cases b <;> simp_all [PV.beqs]
  | x :: r, b, h => by
    cases b with
    | nil => simp [PV.beqs] at h
    | cons y s =>
      simp [PV.beqs] at h
      rw [PV.beq_eq _ _ h.1, PV.beqs_eq _ _ h.2]
end
mutual
theorem PV.beq_refl : ∀ a : PV, PV.beq a a = true
  | .non => rfl
  | .bl x => by simp [PV.beq]
  | .int x => by simp [PV.beq]
  | .str x => by simp [PV.beq]
  | .tup xs => by simp [PV.beq, PV.beqs_refl xs]
  | .ls xs => by simp [PV.beq, PV.beqs_refl xs]
  | .fz xs => by simp [PV.beq, PV.beqs_refl xs]
  | .dc k xs => by simp [PV.beq, PV.beqs_refl xs]
  | .loc l => by simp [PV.beq]
theorem PV.beqs_refl : ∀ a : List PV, PV.beqs a a = true
  | [] => rfl
  | x :: r => by simp [PV.beqs, PV.beq_refl x, PV.beqs_refl r]
end
instance : DecidableEq PV := fun a b =>
  if h : PV.beq a b = true then .isTrue (PV.beq_eq a b h) else .isFalse fun e => h (e ▸ PV.beq_refl a)
instance : Inhabited PV := ⟨.non⟩

/-- what changes: a list, a dict by texts, a dict by data, an instance of the class at C -/
inductive Cell where
  | lst (xs : List PV)
  | dks (ks : List Str) (vs : List PV)
  | dkn (ks vs : List PV)
  | ins (C : Nat) (fs : List (Str × PV))
  deriving DecidableEq
abbrev Store := List Cell
structure PExc where
  cls : Str
  fs : List (Str × PV)
  deriving DecidableEq
inductive R (α : Type) where
  | ok (a : α) (S : Store)
  | exc (e : PExc) (S : Store)
  | bad
def R.bind {α β : Type} (r : R α) (f : α → Store → R β) : R β :=
  match r with
  | .ok a S => f a S
  | .exc e S => .exc e S
  | .bad => .bad
@[simp] theorem R.bind_ok {α β : Type} (a : α) (S : Store) (f : α → Store → R β) : (R.ok a S).bind f = f a S := rfl
@[simp] theorem R.bind_exc {α β : Type} (e : PExc) (S : Store) (f : α → Store → R β) : (R.exc e S : R α).bind f = .exc e S := rfl
@[simp] theorem R.bind_bad {α β : Type} (f : α → Store → R β) : (R.bad : R α).bind f = .bad := rfl

/-- where no error may come out -/
def R.nox {α : Type} : R α → R α
  | .exc _ _ => .bad
  | r => r
@[simp] theorem R.nox_ok {α : Type} (a : α) (S : Store) : (R.ok a S).nox = .ok a S := rfl
@[simp] theorem R.nox_bad {α : Type} : (R.bad : R α).nox = .bad := rfl
abbrev Env := List (Option PV)
abbrev XE := Env → Store → R PV
abbrev XB := Env → Store → R Bool
abbrev XA := Env → Store → R (List PV)
inductive Fl where
  | nx | rt (v : PV) | bk | ct
abbrev XS := Env → Store → R (Fl × Env)

/-! ### values -/
def eVar (i : Nat) : XE := fun env S => match env[i]? with
  | some (some x) => .ok x S
  | _ => .bad
def eC (x : PV) : XE := fun _ S => .ok x S
abbrev Op1 := PV → Store → R PV
abbrev Op2 := PV → PV → Store → R PV
def eUn (op : Op1) (a : XE) : XE := fun env S => (a env S).bind fun x S => op x S
def eOp (op : Op2) (a b : XE) : XE := fun env S => (a env S).bind fun x S => (b env S).bind fun y S => op x y S
def eAnd (a b : XE) : XE := fun env S => (a env S).bind fun x S => match x with
  | .bl true => b env S
  | .bl false => .ok (.bl false) S
  | _ => .bad
def eOr (a b : XE) : XE := fun env S => (a env S).bind fun x S => match x with
  | .bl true => .ok (.bl true) S
  | .bl false => b env S
  | _ => .bad
def eNot (a : XE) : XE := fun env S => (a env S).bind fun x S => match x with
  | .bl k => .ok (.bl (!k)) S
  | _ => .bad
def eIf (c : XB) (a b : XE) : XE := fun env S => (c env S).bind fun k S => if k = true then a env S else b env S
/-- a op1 b op2 c -/
def eChain (o1 o2 : Op2) (a b c : XE) : XE := fun env S => (a env S).bind fun x S => (b env S).bind fun y S => (o1 x y S).bind fun k S => match k with
  | .bl true => (c env S).bind fun z S => o2 y z S
  | .bl false => .ok (.bl false) S
  | _ => .bad
/-! tests -/
def bVal (a : XE) : XB := fun env S => (a env S).bind fun x S => match x with
  | .bl k => .ok k S
  | _ => .bad
def bAnd (a b : XB) : XB := fun env S => (a env S).bind fun k S => if k = true then b env S else .ok false S
def bOr (a b : XB) : XB := fun env S => (a env S).bind fun k S => if k = true then .ok true S else b env S
def bNot (a : XB) : XB := fun env S => (a env S).bind fun k S => .ok (!k) S
/-! argument lists -/
def aNil : XA := fun _ S => .ok [] S
def aCons (a : XE) (r : XA) : XA := fun env S => (a env S).bind fun x S => (r env S).bind fun xs S => .ok (x :: xs) S

/-! ### operations -/
def lim : Nat := 1000000
/-- the items of a list or tuple -/
def seqOf (S : Store) : PV → Option (List PV)
  | .tup xs => some xs
  | .ls xs => some xs
  | .fz xs => some xs
  | .loc l => match S[l]? with
    | some (.lst xs) => some xs
    | _ => none
  | _ => none
def lstOf (S : Store) : PV → Option (List PV)
  | .ls xs => some xs
  | .loc l => match S[l]? with
    | some (.lst xs) => some xs
    | _ => none
  | _ => none
def oAdd : Op2 := fun x y S => match x, y with
  | .int i, .int j => .ok (.int (i + j)) S
  | .tup a, .tup b => if a.length + b.length ≤ lim then .ok (.tup (a ++ b)) S else .bad
  | x, y => match lstOf S x, lstOf S y with
    | some a, some b => if a.length + b.length ≤ lim then .ok (.ls (a ++ b)) S else .bad
    | _, _ => .bad
def oSub : Op2 := fun x y S => match x, y with
  | .int i, .int j => .ok (.int (i - j)) S
  | _, _ => .bad
def mulOk (i j : Int) : Bool := (decide (-(2 ^ 64) < i) && decide (i < 2 ^ 64)) || (decide (-(2 ^ 64) < j) && decide (j < 2 ^ 64))
def rep (xs : List PV) (n : Nat) : List PV := (List.replicate n xs).flatten
def oMul : Op2 := fun x y S => match x, y with
  | .int i, .int j => if mulOk i j = true then .ok (.int (i * j)) S else .bad
  | .tup a, .int j => if j = 1 then .ok (.tup a) S else if 2 ≤ j ∧ j ≤ 1000 ∧ a.length ≤ 1000 ∧ a ≠ [] then .ok (.tup (rep a j.toNat)) S else .bad
  | x, .int j => match lstOf S x with
    | some a => if 0 ≤ j ∧ j ≤ 1000 ∧ a.length ≤ 1000 then .ok (.ls (rep a j.toNat)) S else .bad
    | none => .bad
  | _, _ => .bad
/-- a list of the store, repeated into a new one of the store; two made into a new one -/
def oMulN : Op2 := fun x y S => match y with
  | .int j => match lstOf S x with
    | some a => if 0 ≤ j ∧ j ≤ 1000 ∧ a.length ≤ 1000 then .ok (.loc S.length) (S ++ [.lst (rep a j.toNat)]) else .bad
    | none => .bad
  | _ => .bad
def oAddN : Op2 := fun x y S => match lstOf S x, lstOf S y with
  | some a, some b => if a.length + b.length ≤ lim then .ok (.loc S.length) (S ++ [.lst (a ++ b)]) else .bad
  | _, _ => .bad
def oDiv : Op2 := fun x y S => match x, y with
  | .int i, .int j => if 0 < j ∧ j < 1073741824 then .ok (.int (i / j)) S else .bad
  | _, _ => .bad
def oMod : Op2 := fun x y S => match x, y with
  | .int i, .int j => if 0 < j then .ok (.int (i % j)) S else .bad
  | _, _ => .bad
def oPow : Op2 := fun x y S => match x, y with
  | .int i, .int j => if 0 ≤ j ∧ j ≤ 1000 ∧ i.natAbs < 2 ^ 64 then .ok (.int (i ^ j.toNat)) S else .bad
  | _, _ => .bad
def oNeg : Op1 := fun x S => match x with
  | .int i => .ok (.int (-i)) S
  | _ => .bad
def oLt : Op2 := fun x y S => match x, y with
  | .int i, .int j => .ok (.bl (decide (i < j))) S
  | _, _ => .bad
def oLe : Op2 := fun x y S => match x, y with
  | .int i, .int j => .ok (.bl (decide (i ≤ j))) S
  | _, _ => .bad
def oGt : Op2 := fun x y S => match x, y with
  | .int i, .int j => .ok (.bl (decide (j < i))) S
  | _, _ => .bad
def oGe : Op2 := fun x y S => match x, y with
  | .int i, .int j => .ok (.bl (decide (j ≤ i))) S
  | _, _ => .bad
def PV.isNon : PV → Bool
  | .non => true
  | _ => false
def oIsN : Op2 := fun x y S => match y with
  | .non => .ok (.bl x.isNon) S
  | _ => .bad
def oNotN : Op2 := fun x y S => match y with
  | .non => .ok (.bl (!x.isNon)) S
  | _ => .bad

/-! plain data, as == looks at it; lists of the store at any depth -/
def res : Nat → Store → PV → PV
  | 0, _, x => x
  | n + 1, S, .loc l => match S[l]? with
    | some (.lst xs) => .ls (xs.map (res n S))
    | _ => .loc l
  | n + 1, S, .tup xs => .tup (xs.map (res n S))
  | n + 1, S, .ls xs => .ls (xs.map (res n S))
  | n + 1, S, .fz xs => .ls (xs.map (res n S))
  | _ + 1, _, x => x
def plain : Nat → PV → Bool
  | _, .non => true
  | _, .bl _ => true
  | _, .int _ => true
  | _, .str s => PyData.strOk s
  | n + 1, .tup xs => xs.all (plain n)
  | n + 1, .ls xs => xs.all (plain n)
  | _, _ => false
/-! == by its own clauses -/
mutual
def eqv : PV → PV → Bool
  | .non, y => match y with | .non => true | _ => false
  | .bl a, y => match y with | .bl b => a == b | .int j => (if a then 1 else 0) == j | _ => false
  | .int i, y => match y with | .bl b => i == (if b then 1 else 0) | .int j => i == j | _ => false
  | .str a, y => match y with | .str b => decide (a = b) | _ => false
  | .tup a, y => match y with | .tup b => eqvs a b | _ => false
  | .ls a, y => match y with | .ls b => eqvs a b | _ => false
  | _, _ => false
def eqvs : List PV → List PV → Bool
  | [], y => match y with | [] => true | _ :: _ => false
  | a :: r, y => match y with | [] => false | b :: s => eqv a b && eqvs r s
end
mutual
def datOf : PV → PyData
  | .bl b => .bool b
  | .int i => .int i
  | .str s => .str s
  | .tup xs => .tuple (datsOf xs)
  | .ls xs => .list (datsOf xs)
  | _ => .none
def datsOf : List PV → List PyData
  | [] => []
  | x :: r => datOf x :: datsOf r
end
def oEq : Op2 := fun x y S => if plain 20 (res 20 S x) = true ∧ plain 20 (res 20 S y) = true then .ok (.bl (eqv (res 20 S x) (res 20 S y))) S else .bad
def oNe : Op2 := fun x y S => if plain 20 (res 20 S x) = true ∧ plain 20 (res 20 S y) = true then .ok (.bl (!eqv (res 20 S x) (res 20 S y))) S else .bad
def flat : PV → Bool
  | .non => true
  | .bl _ => true
  | .int _ => true
  | .str _ => true
  | _ => false
def inSeq (x : PV) (xs : List PV) : Bool := xs.any fun y => eqv y x
/-- x in a list or tuple of flat things -/
def oIn : Op2 := fun x y S => match seqOf S y with
  | some xs => if flat x = true ∧ xs.all flat = true then .ok (.bl (inSeq x xs)) S else .bad
  | none => .bad
def oNotIn : Op2 := fun x y S => match seqOf S y with
  | some xs => if flat x = true ∧ xs.all flat = true then .ok (.bl (!inSeq x xs)) S else .bad
  | none => .bad
def lookS : List Str → List PV → Str → Option PV
  | k :: ks, v :: vs, x => if k = x then some v else lookS ks vs x
  | _, _, _ => none
def dksOf (S : Store) : PV → Option (List Str × List PV)
  | .dc ks vs => some (ks, vs)
  | .loc l => match S[l]? with
    | some (.dks ks vs) => some (ks, vs)
    | _ => none
  | _ => none
/-- o[i] -/
def oIx : Op2 := fun o i S => match i with
  | .int j => match seqOf S o with
    | some xs => match atI xs j with
      | some x => .ok x S
      | none => .bad
    | none => .bad
  | .str k => match dksOf S o with
    | some (ks, vs) => match lookS ks vs k with
      | some x => .ok x S
      | none => .bad
    | none => .bad
  | _ => .bad
def cut (xs : List PV) (lo hi : Option Int) : List PV := (xs.drop (HT.sIx xs.length 0 lo)).take (HT.sIx xs.length xs.length hi - HT.sIx xs.length 0 lo)
def oCut (o : PV) (lo hi : Option Int) (S : Store) : R PV := match o with
  | .tup xs => .ok (.tup (cut xs lo hi)) S
  | o => match lstOf S o with
    | some xs => .ok (.ls (cut xs lo hi)) S
    | none => .bad
def ePart (a : Option XE) : Env → Store → R (Option Int) := fun env S => match a with
  | none => .ok none S
  | some f => (f env S).bind fun x S => match x with
    | .int i => .ok (some i) S
    | _ => .bad
def eCut (o : XE) (lo hi : Option XE) : XE := fun env S => (o env S).bind fun x S => (ePart lo env S).bind fun i S => (ePart hi env S).bind fun j S => oCut x i j S
def eTup (a : XA) : XE := fun env S => (a env S).bind fun xs S => if xs.length ≤ lim then .ok (.tup xs) S else .bad
/-- a list that nobody changes, a list of the store -/
def eLs (a : XA) : XE := fun env S => (a env S).bind fun xs S => if xs.length ≤ lim then .ok (.ls xs) S else .bad
def eNew (a : XA) : XE := fun env S => (a env S).bind fun xs S => if xs.length ≤ lim then .ok (.loc S.length) (S ++ [.lst xs]) else .bad
/-- a value list becomes one of the store -/
def toStr : List PV → Option (List Str)
  | [] => some []
  | .str k :: r => (toStr r).map (k :: ·)
  | _ => none
/-! ### calls of what is built in -/
abbrev Bf := List PV → Store → R PV
def eBf (f : Bf) (a : XA) : XE := fun env S => (a env S).bind fun xs S => f xs S
def bLen : Bf := fun xs S => match xs with
  | [x] => match seqOf S x with
    | some ys => .ok (.int ys.length) S
    | none => .bad
  | _ => .bad
def bList : Bf := fun xs S => match xs with
  | [x] => match seqOf S x with
    | some ys => .ok (.ls ys) S
    | none => .bad
  | _ => .bad
def bListN : Bf := fun xs S => match xs with
  | [x] => match seqOf S x with
    | some ys => .ok (.loc S.length) (S ++ [.lst ys])
    | none => .bad
  | _ => .bad
def bTuple : Bf := fun xs S => match xs with
  | [x] => match seqOf S x with
    | some ys => .ok (.tup ys) S
    | none => .bad
  | _ => .bad
def bStr : Bf := fun xs S => match xs with
  | [.int i] => if i.natAbs.log2 < 1920 then .ok (.str (toString i : String)) S else .bad
  | _ => .bad
def bInt : Bf := fun xs S => match xs with
  | [.int i] => .ok (.int i) S
  | [.bl k] => .ok (.int (if k = true then 1 else 0)) S
  | _ => .bad
def bMax : Bf := fun xs S => match xs with
  | [.int i, .int j] => .ok (.int (if j > i then j else i)) S
  | _ => .bad
def bMin : Bf := fun xs S => match xs with
  | [.int i, .int j] => .ok (.int (if j < i then j else i)) S
  | _ => .bad
def bools : List PV → Option (List Bool)
  | [] => some []
  | .bl k :: r => (bools r).map (k :: ·)
  | _ => none
def bAll : Bf := fun xs S => match xs with
  | [x] => match (lstOf S x).bind bools with
    | some ks => .ok (.bl (ks.all id)) S
    | none => .bad
  | _ => .bad
def bAny : Bf := fun xs S => match xs with
  | [x] => match (lstOf S x).bind bools with
    | some ks => .ok (.bl (ks.any id)) S
    | none => .bad
  | _ => .bad
/-- isinstance: the kinds -/
inductive Ty where
  | int | bool | str | tuple | list
def isTy (S : Store) (x : PV) : Ty → Option Bool := fun t => match x with
  | .non => some false
  | .bl _ => some (match t with | .int => true | .bool => true | _ => false)
  | .int _ => some (match t with | .int => true | _ => false)
  | .str _ => some (match t with | .str => true | _ => false)
  | .tup _ => some (match t with | .tuple => true | _ => false)
  | .ls _ => some (match t with | .list => true | _ => false)
  | .fz _ => some (match t with | .list => true | _ => false)
  | .loc l => match S[l]? with
    | some (.lst _) => some (match t with | .list => true | _ => false)
    | _ => none
  | _ => none
def eIsa (t : Ty) (a : XE) : XE := fun env S => (a env S).bind fun x S => match isTy S x t with
  | some k => .ok (.bl k) S
  | none => .bad
def eIsa2 (t u : Ty) (a : XE) : XE := fun env S => (a env S).bind fun x S => match isTy S x t, isTy S x u with
  | some k, some j => .ok (.bl (k || j)) S
  | _, _ => .bad
/-- d.get(k), d.get(k, x), texts the keys -/
def eGet1 (o k : XE) : XE := fun env S => (o env S).bind fun ov S => match dksOf S ov with
  | none => .bad
  | some _ => (k env S).bind fun kv S => match kv, dksOf S ov with
    | .str k, some (ks, vs) => .ok ((lookS ks vs k).getD .non) S
    | _, _ => .bad
def eGet2 (o k d : XE) : XE := fun env S => (o env S).bind fun ov S => match dksOf S ov with
  | none => .bad
  | some _ => (k env S).bind fun kv S => (d env S).bind fun dv S => match kv, dksOf S ov with
    | .str k, some (ks, vs) => .ok ((lookS ks vs k).getD dv) S
    | _, _ => .bad
/-- .. of a dict of the module's top -/
def eGetS (ks : List Str) (vs : List PV) (k : XE) : XE := fun env S => (k env S).bind fun kv S => match kv with
  | .str k => .ok ((lookS ks vs k).getD .non) S
  | _ => .bad
/-- a dict written out, texts the keys -/
def eDc (ks : List Str) (a : XA) : XE := fun env S => (a env S).bind fun vs S => if ks.length = vs.length ∧ ks.length ≤ 15 ∧ ks.Nodup then .ok (.dc ks vs) S else .bad
def eDks (ks : List Str) (a : XA) : XE := fun env S => (a env S).bind fun vs S => if ks.length = vs.length ∧ ks.length ≤ 15 ∧ ks.Nodup then .ok (.loc S.length) (S ++ [.dks ks vs]) else .bad
def lsOf : PV → Option (List PV)
  | .ls xs => some xs
  | _ => none
/-! ### what is walked -/
inductive It where
  | seq (v : PV) | rng (lo : Int) (n : Nat) | enum (v : PV) | zip (v u : PV) | rev (v : PV)
def pairs (xs ys : List PV) : List PV := (xs.zip ys).map fun p => .tup [p.1, p.2]
def upto (lo : Int) (n : Nat) : List PV := (List.range n).map fun (i : Nat) => PV.int (lo + (i : Int))
def It.items (S : Store) : It → Option (List PV)
  | .seq v => seqOf S v
  | .rng lo n => some (upto lo n)
  | .enum v => (seqOf S v).map fun xs => pairs (upto 0 xs.length) xs
  | .zip v u => match seqOf S v, seqOf S u with
    | some xs, some ys => some (pairs xs ys)
    | _, _ => none
  | .rev v => (lsOf v).map List.reverse
abbrev XI := Env → Store → R It
def iSeq (a : XE) : XI := fun env S => (a env S).bind fun x S => .ok (.seq x) S
def iEnum (a : XE) : XI := fun env S => (a env S).bind fun x S => .ok (.enum x) S
def iRev (a : XE) : XI := fun env S => (a env S).bind fun x S => .ok (.rev x) S
def iZip (a b : XE) : XI := fun env S => (a env S).bind fun x S => (b env S).bind fun y S => .ok (.zip x y) S
def iRng (a : XE) : XI := fun env S => (a env S).bind fun x S => match x with
  | .int j => if -(lim : Int) ≤ j ∧ j ≤ lim then .ok (.rng 0 j.toNat) S else .bad
  | _ => .bad
def iRng2 (a b : XE) : XI := fun env S => (a env S).bind fun x S => (b env S).bind fun y S => match x, y with
  | .int i, .int j => if -(lim : Int) ≤ i ∧ i ≤ lim ∧ -(lim : Int) ≤ j ∧ j ≤ lim then .ok (.rng i (j - i).toNat) S else .bad
  | _, _ => .bad
/-! ### targets -/
abbrev XG := PV → Env → Store → R Env
def gNm (i : Nat) : XG := fun x env S => .ok (env.set i (some x)) S
def gTp (gs : List XG) : XG := fun x env S => match seqOf S x with
  | some xs => if xs.length = gs.length then go gs xs env S else .bad
  | none => .bad
where go : List XG → List PV → Env → Store → R Env
  | [], _, env, S => .ok env S
  | g :: gs, x :: xs, env, S => (g x env S).bind fun env S => go gs xs env S
  | _ :: _, [], _, _ => .bad
/-! ### comprehensions -/
def wipeE (env : Env) : List Nat → Env
  | [] => env
  | v :: vs => (wipeE env vs).set v none
def lcGo (it : It) (all : List PV) (g : XG) (t : XB) (e : XE) (env : Env) : List PV → List PV → Store → R (List PV)
  | [], acc, S => if it.items S = some all then .ok acc S else .bad
  | x :: r, acc, S => if it.items S = some all then
      (g x env S).nox.bind fun env' S => (t env' S).nox.bind fun k S =>
        if k = true then (e env' S).nox.bind fun y S => if acc.length < lim then lcGo it all g t e env r (acc ++ [y]) S else .bad
        else lcGo it all g t e env r acc S
    else .bad
def xLc (i : XI) (g : XG) (t : XB) (e : XE) (own : List Nat) : XA := fun env S => (i env S).bind fun it S => match it.items S with
  | some all => lcGo it all g t e (wipeE env own) all [] S
  | none => .bad
def bYes : XB := fun _ S => .ok true S
def eLc (i : XI) (g : XG) (t : XB) (e : XE) (own : List Nat) : XE := fun env S => (xLc i g t e own env S).bind fun xs S => .ok (.ls xs) S
def eLcN (i : XI) (g : XG) (t : XB) (e : XE) (own : List Nat) : XE := fun env S => (xLc i g t e own env S).bind fun xs S => .ok (.loc S.length) (S ++ [.lst xs])
/-! ### statements -/
def sNil : XS := fun env S => .ok (.nx, env) S
def sSeq (a b : XS) : XS := fun env S => (a env S).bind fun p S => match p.1 with
  | .nx => b p.2 S
  | f => .ok (f, p.2) S
def sAsg (e : XE) (g : XG) : XS := fun env S => (e env S).bind fun x S => (g x env S).bind fun env S => .ok (.nx, env) S
/-- a, b = x, y -/
def sPar (i j : Nat) (a : XA) : XS := fun env S => (a env S).bind fun xs S => match xs with
  | [x, y] => .ok (.nx, (env.set i (some x)).set j (some y)) S
  | _ => .bad
def sDrop (e : XE) : XS := fun env S => (e env S).bind fun _ S => .ok (.nx, env) S
def sRet (e : XE) : XS := fun env S => (e env S).bind fun x S => .ok (.rt x, env) S
def sRetN : XS := fun env S => .ok (.rt .non, env) S
def sIf (c : XB) (a b : XS) : XS := fun env S => (c env S).bind fun k S => if k = true then a env S else b env S
def sBad : XS := fun _ _ => .bad
def sCont : XS := fun env S => .ok (.ct, env) S
def sBrk : XS := fun env S => .ok (.bk, env) S
def forGo (it : It) (all : List PV) (g : XG) (b : XS) : List PV → XS
  | [], env, S => if it.items S = some all then .ok (.nx, env) S else .bad
  | x :: r, env, S => if it.items S = some all then
      (g x env S).bind fun env S => (b env S).bind fun p S => match p.1 with
        | .nx => forGo it all g b r p.2 S
        | .ct => forGo it all g b r p.2 S
        | .bk => .ok (.nx, p.2) S
        | .rt v => .ok (.rt v, p.2) S
    else .bad
def sFor (i : XI) (g : XG) (b : XS) : XS := fun env S => (i env S).bind fun it S => match it.items S with
  | some all => forGo it all g b all env S
  | none => .bad
def whGo (c : XB) (b : XS) : Nat → XS
  | 0, _, _ => .bad
  | n + 1, env, S => (c env S).bind fun k S => if k = true then (b env S).bind fun p S => match p.1 with
        | .nx => whGo c b n p.2 S
        | .ct => whGo c b n p.2 S
        | .bk => .ok (.nx, p.2) S
        | .rt v => .ok (.rt v, p.2) S
      else .ok (.nx, env) S
def sWhile (c : XB) (b : XS) : XS := whGo c b lim
/-! stores to what stands in the store -/
def ixOf (n : Nat) (i : Int) : Option Nat := if 0 ≤ i then (if i < n then some i.toNat else none) else if 0 ≤ i + n then some (i + n).toNat else none
def putS : List Str → List PV → Str → PV → List Str × List PV
  | k :: ks, v :: vs, x, y => if k = x then (k :: ks, y :: vs) else ((k :: (putS ks vs x y).1, v :: (putS ks vs x y).2))
  | _, _, x, y => ([x], [y])
/-- d.update(e): texts the keys, d of the store, e written out -/
def mergeS : List Str → List PV → List Str → List PV → List Str × List PV
  | ks, vs, k :: js, x :: us => mergeS (putS ks vs k x).1 (putS ks vs k x).2 js us
  | ks, vs, _, _ => (ks, vs)
def eUpd (o a : XE) : XE := fun env S => (o env S).bind fun ov S => match ov with
  | .loc l => match S[l]? with
    | some (.dks _ _) => (a env S).bind fun av S => match av, S[l]? with
      | .dc js us, some (.dks ks vs) => if ks.length + js.length ≤ 1000 then .ok .non (S.set l (.dks (mergeS ks vs js us).1 (mergeS ks vs js us).2)) else .bad
      | _, _ => .bad
    | _ => .bad
  | _ => .bad
def oSet (o i v : PV) (S : Store) : R Unit := match o, i with
  | .loc l, .int j => match S[l]? with
    | some (.lst xs) => match ixOf xs.length j with
      | some k => .ok () (S.set l (.lst (xs.set k v)))
      | none => .bad
    | _ => .bad
  | .loc l, .str k => match S[l]? with
    | some (.dks ks vs) => if ks.length < lim then .ok () (S.set l (.dks (putS ks vs k v).1 (putS ks vs k v).2)) else .bad
    | _ => .bad
  | _, _ => .bad
def gSb (o i : XE) : XG := fun x env S => (o env S).bind fun ov S => (i env S).bind fun iv S => (oSet ov iv x S).bind fun _ S => .ok env S
def pput (f : Str) (y : PV) : List (Str × PV) → List (Str × PV)
  | [] => [(f, y)]
  | (g, x) :: r => if g = f then (g, y) :: r else (g, x) :: pput f y r
def plook (f : Str) : List (Str × PV) → Option PV
  | [] => none
  | (g, x) :: r => if g = f then some x else plook f r
def eFld (C0 : Nat) (o : XE) (f : Str) : XE := fun env S => (o env S).bind fun x S => match x with
  | .loc l => match S[l]? with
    | some (.ins C fs) => if C = C0 then match plook f fs with
        | some y => .ok y S
        | none => .bad
      else .bad
    | _ => .bad
  | _ => .bad
def sFld' (C0 : Nat) (o : XE) (f : Str) (e : XE) : XS := fun env S => (e env S).bind fun y S => (o env S).bind fun x S => match x with
  | .loc l => match S[l]? with
    | some (.ins C fs) => if C = C0 ∧ fs.length < 900 then .ok (.nx, env) (S.set l (.ins C (pput f y fs))) else .bad
    | _ => .bad
  | _ => .bad
/-- o.f += e, ints; e leaves o as it is -/
def sFldInc (C0 : Nat) (o : XE) (f : Str) (e : XE) : XS := fun env S => (o env S).bind fun x S => match x with
  | .loc l => match S[l]? with
    | some (.ins C fs) => if C = C0 then match plook f fs with
        | some (.int i) => (e env S).bind fun y S2 => match y, S2[l]? with
          | .int j, some (.ins C2 fs2) => if C2 = C0 ∧ fs2.length < 900 then .ok (.nx, env) (S2.set l (.ins C2 (pput f (.int (i + j)) fs2))) else .bad
          | _, _ => .bad
        | _ => .bad
      else .bad
    | _ => .bad
  | _ => .bad
/-! methods of lists of the store -/
def mAppend (l : Nat) (y : PV) (S : Store) : R PV := match S[l]? with
  | some (.lst xs) => if xs.length < lim then .ok .non (S.set l (.lst (xs ++ [y]))) else .bad
  | _ => .bad
def mExtend (l : Nat) (y : PV) (S : Store) : R PV := match S[l]?, lstOf S y with
  | some (.lst xs), some ys => if xs.length + ys.length ≤ lim then .ok .non (S.set l (.lst (xs ++ ys))) else .bad
  | _, _ => .bad
def mPop (l : Nat) (S : Store) : R PV := match S[l]? with
  | some (.lst xs) => match xs.getLast? with
    | some y => .ok y (S.set l (.lst xs.dropLast))
    | none => .bad
  | _ => .bad
def eMeth1 (f : Nat → PV → Store → R PV) (o a : XE) : XE := fun env S => (o env S).bind fun x S => match x with
  | .loc l => match S[l]? with
    | some (.lst _) => (a env S).bind fun y S => f l y S
    | _ => .bad
  | _ => .bad
def eMeth0 (f : Nat → Store → R PV) (o : XE) : XE := fun env S => (o env S).bind fun x S => match x with
  | .loc l => match S[l]? with
    | some (.lst _) => f l S
    | _ => .bad
  | _ => .bad
/-! ### defs -/
abbrev XF := List PV → Store → R PV
mutual
def low (n : Nat) : PV → Bool
  | .tup xs => lows n xs
  | .ls xs => lows n xs
  | .fz xs => lows n xs
  | .dc _ xs => lows n xs
  | .loc l => decide (l < n)
  | _ => true
def lows (n : Nat) : List PV → Bool
  | [] => true
  | x :: r => low n x && lows n r
end
def Cell.low (n : Nat) : Cell → Bool
  | .lst xs => lows n xs
  | .dks _ xs => lows n xs
  | .dkn _ xs => lows n xs
  | .ins _ fs => lows n (fs.map Prod.snd)
/-- a list that was made here goes out as one that nobody changes -/
def out1 (n : Nat) (S : Store) (v : PV) : Option PV := match v with
  | .loc l => if l < n then some v else match S[l]? with
    | some (.lst xs) => if lows n xs = true then some (.ls xs) else none
    | _ => none
  | v => if low n v = true then some v else none
def leave (n : Nat) (v : PV) (S : Store) : R PV :=
  if S.length = n then .ok v S
  else if (S.take n).all (Cell.low n) = true then match out1 n S v with
    | some w => .ok w (S.take n)
    | none => .bad
  else .bad
/-- a def whose own lists end with it -/
def fnP (np many : Nat) (b : XS) : XF := fun args S => if args.length = np then (b (args.map some ++ List.replicate (many - args.length) none) S).bind fun p S' => match p.1 with
    | .rt v => leave S.length v S'
    | .nx => leave S.length .non S'
    | _ => .bad
  else .bad
/-- a def whose lists stay -/
def fnK (np many : Nat) (b : XS) : XF := fun args S => if args.length = np then (b (args.map some ++ List.replicate (many - args.length) none) S).bind fun p S' => match p.1 with
    | .rt v => .ok v S'
    | .nx => .ok .non S'
    | _ => .bad
  else .bad
def eCall (f : XF) (a : XA) : XE := fun env S => (a env S).bind fun xs S => f xs S
/-- o.m(..), o an instance of the class at C -/
def eMe (C : Nat) (m : Str) (f : XF) (o : XE) (a : XA) : XE := fun env S => (o env S).bind fun x S => match x with
  | .loc l => match S[l]? with
    | some (.ins C' fs) => if C' = C ∧ plook m fs = none then (a env S).bind fun xs S => f (.loc l :: xs) S else .bad
    | _ => .bad
  | _ => .bad
/-- C(..) -/
def eMake (C : Nat) (f : XF) (a : XA) : XE := fun env S => (a env S).bind fun xs S1 => (f (.loc S1.length :: xs) (S1 ++ [.ins C []])).bind fun r S2 => match r with
  | .non => .ok (.loc S1.length) S2
  | _ => .bad
end

/-! Mini1 -/
/-! Mini1: how the plain data lies in the abstract heap. -/
section
open PySem L2

/-- where the store's cells lie, and what is hidden from everybody for a time -/
structure Rho where
  lb : List Addr
  hid : List Addr
/-- what is neither a table of code nor a thing told by its heap alone -/
def Plain (o : HO) : Prop := (∀ ps, o ≠ .tbl ps) ∧ ∀ f, o = .ext f → ∀ c q, HO.ext f ≠ LamX.CodeO c q
/-- a dict whose keys are tuples of any depth: its own object (the keys' tuples stand elsewhere) -/
def DnO (w : World) (a : Addr) (kvs : List (NestedKey × Addr × V)) : HO := .ext fun h => ∃ xs : List (NestedKey × Addr × Value), Paired (fun p q => p.1 = q.1 ∧ p.2.1 = q.2.1 ∧ RelV p.2.2 q.2.2) kvs xs ∧ (a == sysModules) = false ∧
  ∃ o es ep, h.get? a = some o ∧ o.ExactDict ∧ o.data = .dict es ep ∧ es.toList = xs.map (fun x => (⟨x.1.hash w, .ref x.2.1, x.2.2⟩ : DictEntry)) ∧ (xs.map (·.1)).Nodup
theorem DnO.plain {w : World} {a : Addr} {kvs : List (NestedKey × Addr × V)} : Plain (DnO w a kvs) := by
  refine ⟨fun _ z => (by unfold DnO at z; cases z), fun f hf c q z => ?_⟩
  rw [← hf] at z
  unfold DnO LamX.CodeO at z
  have z := HO.ext.inj z
  have z := congrFun z ⟨Array.replicate (c + 1) { cls := .none, data := .fields #[.none, .str q 0] }, {}⟩
  have hg : ∀ b o, Heap.get? ⟨Array.replicate (c + 1) { cls := .none, data := .fields #[.none, .str q 0] }, {}⟩ b = some o → o = { cls := .none, data := .fields #[.none, .str q 0] } := fun b o e => by
    unfold Heap.get? at e
    simp only [Array.getElem?_replicate] at e
    split at e
    · cases e
    · split at e
      · exact (Option.some.inj e).symm
      · cases e
  have hc : Heap.get? ⟨Array.replicate (c + 1) { cls := .none, data := .fields #[.none, .str q 0] }, {}⟩ c = some { cls := .none, data := .fields #[.none, .str q 0] } := by
    unfold Heap.get?
    simp only [Array.getElem?_replicate]
    rw [if_pos (Nat.lt_succ_self c)]
  obtain ⟨_, _, _, o, es, ep, h1, _, h2, _⟩ := z.mpr ⟨_, _, 0, hc, rfl, rfl⟩
  rw [hg _ _ h1] at h2
  cases h2
theorem Plain.lst {vs : List V} : Plain (.lst vs) := ⟨fun _ z => (by cases z), fun _ z => by cases z⟩
theorem Plain.tup {vs : List V} : Plain (.tup vs) := ⟨fun _ z => (by cases z), fun _ z => by cases z⟩
theorem Plain.dK {vs : List (Key × V)} : Plain (.dK vs) := ⟨fun _ z => (by cases z), fun _ z => by cases z⟩
theorem Plain.own {a : Addr} : Plain (.own a) := ⟨fun _ z => (by cases z), fun _ z => by cases z⟩
theorem Plain.ins {C dx : Addr} {gs : List (Str × V)} : Plain (.ins C dx gs) := ⟨fun _ z => (by cases z), fun _ z => by cases z⟩
theorem Plain.xd {gs : List (Str × V)} : Plain (.xd gs) := ⟨fun _ z => (by cases z), fun _ z => by cases z⟩
theorem Plain.frz {o : Obj} {u : HO} : Plain (.frz o u) := ⟨fun _ z => (by cases z), fun _ z => by cases z⟩
/-- the tables stay where something plain is written -/
theorem tabs_upd {T : List (Addr × Str)} {H : Hp} {a : Addr} {o u : HO} (t : LamX.Tabs T H) (h : H a = some o) (n : Plain o) : LamX.Tabs T (upd H a u) := fun p hp => by
  obtain ⟨ps, h1, h2, h3⟩ := t p hp
  have ne : ∀ b v, H b = some v → (∀ o', v = o' → ¬ Plain o') → b ≠ a := fun b v e k z => by
    rw [z, h] at e
    cases e
    exact k _ rfl n
  refine ⟨ps, by rw [upd_ne (ne _ _ h1 fun o' e q => by subst e; exact q.1 ps rfl)]; exact h1, h2, fun pos cv hc => ?_⟩
  obtain ⟨c, e1, e2⟩ := h3 pos cv hc
  exact ⟨c, e1, by rw [upd_ne (ne _ _ e2 fun o' e q => by subst e; exact q.2 _ rfl c p.2 rfl)]; exact e2⟩
theorem tabs_new {T : List (Addr × Str)} {H : Hp} {a : Addr} {u : HO} (t : LamX.Tabs T H) (h : H a = none) : LamX.Tabs T (upd H a u) := t.ext fun b o e => by rw [upd_ne (ne_of_none e h)]; exact e
/-- apart from both -/
def Rho.Out (ρ : Rho) (a : Addr) : Prop := a ∉ ρ.lb ∧ a ∉ ρ.hid
/-- a tuple of the module's own top -/
def SqK (K : PySem.W.Frag) (a : Addr) (xs : List V) : Prop := ∃ (o : Obj) (its : Array Value) (n : Nat), K.lookup a = some o ∧ o.cls = .type "tuple" ∧ o.data = .seq its n ∧ its.size ≤ sizeLine ∧ Vals xs its.toList
/-- a tuple that may be read, not one of the store -/
def TupAt (K : PySem.W.Frag) (ρ : Rho) (H : Hp) (a : Addr) (vs : List V) : Prop := (Rd H a (.tup vs) ∧ ρ.Out a) ∨ SqK K a vs
theorem TupAt.sq {K : PySem.W.Frag} {ρ : Rho} {H : Hp} {a : Addr} {vs : List V} (h : TupAt K ρ H a vs) : SqT K H a vs := by
  rcases h with h | h
  · exact .inl h.1
  · exact .inr h
/-- a list of the module's own top; a list that is only read -/
def SqLK (K : PySem.W.Frag) (a : Addr) (xs : List V) : Prop := ∃ (o : Obj) (its : Array Value) (n : Nat), K.lookup a = some o ∧ o.cls = .type "list" ∧ o.dict = none ∧ o.data = .seq its n ∧ its.size ≤ sizeLine ∧ Vals xs its.toList
def LstAt (K : PySem.W.Frag) (ρ : Rho) (H : Hp) (a : Addr) (vs : List V) : Prop := (Rd H a (.lst vs) ∧ ρ.Out a) ∨ SqLK K a vs
theorem LstAt.sq {K : PySem.W.Frag} {ρ : Rho} {H : Hp} {a : Addr} {vs : List V} (h : LstAt K ρ H a vs) : SqL K H a vs := by
  rcases h with h | h
  · exact .inl h.1
  · exact .inr h
def keysV (ks : List Str) (vs : List V) : List (Key × V) := (ks.zip vs).map fun p => (.inr p.1, p.2)
mutual
def Rep (K : PySem.W.Frag) (ρ : Rho) (H : Hp) : PV → V → Prop
  | .non, v => v = .non
  | .bl b, v => v = .bl b
  | .int i, v => v = .int i
  | .str s, v => v = .str s
  | .tup xs, v => ∃ a vs, v = .ref a ∧ TupAt K ρ H a vs ∧ Reps K ρ H xs vs
  | .ls xs, v => ∃ a vs, v = .ref a ∧ (H a = some (.lst vs) ∧ ρ.Out a) ∧ Reps K ρ H xs vs
  | .fz xs, v => ∃ a vs, v = .ref a ∧ LstAt K ρ H a vs ∧ Reps K ρ H xs vs
  | .dc ks xs, v => ∃ a vs, v = .ref a ∧ (Rd H a (.dK (keysV ks vs)) ∧ ρ.Out a) ∧ ks.length = xs.length ∧ ks.Nodup ∧ Reps K ρ H xs vs
  | .loc l, v => ∃ a, ρ.lb[l]? = some a ∧ v = .ref a
def Reps (K : PySem.W.Frag) (ρ : Rho) (H : Hp) : List PV → List V → Prop
  | [], vs => vs = []
  | x :: r, vs => ∃ v s, vs = v :: s ∧ Rep K ρ H x v ∧ Reps K ρ H r s
end
/-- free, or a table of code -/
def FrA (H : Hp) (a : Addr) : Prop := ∀ o, H a = some o → ∃ ps, o = .tbl ps
theorem FrA.of {H : Hp} {a : Addr} (h : H a = none) : FrA H a := fun o e => by rw [h] at e; cases e
theorem FrA.no {H : Hp} {a : Addr} {o : HO} (f : FrA H a) (h : H a = some o) (nt : ∀ ps, o ≠ .tbl ps) : False := let ⟨ps, e⟩ := f o h; nt ps e
/-- the heap behind: what stands apart from the store stays; the store may have grown -/
structure Ext (ρ : Rho) (H : Hp) (ρ' : Rho) (H' : Hp) : Prop where
  more : ∃ m, ρ'.lb = ρ.lb ++ m ∧ ∀ a ∈ m, FrA H a
  hid : ρ'.hid = ρ.hid
  keep : ∀ a o, H a = some o → (∀ ps, o ≠ .tbl ps) → a ∉ ρ.lb → H' a = some o
  dom : ∀ a, FrA H' a → FrA H a
theorem Ext.refl (ρ : Rho) (H : Hp) : Ext ρ H ρ H := ⟨⟨[], by simp⟩, rfl, fun _ _ h _ _ => h, fun _ h => h⟩
theorem Ext.trans {ρ ρ1 ρ2 : Rho} {H H1 H2 : Hp} (a : Ext ρ H ρ1 H1) (b : Ext ρ1 H1 ρ2 H2) : Ext ρ H ρ2 H2 := by
  obtain ⟨m, em, hm⟩ := a.more
  obtain ⟨n, en, hn⟩ := b.more
  refine ⟨⟨m ++ n, by rw [en, em, List.append_assoc], fun x hx => ?_⟩, b.hid.trans a.hid, fun x o h nt hx => ?_, fun x h => a.dom x (b.dom x h)⟩
  · rcases List.mem_append.mp hx with h | h
    · exact hm x h
    · exact a.dom x (hn x h)
  · refine b.keep x o (a.keep x o h nt hx) nt fun z => ?_
    rw [em] at z
    rcases List.mem_append.mp z with z | z
    · exact hx z
    · exact (hm x z).no h nt
theorem Ext.out {ρ ρ' : Rho} {H H' : Hp} (e : Ext ρ H ρ' H') {a : Addr} {o : HO} (h : H a = some o) (nt : ∀ ps, o ≠ .tbl ps) (n : ρ.Out a) : ρ'.Out a := by
  obtain ⟨m, em, hm⟩ := e.more
  refine ⟨fun z => ?_, by rw [e.hid]; exact n.2⟩
  rw [em] at z
  rcases List.mem_append.mp z with z | z
  · exact n.1 z
  · exact (hm a z).no h nt
theorem Ext.new {ρ : Rho} {H : Hp} {p : Addr} {o : HO} (h : H p = none) : Ext ρ H ρ (upd H p o) := by
  refine ⟨⟨[], by simp⟩, rfl, fun a u e _ _ => ?_, fun a e => ?_⟩
  · rw [upd_ne (ne_of_none e h)]; exact e
  · by_cases x : a = p
    · rw [x]; exact .of h
    · intro o q; exact e o (by rw [upd_ne x]; exact q)
theorem Rd.ext {ρ ρ' : Rho} {H H' : Hp} (e : Ext ρ H ρ' H') {a : Addr} {u : HO} (h : Rd H a u) (nt : Plain u) (n : a ∉ ρ.lb) : Rd H' a u := by
  rcases h with h | ⟨o, h⟩
  · exact .inl (e.keep a _ h nt.1 n)
  · exact .inr ⟨o, e.keep a _ h Plain.frz.1 n⟩
theorem Rd.someP {H : Hp} {a : Addr} {u : HO} (h : Rd H a u) (nt : Plain u) : ∃ o, H a = some o ∧ ∀ ps, o ≠ .tbl ps := by
  rcases h with h | ⟨o, h⟩
  · exact ⟨_, h, nt.1⟩
  · exact ⟨_, h, Plain.frz.1⟩
theorem Rd.some {H : Hp} {a : Addr} {u : HO} (h : Rd H a u) : ∃ o, H a = some o := by
  rcases h with h | ⟨o, h⟩
  · exact ⟨_, h⟩
  · exact ⟨_, h⟩
section
variable {w : World} {K : PySem.W.Frag} {ρ ρ' : Rho} {H H' : Hp}
mutual
theorem Rep.ext (e : Ext ρ H ρ' H') : ∀ (x : PV) (v : V), Rep K ρ H x v → Rep K ρ' H' x v
  | .non, _, h => by unfold Rep at h ⊢; exact h
  | .bl _, _, h => by unfold Rep at h ⊢; exact h
  | .int _, _, h => by unfold Rep at h ⊢; exact h
  | .str _, _, h => by unfold Rep at h ⊢; exact h
  | .tup xs, v, h => by
    unfold Rep at h ⊢
    obtain ⟨a, vs, rfl, h1, h3⟩ := h
    refine ⟨a, vs, rfl, ?_, Reps.ext e xs vs h3⟩
    rcases h1 with ⟨h1, h2⟩ | h1
    · obtain ⟨o, ho, hn0⟩ := Rd.someP h1 .tup
      exact .inl ⟨Rd.ext e h1 .tup h2.1, e.out ho hn0 h2⟩
    · exact .inr h1
  | .ls xs, v, h => by
    unfold Rep at h ⊢
    obtain ⟨a, vs, rfl, ⟨h1, h2⟩, h3⟩ := h
    exact ⟨a, vs, rfl, ⟨e.keep a _ h1 Plain.lst.1 h2.1, e.out h1 Plain.lst.1 h2⟩, Reps.ext e xs vs h3⟩
  | .fz xs, v, h => by
    unfold Rep at h ⊢
    obtain ⟨a, vs, rfl, h1, h3⟩ := h
    refine ⟨a, vs, rfl, ?_, Reps.ext e xs vs h3⟩
    rcases h1 with ⟨h1, h2⟩ | h1
    · obtain ⟨o, ho, hn0⟩ := Rd.someP h1 .lst
      exact .inl ⟨Rd.ext e h1 .lst h2.1, e.out ho hn0 h2⟩
    · exact .inr h1
  | .dc ks xs, v, h => by
    unfold Rep at h ⊢
    obtain ⟨a, vs, rfl, ⟨h1, h2⟩, hl, hn, h3⟩ := h
    obtain ⟨o, ho, hn0⟩ := Rd.someP h1 .dK
    exact ⟨a, vs, rfl, ⟨Rd.ext e h1 .dK h2.1, e.out ho hn0 h2⟩, hl, hn, Reps.ext e xs vs h3⟩
  | .loc l, v, h => by
    unfold Rep at h ⊢
    obtain ⟨a, h1, rfl⟩ := h
    obtain ⟨m, em, _⟩ := e.more
    exact ⟨a, by rw [em, List.getElem?_append_left (List.getElem?_eq_some_iff.mp h1).1]; exact h1, rfl⟩
theorem Reps.ext (e : Ext ρ H ρ' H') : ∀ (xs : List PV) (vs : List V), Reps K ρ H xs vs → Reps K ρ' H' xs vs
  | [], _, h => by unfold Reps at h ⊢; exact h
  | x :: r, vs, h => by
    unfold Reps at h ⊢
    obtain ⟨v, s, rfl, h1, h2⟩ := h
    exact ⟨v, s, rfl, Rep.ext e x v h1, Reps.ext e r s h2⟩
end
theorem Reps.length : ∀ {xs : List PV} {vs : List V}, Reps K ρ H xs vs → xs.length = vs.length
  | [], _, h => by unfold Reps at h; subst h; rfl
  | x :: r, _, h => by
    unfold Reps at h
    obtain ⟨v, s, rfl, _, h2⟩ := h
    rw [List.length_cons, List.length_cons, Reps.length h2]
theorem Reps.nil : Reps K ρ H [] [] := by unfold Reps; rfl
theorem Reps.cons {x : PV} {v : V} {r : List PV} {s : List V} (h : Rep K ρ H x v) (t : Reps K ρ H r s) : Reps K ρ H (x :: r) (v :: s) := by unfold Reps; exact ⟨v, s, rfl, h, t⟩
theorem Reps.uncons {x : PV} {r : List PV} {vs : List V} (h : Reps K ρ H (x :: r) vs) : ∃ v s, vs = v :: s ∧ Rep K ρ H x v ∧ Reps K ρ H r s := by unfold Reps at h; exact h
theorem Reps.append : ∀ {xs ys : List PV} {vs us : List V}, Reps K ρ H xs vs → Reps K ρ H ys us → Reps K ρ H (xs ++ ys) (vs ++ us)
  | [], _, _, _, h, k => by unfold Reps at h; rw [h]; exact k
  | x :: r, _, _, _, h, k => by
    obtain ⟨v, s, rfl, h1, h2⟩ := h.uncons
    exact .cons h1 (Reps.append h2 k)
theorem Reps.get : ∀ {xs : List PV} {vs : List V} {i : Nat} {x : PV}, Reps K ρ H xs vs → xs[i]? = some x → ∃ v, vs[i]? = some v ∧ Rep K ρ H x v
  | [], _, _, _, _, e => by simp at e
  | y :: r, _, 0, x, h, e => by
    obtain ⟨v, s, rfl, h1, h2⟩ := h.uncons
    simp at e
    subst e
    exact ⟨v, rfl, h1⟩
  | y :: r, _, i + 1, x, h, e => by
    obtain ⟨v, s, rfl, h1, h2⟩ := h.uncons
    obtain ⟨u, e1, e2⟩ := Reps.get (i := i) h2 (by simpa using e)
    exact ⟨u, by simpa using e1, e2⟩
theorem Reps.getV : ∀ {xs : List PV} {vs : List V} {i : Nat} {v : V}, Reps K ρ H xs vs → vs[i]? = some v → ∃ x, xs[i]? = some x ∧ Rep K ρ H x v := fun {xs vs i v} h e => by
  have hi : i < xs.length := by rw [h.length]; exact (List.getElem?_eq_some_iff.mp e).1
  obtain ⟨u, e1, e2⟩ := h.get (List.getElem?_eq_getElem hi)
  rw [e] at e1; cases e1
  exact ⟨_, List.getElem?_eq_getElem hi, e2⟩
theorem Reps.set {x : PV} {v : V} (h : Rep K ρ H x v) : ∀ {xs : List PV} {vs : List V} (i : Nat), Reps K ρ H xs vs → Reps K ρ H (xs.set i x) (vs.set i v)
  | [], _, _, k => by unfold Reps at k; rw [k]; exact .nil
  | y :: r, _, 0, k => by
    obtain ⟨u, s, rfl, h1, h2⟩ := k.uncons
    exact .cons h h2
  | y :: r, _, i + 1, k => by
    obtain ⟨u, s, rfl, h1, h2⟩ := k.uncons
    exact .cons h1 (Reps.set h i h2)
theorem Reps.take : ∀ {xs : List PV} {vs : List V} (n : Nat), Reps K ρ H xs vs → Reps K ρ H (xs.take n) (vs.take n)
  | _, _, 0, _ => by simp only [List.take_zero]; exact .nil
  | [], _, n + 1, k => by unfold Reps at k; rw [k]; exact .nil
  | y :: r, _, n + 1, k => by
    obtain ⟨u, s, rfl, h1, h2⟩ := k.uncons
    exact .cons h1 (Reps.take n h2)
theorem Reps.drop : ∀ {xs : List PV} {vs : List V} (n : Nat), Reps K ρ H xs vs → Reps K ρ H (xs.drop n) (vs.drop n)
  | _, _, 0, k => k
  | [], _, n + 1, k => by unfold Reps at k; rw [k]; exact .nil
  | y :: r, _, n + 1, k => by
    obtain ⟨u, s, rfl, h1, h2⟩ := k.uncons
    exact Reps.drop n h2
theorem Reps.reverse : ∀ {xs : List PV} {vs : List V}, Reps K ρ H xs vs → Reps K ρ H xs.reverse vs.reverse
  | [], _, h => by unfold Reps at h; rw [h]; exact .nil
  | x :: r, _, h => by
    obtain ⟨v, s, rfl, h1, h2⟩ := h.uncons
    rw [List.reverse_cons, List.reverse_cons]
    exact Reps.append (Reps.reverse h2) (.cons h1 .nil)
theorem Reps.rep {xs : List PV} {vs : List V} (h : Reps K ρ H xs vs) : ∀ n, Reps K ρ H (rep xs n) (List.replicate n vs).flatten
  | 0 => .nil
  | n + 1 => by
    show Reps K ρ H (List.replicate (n + 1) xs).flatten (List.replicate (n + 1) vs).flatten
    rw [List.replicate_succ, List.replicate_succ, List.flatten_cons, List.flatten_cons]
    exact h.append (Reps.rep h n)
end

/-! ### the store -/
def Flds (K : PySem.W.Frag) (ρ : Rho) (H : Hp) : List (Str × PV) → List (Str × V) → Prop
  | [], gs => gs = []
  | (f, x) :: r, gs => ∃ v s, gs = (f, v) :: s ∧ Rep K ρ H x v ∧ Flds K ρ H r s
/-- a key's form -/
def keyD : Nat → PV → Bool
  | _, .non => true
  | _, .int _ => true
  | _, .str _ => true
  | n + 1, .tup xs => xs.all (keyD n)
  | _, _ => false
mutual
def nk : PV → NestedKey
  | .int i => .num i
  | .str s => .text s
  | .tup xs => .tup (nks xs)
  | _ => .none
def nks : List PV → List NestedKey
  | [] => []
  | x :: r => nk x :: nks r
end
def DkAt (K : PySem.W.Frag) (ρ : Rho) (H : Hp) : List PV → List PV → List (NestedKey × Addr × V) → Prop
  | [], [], kvs => kvs = []
  | k :: ks, x :: xs, kvs => ∃ b v r, kvs = (nk k, b, v) :: r ∧ keyD 8 k = true ∧ Rep K ρ H k (.ref b) ∧ Rep K ρ H x v ∧ DkAt K ρ H ks xs r
  | _, _, _ => False
theorem DkAt.imp {K : PySem.W.Frag} {ρ ρ' : Rho} {H H' : Hp} : ∀ {ks xs : List PV} {kvs : List (NestedKey × Addr × V)}, (∀ k v, k ∈ ks → keyD 8 k = true → Rep K ρ H k v → Rep K ρ' H' k v) → (∀ x v, x ∈ xs → Rep K ρ H x v → Rep K ρ' H' x v) → DkAt K ρ H ks xs kvs → DkAt K ρ' H' ks xs kvs
  | [], [], _, _, _, h => h
  | k :: ks, x :: xs, _, m, m2, h => by
    obtain ⟨b, v, r, rfl, h1, h2, h3, h4⟩ := h
    exact ⟨b, v, r, rfl, h1, m _ _ List.mem_cons_self h1 h2, m2 _ _ List.mem_cons_self h3, DkAt.imp (fun k v hk => m k v (List.mem_cons_of_mem _ hk)) (fun x v hx => m2 x v (List.mem_cons_of_mem _ hx)) h4⟩
  | [], _ :: _, _, _, _, h => h.elim
  | _ :: _, [], _, _, _, h => h.elim
def CellAt (w : World) (K : PySem.W.Frag) (ρ : Rho) (H : Hp) : Cell → Addr → Prop
  | .lst xs, a => ∃ vs, H a = some (.lst vs) ∧ Reps K ρ H xs vs
  | .dks ks xs, a => ∃ vs, H a = some (.dK (keysV ks vs)) ∧ ks.length = xs.length ∧ ks.Nodup ∧ Reps K ρ H xs vs
  | .dkn ks xs, a => ∃ kvs, H a = some (DnO w a kvs) ∧ DkAt K ρ H ks xs kvs
  | .ins C fs, a => ∃ dx gs, H a = some (.ins C dx gs) ∧ H dx = some (.own a) ∧ ρ.Out dx ∧ Flds K ρ H fs gs
structure Rel (w : World) (K : PySem.W.Frag) (ρ : Rho) (S : Store) (H : Hp) : Prop where
  len : ρ.lb.length = S.length
  nd : ρ.lb.Nodup
  at_ : ∀ (l : Nat) (c : Cell) (a : Addr), S[l]? = some c → ρ.lb[l]? = some a → CellAt w K ρ H c a
  hd : ∀ a ∈ ρ.hid, (∃ o, H a = some o ∧ Plain o) ∧ a ∉ ρ.lb
  tabs : LamX.Tabs (KT K) H
structure EnvR (K : PySem.W.Frag) (ρ : Rho) (H : Hp) (env : Env) (σ : St) : Prop where
  len : env.length = σ.length
  at_ : ∀ (i : Nat) (x : PV), env[i]? = some (some x) → ∃ v, σ[i]? = some (some v) ∧ Rep K ρ H x v
section
variable {w : World} {K : PySem.W.Frag} {ρ ρ' : Rho} {H H' : Hp} {env : Env} {σ : St}
theorem EnvR.ext (e : Ext ρ H ρ' H') (h : EnvR K ρ H env σ) : EnvR K ρ' H' env σ := ⟨h.len, fun i x hx => by
  obtain ⟨v, h1, h2⟩ := h.at_ i x hx
  exact ⟨v, h1, Rep.ext e x v h2⟩⟩
theorem EnvR.set {x : PV} {v : V} (h : EnvR K ρ H env σ) (i : Nat) (r : Rep K ρ H x v) : EnvR K ρ H (env.set i (some x)) (σ.set i (some v)) := ⟨by simp [h.len], fun j y hy => by
  by_cases e : i = j
  · subst e
    by_cases hi : i < env.length
    · rw [List.getElem?_set_self hi] at hy
      cases hy
      exact ⟨v, by rw [List.getElem?_set_self (by rw [← h.len]; exact hi)], r⟩
    · rw [List.getElem?_eq_none (by rw [List.length_set]; omega)] at hy; cases hy
  · rw [List.getElem?_set_ne e] at hy ⊢
    exact h.at_ j y hy⟩
theorem EnvR.wipe (h : EnvR K ρ H env σ) : ∀ own : List Nat, EnvR K ρ H (wipeE env own) (wipe σ own)
  | [] => h
  | i :: r => ⟨by simp [wipeE, L2.wipe, (EnvR.wipe h r).len], fun j y hy => by
    have q := EnvR.wipe h r
    show ∃ v, ((L2.wipe σ r).set i none)[j]? = some (some v) ∧ _
    have hy : ((wipeE env r).set i none)[j]? = some (some y) := hy
    by_cases e : i = j
    · subst e
      by_cases hi : i < (wipeE env r).length
      · rw [List.getElem?_set_self hi] at hy; cases hy
      · rw [List.getElem?_eq_none (by rw [List.length_set]; omega)] at hy; cases hy
    · rw [List.getElem?_set_ne e] at hy ⊢
      exact q.at_ j y hy⟩
end
end

/-! Mini2 -/
/-! Mini2: the small machine's pieces as readings. -/
section
open PySem L2

/-- what is known of a text's own top: the written part, the classes of errors by name -/
structure Gx where
  K : PySem.W.Frag
  xc : Str → Option Value
  w : World
def ExcR (G : Gx) (ρ : Rho) (H : Hp) (e : PExc) (cls : Value) (d : Option Addr) : Prop :=
  G.xc e.cls = some cls ∧ ((e.fs = [] ∧ d = none) ∨ ∃ a gs, d = some a ∧ e.fs ≠ [] ∧ H a = some (.xd gs) ∧ ρ.Out a ∧ Flds G.K ρ H e.fs gs)
/-- what comes of a result: k of what is told, of the store and of the heap; the wish E of an error -/
def Aft (G : Gx) (E : XK) {α : Type} (ρ : Rho) (H : Hp) (r : R α) (k : Rho → Store → Hp → α → Prop) : Prop :=
  match r with
  | .ok a S' => ∀ ρ' H', Ext ρ H ρ' H' → Rel G.w G.K ρ' S' H' → k ρ' S' H' a
  | .exc e S' => ∀ ρ' H' cls d, Ext ρ H ρ' H' → Rel G.w G.K ρ' S' H' → ExcR G ρ' H' e cls d → E cls d H'
  | .bad => False
section
variable {G : Gx} {E : XK} {α β : Type} {ρ ρ1 : Rho} {H H1 : Hp} {S : Store}
theorem Aft.shift {r : R α} {k : Rho → Store → Hp → α → Prop} (h : Aft G E ρ H r k) (e : Ext ρ H ρ1 H1) : Aft G E ρ1 H1 r k := by
  cases r with
  | ok a S' => exact fun ρ' H' e' q => h ρ' H' (e.trans e') q
  | exc x S' => exact fun ρ' H' c d e' q z => h ρ' H' c d (e.trans e') q z
  | bad => exact h
theorem Aft.mono {r : R α} {k k' : Rho → Store → Hp → α → Prop} (h : Aft G E ρ H r k) (m : ∀ ρ' S' H' a, Ext ρ H ρ' H' → Rel G.w G.K ρ' S' H' → k ρ' S' H' a → k' ρ' S' H' a) : Aft G E ρ H r k' := by
  cases r with
  | ok a S' => exact fun ρ' H' e' q => m ρ' S' H' a e' q (h ρ' H' e' q)
  | exc x S' => exact h
  | bad => exact h
/-- one piece behind another -/
theorem Aft.bind {r : R α} {f : α → Store → R β} {k : Rho → Store → Hp → β → Prop} (h : Aft G E ρ H (r.bind f) k) : Aft G E ρ H r (fun ρ1 S1 H1 a => Aft G E ρ1 H1 (f a S1) k) := by
  cases r with
  | ok a S' =>
    intro ρ' H' e q
    exact Aft.shift (r := f a S') h e
  | exc x S' => exact h
  | bad => exact h
/-- .. with what is known behind the first -/
theorem Aft.step {r : R α} {f : α → Store → R β} {k : Rho → Store → Hp → β → Prop} {k' : Rho → Store → Hp → α → Prop} (h : Aft G E ρ H (r.bind f) k)
    (m : ∀ ρ' S' H' a, Ext ρ H ρ' H' → Rel G.w G.K ρ' S' H' → Aft G E ρ' H' (f a S') k → k' ρ' S' H' a) : Aft G E ρ H r k' := (Aft.bind h).mono m
theorem Aft.ok {a : α} {k : Rho → Store → Hp → α → Prop} (h : Aft G E ρ H (.ok a S) k) (q : Rel G.w G.K ρ S H) : k ρ S H a := h ρ H (Ext.refl ρ H) q
end

/-! ### readings -/
def kV (G : Gx) (Q : VK) : Rho → Store → Hp → PV → Prop := fun ρ _ H x => ∀ v, Rep G.K ρ H x v → Q v H
def tI (G : Gx) (E : XK) (m : XE) : TE := fun σ H Q => ∃ ρ S env, Rel G.w G.K ρ S H ∧ EnvR G.K ρ H env σ ∧ Aft G E ρ H (m env S) (kV G Q)
def tIB (G : Gx) (E : XK) (m : XB) : TT := fun σ H Q => ∃ ρ S env, Rel G.w G.K ρ S H ∧ EnvR G.K ρ H env σ ∧ Aft G E ρ H (m env S) (fun _ _ H' b => Q b H')
def tIA (G : Gx) (E : XK) (m : XA) : TA := fun σ H Q => ∃ ρ S env, Rel G.w G.K ρ S H ∧ EnvR G.K ρ H env σ ∧ Aft G E ρ H (m env S) (fun ρ' _ H' xs => ∀ vs, Reps G.K ρ' H' xs vs → Q vs H')
def kS (G : Gx) (D : Ends) : Rho → Store → Hp → Fl × Env → Prop := fun ρ _ H p => match p.1 with
  | .nx => ∀ σ, EnvR G.K ρ H p.2 σ → D.nx σ H
  | .rt x => ∀ v, Rep G.K ρ H x v → D.rt v H
  | .bk => ∀ σ, EnvR G.K ρ H p.2 σ → D.bk σ H
  | .ct => ∀ σ, EnvR G.K ρ H p.2 σ → D.ct σ H
def tIS (G : Gx) (E : XK) (m : XS) : TS := fun D σ H => ∃ ρ S env, Rel G.w G.K ρ S H ∧ EnvR G.K ρ H env σ ∧ Aft G E ρ H (m env S) (kS G D)

/-- a weaker reading -/
theorem _root_.L2.PE.imp {X : Cx} {e : Expr} {t u : TE} (h : PE X e t) (m : ∀ σ H Q, u σ H Q → t σ H Q) : PE X e u := ⟨fun pins s σ H Q I q => h.run pins s σ H Q I (m σ H Q q)⟩
theorem _root_.L2.PT.imp {X : Cx} {e : Expr} {t u : TT} (h : PT X e t) (m : ∀ σ H Q, u σ H Q → t σ H Q) : PT X e u := ⟨fun pins s σ H Q I q => h.run pins s σ H Q I (m σ H Q q)⟩
theorem _root_.L2.PA.imp {X : Cx} {e : List Expr} {t u : TA} (h : PA X e t) (m : ∀ σ H Q, u σ H Q → t σ H Q) : PA X e u := ⟨fun p pins s σ H Q I q => h.run p pins s σ H Q I (m σ H Q q)⟩
theorem _root_.L2.PS.imp {X : Cx} {e : Stmt} {t u : TS} (h : PS X e t) (m : ∀ D σ H, u D σ H → t D σ H) : PS X e u := ⟨fun pins s σ H D I q => h.run pins s σ H D I (m D σ H q)⟩
theorem _root_.L2.PSs.imp {X : Cx} {e : List Stmt} {t u : TS} (h : PSs X e t) (m : ∀ D σ H, u D σ H → t D σ H) : PSs X e u := ⟨fun pins s σ H D I q => h.run pins s σ H D I (m D σ H q)⟩
theorem _root_.L2.PE.or {X : Cx} {e : Expr} {t u : TE} (h : PE X e t) (h' : PE X e u) : PE X e (fun σ H Q => t σ H Q ∨ u σ H Q) := ⟨fun pins s σ H Q I q => q.elim (h.run pins s σ H Q I) (h'.run pins s σ H Q I)⟩

section
variable {G : Gx} {E : XK} {X : Cx} {a b c e : Expr} {ma mb mc : XE} {pos : Pos}
theorem i_var {i : Nat} {x : Str} (hN : X.N[i]? = some x) (hv : Vis X.env.scope x) (hd : (x == ("__debug__" : Str)) = false := by decide) (hcd : (x == ("__classdict__" : Str)) = false := by decide) : PE X (.Name x pos) (tI G E (eVar i)) :=
  (pe_var hN hv hd hcd).imp fun σ H Q h => by
    obtain ⟨ρ, S, env, hR, hE, h⟩ := h
    unfold eVar at h
    split at h
    · rename_i x hx
      obtain ⟨v, h1, h2⟩ := hE.at_ _ _ hx
      exact ⟨v, h1, h.ok hR v h2⟩
    · exact h.elim
/-- what is the same in every heap -/
theorem i_c {v : V} {x : PV} (h : PE X e (tC v)) (r : ∀ ρ H, Rep G.K ρ H x v) : PE X e (tI G E (eC x)) := h.imp fun σ H Q h => by
  obtain ⟨ρ, S, env, hR, hE, h⟩ := h
  exact h.ok hR v (r ρ H)
theorem i_int {i : Int} {j} : PE X (.Constant (.int i) j pos) (tI G E (eC (.int i))) := i_c pe_int fun _ _ => by unfold Rep; rfl
theorem i_bl {k : Bool} {j} : PE X (.Constant (.bool k) j pos) (tI G E (eC (.bl k))) := i_c pe_bl fun _ _ => by unfold Rep; rfl
theorem i_non {j} : PE X (.Constant .none j pos) (tI G E (eC .non)) := i_c pe_non fun _ _ => by unfold Rep; rfl
theorem i_str {x : Str} {j} : PE X (.Constant (.str x) j pos) (tI G E (eC (.str x))) := i_c pe_str fun _ _ => by unfold Rep; rfl
/-- operations by values -/
def Sd2 (G : Gx) (E : XK) (r : R2) (op : Op2) : Prop := ∀ ρ S H x y v u Q, Rel G.w G.K ρ S H → Rep G.K ρ H x v → Rep G.K ρ H y u → Aft G E ρ H (op x y S) (kV G Q) → r v u H Q
def Sd1 (G : Gx) (E : XK) (r : V → Hp → VK → Prop) (op : Op1) : Prop := ∀ ρ S H x v Q, Rel G.w G.K ρ S H → Rep G.K ρ H x v → Aft G E ρ H (op x S) (kV G Q) → r v H Q
/-- two in a row -/
theorem two {σ : St} {H : Hp} {ρ : Rho} {S : Store} {env : Env} {β : Type} {f : PV → PV → Store → R β} {k : Rho → Store → Hp → β → Prop} {Q : V → V → Hp → Prop} (hR : Rel G.w G.K ρ S H) (hE : EnvR G.K ρ H env σ)
    (h : Aft G E ρ H ((ma env S).bind fun x S => (mb env S).bind fun y S => f x y S) k)
    (m : ∀ ρ' S' H' x y v u, Ext ρ H ρ' H' → Rel G.w G.K ρ' S' H' → Rep G.K ρ' H' x v → Rep G.K ρ' H' y u → Aft G E ρ' H' (f x y S') k → Q v u H') :
    tI G E ma σ H fun v H1 => tI G E mb σ H1 fun u H2 => Q v u H2 := by
  refine ⟨ρ, S, env, hR, hE, h.step fun ρ1 S1 H1 x e1 hR1 h1 v rv => ?_⟩
  refine ⟨ρ1, S1, env, hR1, hE.ext e1, h1.step fun ρ2 S2 H2 y e2 hR2 h2 u ru => ?_⟩
  exact m ρ2 S2 H2 x y v u (e1.trans e2) hR2 (Rep.ext e2 x v rv) ru h2
theorem i_op {op : Operator} {r : R2} {o : Op2} (ho : OpR X (binaryOp op) r) (so : Sd2 G E r o) (ha : PE X a (tI G E ma)) (hb : PE X b (tI G E mb)) : PE X (.BinOp a op b pos) (tI G E (eOp o ma mb)) :=
  (pe_op ho ha hb).imp fun σ H Q h => by
    obtain ⟨ρ, S, env, hR, hE, h⟩ := h
    exact two hR hE h fun ρ' S' H' x y v u e' hR' rv ru h' => so ρ' S' H' x y v u Q hR' rv ru h'
theorem i_un {op : UnaryOp} {r : V → Hp → VK → Prop} {o : Op1} (ho : UnR X (unaryOp op) r) (so : Sd1 G E r o) (ha : PE X a (tI G E ma)) : PE X (.UnaryOp op a pos) (tI G E (eUn o ma)) :=
  (pe_un ho ha).imp fun σ H Q h => by
    obtain ⟨ρ, S, env, hR, hE, h⟩ := h
    exact ⟨ρ, S, env, hR, hE, h.step fun ρ1 S1 H1 x e1 hR1 h1 v rv => so ρ1 S1 H1 x v Q hR1 rv h1⟩
theorem i_cmp {op : CmpOp} {r : R2} {o : Op2} (ho : OpR X (compareOp op) r) (so : Sd2 G E r o) (ha : PE X a (tI G E ma)) (hb : PE X b (tI G E mb)) (hm : behindInMarks op b = false) : PE X (.Compare a [op] [b] pos) (tI G E (eOp o ma mb)) :=
  (pe_cmpR ho ha hb hm).imp fun σ H Q h => by
    obtain ⟨ρ, S, env, hR, hE, h⟩ := h
    exact two hR hE h fun ρ' S' H' x y v u e' hR' rv ru h' => so ρ' S' H' x y v u Q hR' rv ru h'
/-- what is known of a value that has a plain form -/
theorem Rep.bl_of {K : PySem.W.Frag} {ρ : Rho} {H : Hp} {k : Bool} {v : V} (h : Rep K ρ H (.bl k) v) : v = .bl k := by unfold Rep at h; exact h
theorem Rep.int_of {K : PySem.W.Frag} {ρ : Rho} {H : Hp} {k : Int} {v : V} (h : Rep K ρ H (.int k) v) : v = .int k := by unfold Rep at h; exact h
theorem Rep.str_of {K : PySem.W.Frag} {ρ : Rho} {H : Hp} {k : Str} {v : V} (h : Rep K ρ H (.str k) v) : v = .str k := by unfold Rep at h; exact h
theorem Rep.non_of {K : PySem.W.Frag} {ρ : Rho} {H : Hp} {v : V} (h : Rep K ρ H .non v) : v = .non := by unfold Rep at h; exact h
theorem Rep.bl {K : PySem.W.Frag} {ρ : Rho} {H : Hp} {k : Bool} : Rep K ρ H (.bl k) (.bl k) := by unfold Rep; rfl
theorem Rep.int {K : PySem.W.Frag} {ρ : Rho} {H : Hp} {k : Int} : Rep K ρ H (.int k) (.int k) := by unfold Rep; rfl
theorem Rep.str {K : PySem.W.Frag} {ρ : Rho} {H : Hp} {k : Str} : Rep K ρ H (.str k) (.str k) := by unfold Rep; rfl
theorem Rep.non {K : PySem.W.Frag} {ρ : Rho} {H : Hp} : Rep K ρ H .non .non := by unfold Rep; rfl
theorem i_one {op} {m : XE} (h : PE X a (tI G E m)) : PE X (.BoolOp op [a] pos) (tI G E m) := pe_one h
variable {rest : List Expr}
theorem i_and (ha : PE X a (tI G E ma)) (hb : PE X (.BoolOp .And (b :: rest) pos) (tI G E mb)) : PE X (.BoolOp .And (a :: b :: rest) pos) (tI G E (eAnd ma mb)) :=
  (pe_and ha hb).imp fun σ H Q h => by
    obtain ⟨ρ, S, env, hR, hE, h⟩ := h
    refine ⟨ρ, S, env, hR, hE, h.step fun ρ1 S1 H1 x e1 hR1 h1 v rv => ?_⟩
    split at h1
    · rw [rv.bl_of]
      exact ⟨true, rfl, by rw [if_pos rfl]; exact ⟨ρ1, S1, env, hR1, hE.ext e1, h1⟩⟩
    · rw [rv.bl_of]
      exact ⟨false, rfl, by rw [if_neg Bool.false_ne_true]; exact h1.ok hR1 _ Rep.bl⟩
    · exact h1.elim
theorem i_or (ha : PE X a (tI G E ma)) (hb : PE X (.BoolOp .Or (b :: rest) pos) (tI G E mb)) : PE X (.BoolOp .Or (a :: b :: rest) pos) (tI G E (eOr ma mb)) :=
  (pe_or ha hb).imp fun σ H Q h => by
    obtain ⟨ρ, S, env, hR, hE, h⟩ := h
    refine ⟨ρ, S, env, hR, hE, h.step fun ρ1 S1 H1 x e1 hR1 h1 v rv => ?_⟩
    split at h1
    · rw [rv.bl_of]
      exact ⟨true, rfl, by rw [if_pos rfl]; exact h1.ok hR1 _ Rep.bl⟩
    · rw [rv.bl_of]
      exact ⟨false, rfl, by rw [if_neg Bool.false_ne_true]; exact ⟨ρ1, S1, env, hR1, hE.ext e1, h1⟩⟩
    · exact h1.elim
theorem i_not (ha : PE X a (tI G E ma)) : PE X (.UnaryOp .Not a pos) (tI G E (eNot ma)) :=
  (pe_not ha).imp fun σ H Q h => by
    obtain ⟨ρ, S, env, hR, hE, h⟩ := h
    refine ⟨ρ, S, env, hR, hE, h.step fun ρ1 S1 H1 x e1 hR1 h1 v rv => ?_⟩
    split at h1
    · rw [rv.bl_of]
      exact ⟨_, rfl, h1.ok hR1 _ Rep.bl⟩
    · exact h1.elim
/-! tests -/
theorem j_val {e : Expr} (h : PE X e (tI G E ma)) (he : ∀ whole, isTrue e X.env whole = (do let v ← whole; standAt e.pos; holding [v] (truthy v)) := by intro _; rfl) : PT X e (tIB G E (bVal ma)) :=
  (pt_val h he).imp fun σ H Q h => by
    obtain ⟨ρ, S, env, hR, hE, h⟩ := h
    refine ⟨ρ, S, env, hR, hE, h.step fun ρ1 S1 H1 x e1 hR1 h1 v rv => ?_⟩
    split at h1
    · rw [rv.bl_of]
      exact ⟨_, rfl, h1.ok hR1⟩
    · exact h1.elim
theorem j_cmp {op : CmpOp} {r : R2} {o : Op2} (ho : OpR X (compareOp op) r) (so : Sd2 G E r o) (ha : PE X a (tI G E ma)) (hb : PE X b (tI G E mb)) (hm : behindInMarks op b = false) : PT X (.Compare a [op] [b] pos) (tIB G E (bVal (eOp o ma mb))) :=
  (pt_cmpR ho ha hb hm).imp fun σ H Q h => by
    obtain ⟨ρ, S, env, hR, hE, h⟩ := h
    have h' : Aft G E ρ H ((ma env S).bind fun x S => (mb env S).bind fun y S => (o x y S).bind fun z S => match z with | .bl k => R.ok k S | _ => .bad) (fun _ _ H' b => Q b H') := by
      have e : ((eOp o ma mb env S).bind fun z S => match z with | .bl k => R.ok k S | _ => .bad) = ((ma env S).bind fun x S => (mb env S).bind fun y S => (o x y S).bind fun z S => match z with | .bl k => R.ok k S | _ => .bad) := by
        unfold eOp
        cases ma env S with
        | ok x S1 =>
          simp only [R.bind_ok]
          cases mb env S1 with
          | ok y S2 => rfl
          | exc _ _ => rfl
          | bad => rfl
        | exc _ _ => rfl
        | bad => rfl
      rw [← e]
      exact h
    refine two hR hE h' fun ρ' S' H' x y v u e' hR' rv ru h2 => so ρ' S' H' x y v u _ hR' rv ru ?_
    refine h2.step fun ρ3 S3 H3 z e3 hR3 h3 w rw' => ?_
    split at h3
    · rw [rw'.bl_of]
      exact ⟨_, rfl, h3.ok hR3⟩
    · exact h3.elim
theorem j_not {t : XB} (h : PT X a (tIB G E t)) : PT X (.UnaryOp .Not a pos) (tIB G E (bNot t)) :=
  (pt_not h).imp fun σ H Q h => by
    obtain ⟨ρ, S, env, hR, hE, h⟩ := h
    exact ⟨ρ, S, env, hR, hE, h.step fun ρ1 S1 H1 x e1 hR1 h1 => h1.ok hR1⟩
theorem _root_.L2.PW.imp {X : Cx} {e : Expr} {t u : TT} (h : PW X e t) (m : ∀ σ H Q, u σ H Q → t σ H Q) : PW X e u := ⟨fun w pins s σ H Q I q => h.run w pins s σ H Q I (m σ H Q q)⟩
theorem j_and1 {t : XB} (h : PT X a (tIB G E t)) : PW X (.BoolOp .And [a] pos) (tIB G E t) := pw_and1 h
theorem j_or1 {t : XB} (h : PT X a (tIB G E t)) : PW X (.BoolOp .Or [a] pos) (tIB G E t) := pw_or1 h
theorem j_and {t u : XB} (ha : PT X a (tIB G E t)) (hb : PW X (.BoolOp .And (b :: rest) pos) (tIB G E u)) : PW X (.BoolOp .And (a :: b :: rest) pos) (tIB G E (bAnd t u)) :=
  PW.imp (pw_and ha hb) fun σ H Q h => by
    obtain ⟨ρ, S, env, hR, hE, h⟩ := h
    refine ⟨ρ, S, env, hR, hE, h.step fun ρ1 S1 H1 k e1 hR1 h1 => ?_⟩
    cases k with
    | true => exact ⟨ρ1, S1, env, hR1, hE.ext e1, h1⟩
    | false => exact h1.ok hR1
theorem j_or {t u : XB} (ha : PT X a (tIB G E t)) (hb : PW X (.BoolOp .Or (b :: rest) pos) (tIB G E u)) : PW X (.BoolOp .Or (a :: b :: rest) pos) (tIB G E (bOr t u)) :=
  PW.imp (pw_or ha hb) fun σ H Q h => by
    obtain ⟨ρ, S, env, hR, hE, h⟩ := h
    refine ⟨ρ, S, env, hR, hE, h.step fun ρ1 S1 H1 k e1 hR1 h1 => ?_⟩
    cases k with
    | true => exact h1.ok hR1
    | false => exact ⟨ρ1, S1, env, hR1, hE.ext e1, h1⟩
theorem i_ifExp {t : XB} (hc : PT X c (tIB G E t)) (ha : PE X a (tI G E ma)) (hb : PE X b (tI G E mb)) : PE X (.IfExp c a b pos) (tI G E (eIf t ma mb)) :=
  (pe_ifExp hc ha hb).imp fun σ H Q h => by
    obtain ⟨ρ, S, env, hR, hE, h⟩ := h
    refine ⟨ρ, S, env, hR, hE, h.step fun ρ1 S1 H1 k e1 hR1 h1 => ?_⟩
    cases k with
    | true => exact ⟨ρ1, S1, env, hR1, hE.ext e1, h1⟩
    | false => exact ⟨ρ1, S1, env, hR1, hE.ext e1, h1⟩
/-! arguments -/
theorem i_nil : PA X [] (tIA G E aNil) := pa_nil.imp fun σ H Q h => by
  obtain ⟨ρ, S, env, hR, hE, h⟩ := h
  exact h.ok hR [] Reps.nil
theorem i_cons {es : List Expr} {m : XE} {r : XA} (h1 : PE X e (tI G E m)) (h2 : PA X es (tIA G E r)) (hs : starEach (e :: es) X.env = (false, eval e X.env) :: starEach es X.env := by rfl) : PA X (e :: es) (tIA G E (aCons m r)) :=
  (pa_cons h1 h2 hs).imp fun σ H Q h => by
    obtain ⟨ρ, S, env, hR, hE, h⟩ := h
    refine ⟨ρ, S, env, hR, hE, h.step fun ρ1 S1 H1 x e1 hR1 h1 v rv => ?_⟩
    refine ⟨ρ1, S1, env, hR1, hE.ext e1, h1.step fun ρ2 S2 H2 xs e2 hR2 h2 vs rvs => ?_⟩
    exact h2.ok hR2 _ (.cons (Rep.ext e2 x v rv) rvs)
end
end

/-! MiniT -/
/-! MiniT: a tuple * 1 is the tuple. -/
section
open PySem PySem.Spec PyProof.Rows L2
set_option maxHeartbeats 4100000 in
theorem tuple_once (l : Addr) (items : Array Value) (n : Nat) (dd : Option Addr) (sl : Array (Option Value)) (u : Tok) :
    Meets (Builtin.«tuple.__mul__» ⟨[.ref l, .int 1 u], []⟩) (fun _ R s => s.heap.get? l = some ⟨.type "tuple", dd, .seq items n, sl⟩ ∧ R (.ok (.ret (.ref l))) s) :=
  .of_wp fun prog w A R st pre => by
    cases st with
    | mk hp g d tk os =>
      have hl := pre.1
      have q := pre.2
      have f1 := AutoSeq1.idx_int
      wp_walk using (wpAny_loadPart' hl)
      exact ⟨_, rfl, q⟩
def rOnce (K : PySem.W.Frag) : R2 := fun x y H Q => ∃ l xs, x = .ref l ∧ y = .int 1 ∧ SqT K H l xs ∧ Q x H
set_option maxHeartbeats 4100000 in
theorem op_once {X : Cx} : OpR X (binaryOp .Mult) (rOnce X.K) := by
  rintro pins s σ H x y _ u Q I rx ry ⟨l, xs, rfl, rfl, hT, q⟩
  cases rx
  obtain ⟨t, rfl⟩ := ry
  obtain ⟨its, r, ⟨ob, ho, hc, n, hd⟩, hs⟩ := I.tuple hT
  obtain ⟨cls, dd, data, sl⟩ := ob
  simp only at hc hd
  subst hc hd
  have m1 := int_rmul_tuple 1 t l its.toArray n dd sl
  have m2 := tuple_once l its.toArray n dd sl t
  refine wpAny_binaryOp_repeat_ref (T := "tuple") (U := "int") (by decide) ⟨_, ho, rfl⟩ (fun s' => typeIs_int s' 1 t) noFill_tuple_mul F.fills_int_mul F.slot_int_rmul repeat_tuple F.slot_int_index.lookup ?_
  refine call_meets F.slot_int_rmul (typeIs_int s 1 t) F.entry_int_rmul (F.args_int_rmul_2 _ _) m1 ⟨ho, rfl, ⟨_, ho, rfl⟩, ?_⟩
  refine call_meets F.slot_tuple_mul ⟨_, ho, rfl⟩ F.entry_tuple_mul (F.args_tuple_mul_2 _ _) m2 ⟨ho, ?_⟩
  exact ⟨.ref l, H, I, rfl, q⟩
end

/-! Mini3 -/
/-! Mini3: operations. -/
section
open PySem L2
section
variable {w : World} {K : PySem.W.Frag} {ρ ρ' : Rho} {H H' : Hp} {S : Store}
theorem CellAt.thereP {c : Cell} {a : Addr} (h : CellAt w K ρ H c a) : ∃ o, H a = some o ∧ Plain o := by
  cases c with
  | lst xs => obtain ⟨vs, h, _⟩ := h; exact ⟨_, h, .lst⟩
  | dks ks xs => obtain ⟨vs, h, _⟩ := h; exact ⟨_, h, .dK⟩
  | dkn ks xs => obtain ⟨kvs, h, _⟩ := h; exact ⟨_, h, DnO.plain⟩
  | ins C fs => obtain ⟨dx, gs, h, _⟩ := h; exact ⟨_, h, .ins⟩
theorem CellAt.there {c : Cell} {a : Addr} (h : CellAt w K ρ H c a) : ∃ o, H a = some o := let ⟨o, h, _⟩ := h.thereP; ⟨o, h⟩
theorem Flds.ext (e : Ext ρ H ρ' H') : ∀ {fs : List (Str × PV)} {gs : List (Str × V)}, Flds K ρ H fs gs → Flds K ρ' H' fs gs
  | [], _, h => h
  | (f, x) :: r, _, h => by
    obtain ⟨v, s, rfl, h1, h2⟩ := h
    exact ⟨v, s, rfl, Rep.ext e x v h1, Flds.ext e h2⟩
theorem CellAt.ext {c : Cell} {a : Addr} (e : Ext ρ H ρ' H') (k : H' a = H a) (h : CellAt w K ρ H c a) : CellAt w K ρ' H' c a := by
  cases c with
  | lst xs => obtain ⟨vs, h1, h2⟩ := h; exact ⟨vs, by rw [k]; exact h1, Reps.ext e _ _ h2⟩
  | dks ks xs => obtain ⟨vs, h1, h2, h3, h4⟩ := h; exact ⟨vs, by rw [k]; exact h1, h2, h3, Reps.ext e _ _ h4⟩
  | dkn ks xs => obtain ⟨kvs, h1, h2⟩ := h; exact ⟨kvs, by rw [k]; exact h1, h2.imp (fun x v _ _ => Rep.ext e x v) fun x v _ => Rep.ext e x v⟩
  | ins C fs => obtain ⟨dx, gs, h1, h2, h3, h4⟩ := h; exact ⟨dx, gs, by rw [k]; exact h1, e.keep _ _ h2 Plain.own.1 h3.1, e.out h2 Plain.own.1 h3, Flds.ext e h4⟩
theorem Rel.out1 (q : Rel w K ρ S H) {p : Addr} (h : H p = none) : p ∉ ρ.lb := fun z => by
  obtain ⟨l, hl, e⟩ := List.mem_iff_getElem.mp z
  have hS : l < S.length := by rw [← q.len]; exact hl
  obtain ⟨o, ho⟩ := (q.at_ l S[l] p (List.getElem?_eq_getElem hS) (by rw [List.getElem?_eq_getElem hl, e])).there
  rw [h] at ho; cases ho
theorem Rel.out (q : Rel w K ρ S H) {p : Addr} (h : H p = none) : ρ.Out p := ⟨q.out1 h, fun z => by
  obtain ⟨⟨o, ho, _⟩, _⟩ := q.hd p z
  rw [h] at ho; cases ho⟩
theorem Rel.cell (q : Rel w K ρ S H) {l : Nat} {a : Addr} (h : ρ.lb[l]? = some a) : ∃ c, S[l]? = some c ∧ CellAt w K ρ H c a := by
  have hl : l < S.length := by rw [← q.len]; exact (List.getElem?_eq_some_iff.mp h).1
  exact ⟨S[l], List.getElem?_eq_getElem hl, q.at_ l _ a (List.getElem?_eq_getElem hl) h⟩
theorem Rel.addr (q : Rel w K ρ S H) {l : Nat} {c : Cell} (h : S[l]? = some c) : ∃ a, ρ.lb[l]? = some a ∧ CellAt w K ρ H c a := by
  have hl : l < ρ.lb.length := by rw [q.len]; exact (List.getElem?_eq_some_iff.mp h).1
  exact ⟨ρ.lb[l], List.getElem?_eq_getElem hl, q.at_ l _ _ h (List.getElem?_eq_getElem hl)⟩
/-- a new thing apart from the store -/
theorem Rel.new {p : Addr} {o : HO} (q : Rel w K ρ S H) (h : H p = none) : Rel w K ρ S (upd H p o) := ⟨q.len, q.nd, fun l c a h1 h2 => by
  have c1 := q.at_ l c a h1 h2
  obtain ⟨u, hu⟩ := c1.there
  exact c1.ext (Ext.new h) (upd_ne (ne_of_none hu h)), fun a ha => by
  obtain ⟨⟨u, hu, pl⟩, n⟩ := q.hd a ha
  exact ⟨⟨u, by rw [upd_ne (ne_of_none hu h)]; exact hu, pl⟩, n⟩, tabs_new q.tabs h⟩
/-- the store with one cell more -/
def Rho.add (ρ : Rho) (p : Addr) : Rho := ⟨ρ.lb ++ [p], ρ.hid⟩
theorem Ext.grow {p : Addr} {o : HO} (h : H p = none) : Ext ρ H (ρ.add p) (upd H p o) :=
  ⟨⟨[p], rfl, fun a ha => by rw [List.mem_singleton.mp ha]; exact .of h⟩, rfl, (Ext.new (ρ := ρ) h).keep, (Ext.new (ρ := ρ) h).dom⟩
/-- a new thing of the store -/
theorem Rel.grow {p : Addr} {o : HO} {c : Cell} (q : Rel w K ρ S H) (h : H p = none) (hc : CellAt w K (ρ.add p) (upd H p o) c p) : Rel w K (ρ.add p) (S ++ [c]) (upd H p o) := by
  refine ⟨by simp [Rho.add, q.len], ?_, fun l d a h1 h2 => ?_, fun a ha => ?_, tabs_new q.tabs h⟩
  · show (ρ.lb ++ [p]).Nodup
    rw [List.nodup_append]
    exact ⟨q.nd, by simp, fun a ha b hb e => q.out1 h (by rw [List.mem_singleton.mp hb] at e; exact e ▸ ha)⟩
  · have h2 : (ρ.lb ++ [p])[l]? = some a := h2
    by_cases hl : l < S.length
    · rw [List.getElem?_append_left hl] at h1
      rw [List.getElem?_append_left (by rw [q.len]; exact hl)] at h2
      have c1 := q.at_ l d a h1 h2
      obtain ⟨u, hu⟩ := c1.there
      exact c1.ext (Ext.grow h) (upd_ne (ne_of_none hu h))
    · have e : l = S.length := by
        have := (List.getElem?_eq_some_iff.mp h1).1
        rw [List.length_append] at this
        simp at this
        omega
      subst e
      rw [List.getElem?_append_right (Nat.le_refl _)] at h1
      rw [List.getElem?_append_right (by rw [q.len]; exact Nat.le_refl _)] at h2
      simp [q.len] at h1 h2
      subst h1 h2
      exact hc
  · obtain ⟨⟨u, hu, pl⟩, n⟩ := q.hd a ha
    refine ⟨⟨u, by rw [upd_ne (ne_of_none hu h)]; exact hu, pl⟩, fun z => ?_⟩
    rcases List.mem_append.mp (show a ∈ ρ.lb ++ [p] from z) with z | z
    · exact n z
    · rw [List.mem_singleton.mp z, h] at hu; cases hu
theorem Ext.write {a : Addr} {o : HO} (h : a ∈ ρ.lb) (po : ∀ ps, o ≠ .tbl ps := by intro _ z; cases z) : Ext ρ H ρ (upd H a o) := by
  refine ⟨⟨[], by simp⟩, rfl, fun b u e _ n => ?_, fun b e => ?_⟩
  · rw [upd_ne (fun z => n (by rw [z]; exact h))]; exact e
  · by_cases x : b = a
    · rw [x] at e; exact (e.no upd_same po).elim
    · exact fun u z => e u (by rw [upd_ne x]; exact z)
/-- a cell of the store changes -/
theorem Rel.write {l : Nat} {a : Addr} {o : HO} {c : Cell} (q : Rel w K ρ S H) (h : ρ.lb[l]? = some a) (hc : CellAt w K ρ (upd H a o) c a) : Rel w K ρ (S.set l c) (upd H a o) := by
  have ha : a ∈ ρ.lb := List.mem_of_getElem? h
  refine ⟨by simp [q.len], q.nd, fun j d b h1 h2 => ?_, fun b hb => ?_, let ⟨c0, _, at0⟩ := q.cell h; let ⟨_, e0, pl0⟩ := at0.thereP; tabs_upd q.tabs e0 pl0⟩
  · by_cases e : l = j
    · subst e
      rw [h] at h2; cases h2
      have hl : l < S.length := by rw [← q.len]; exact (List.getElem?_eq_some_iff.mp h).1
      rw [List.getElem?_set_self hl] at h1
      cases h1
      exact hc
    · rw [List.getElem?_set_ne e] at h1
      have c1 := q.at_ j d b h1 h2
      refine c1.ext (Ext.write ha (let ⟨_, e0, pl0⟩ := hc.thereP; by rw [upd_same] at e0; cases e0; exact pl0.1)) (upd_ne fun z => e ?_)
      subst z
      obtain ⟨h3, e3⟩ := List.getElem?_eq_some_iff.mp h
      obtain ⟨h4, e4⟩ := List.getElem?_eq_some_iff.mp h2
      exact (List.getElem_inj q.nd).mp (e3.trans e4.symm)
  · obtain ⟨⟨u, hu, pl⟩, n⟩ := q.hd b hb
    exact ⟨⟨u, by rw [upd_ne (fun z => n (by rw [z]; exact ha))]; exact hu, pl⟩, n⟩
/-! hiding -/
def Rho.hide (ρ : Rho) (p : Addr) : Rho := ⟨ρ.lb, p :: ρ.hid⟩
theorem Out.hide {p a : Addr} {o : HO} (h : ρ.Out a) (ha : H a = some o) (hp : H p = none) : (ρ.hide p).Out a := ⟨h.1, fun z => by
  rcases List.mem_cons.mp z with z | z
  · rw [z, hp] at ha; cases ha
  · exact h.2 z⟩
theorem Out.show' {p a : Addr} (h : (ρ.hide p).Out a) : ρ.Out a := ⟨h.1, fun z => h.2 (List.mem_cons_of_mem _ z)⟩
mutual
theorem Rep.hide {p : Addr} {o : HO} (hp : H p = none) : ∀ (x : PV) (v : V), Rep K ρ H x v → Rep K (ρ.hide p) (upd H p o) x v
  | .non, _, h => by unfold Rep at h ⊢; exact h
  | .bl _, _, h => by unfold Rep at h ⊢; exact h
  | .int _, _, h => by unfold Rep at h ⊢; exact h
  | .str _, _, h => by unfold Rep at h ⊢; exact h
  | .tup xs, v, h => by
    unfold Rep at h ⊢
    obtain ⟨a, vs, rfl, h1, h3⟩ := h
    refine ⟨a, vs, rfl, ?_, Reps.hide hp xs vs h3⟩
    rcases h1 with ⟨h1, h2⟩ | h1
    · obtain ⟨u, hu⟩ := Rd.some h1
      exact .inl ⟨Rd.ext (Ext.new (ρ := ρ) hp) h1 .tup h2.1, Out.hide h2 hu hp⟩
    · exact .inr h1
  | .ls xs, v, h => by
    unfold Rep at h ⊢
    obtain ⟨a, vs, rfl, ⟨h1, h2⟩, h3⟩ := h
    exact ⟨a, vs, rfl, ⟨(Ext.new (ρ := ρ) hp).keep a _ h1 Plain.lst.1 h2.1, Out.hide h2 h1 hp⟩, Reps.hide hp xs vs h3⟩
  | .fz xs, v, h => by
    unfold Rep at h ⊢
    obtain ⟨a, vs, rfl, h1, h3⟩ := h
    refine ⟨a, vs, rfl, ?_, Reps.hide hp xs vs h3⟩
    rcases h1 with ⟨h1, h2⟩ | h1
    · obtain ⟨u, hu⟩ := Rd.some h1
      exact .inl ⟨Rd.ext (Ext.new (ρ := ρ) hp) h1 .lst h2.1, Out.hide h2 hu hp⟩
    · exact .inr h1
  | .dc ks xs, v, h => by
    unfold Rep at h ⊢
    obtain ⟨a, vs, rfl, ⟨h1, h2⟩, hl, hn, h3⟩ := h
    obtain ⟨u, hu⟩ := Rd.some h1
    exact ⟨a, vs, rfl, ⟨Rd.ext (Ext.new (ρ := ρ) hp) h1 .dK h2.1, Out.hide h2 hu hp⟩, hl, hn, Reps.hide hp xs vs h3⟩
  | .loc l, v, h => by unfold Rep at h ⊢; exact h
theorem Reps.hide {p : Addr} {o : HO} (hp : H p = none) : ∀ (xs : List PV) (vs : List V), Reps K ρ H xs vs → Reps K (ρ.hide p) (upd H p o) xs vs
  | [], _, h => by unfold Reps at h ⊢; exact h
  | x :: r, vs, h => by
    unfold Reps at h ⊢
    obtain ⟨v, s, rfl, h1, h2⟩ := h
    exact ⟨v, s, rfl, Rep.hide hp x v h1, Reps.hide hp r s h2⟩
end
theorem Out.ne {p a : Addr} (hp : p ∈ ρ.hid) (h : ρ.Out a) : a ≠ p := fun e => h.2 (by rw [e]; exact hp)
mutual
/-- what is hidden may change -/
theorem Rep.hw {p : Addr} {o : HO} (hp : p ∈ ρ.hid) : ∀ (x : PV) (v : V), Rep K ρ H x v → Rep K ρ (upd H p o) x v
  | .non, _, h => by unfold Rep at h ⊢; exact h
  | .bl _, _, h => by unfold Rep at h ⊢; exact h
  | .int _, _, h => by unfold Rep at h ⊢; exact h
  | .str _, _, h => by unfold Rep at h ⊢; exact h
  | .tup xs, v, h => by
    unfold Rep at h ⊢
    obtain ⟨a, vs, rfl, h1, h3⟩ := h
    refine ⟨a, vs, rfl, ?_, Reps.hw hp xs vs h3⟩
    rcases h1 with ⟨h1, h2⟩ | h1
    · refine .inl ⟨?_, h2⟩
      unfold Rd
      rw [upd_ne (Out.ne hp h2)]
      exact h1
    · exact .inr h1
  | .ls xs, v, h => by
    unfold Rep at h ⊢
    obtain ⟨a, vs, rfl, ⟨h1, h2⟩, h3⟩ := h
    exact ⟨a, vs, rfl, ⟨by rw [upd_ne (Out.ne hp h2)]; exact h1, h2⟩, Reps.hw hp xs vs h3⟩
  | .fz xs, v, h => by
    unfold Rep at h ⊢
    obtain ⟨a, vs, rfl, h1, h3⟩ := h
    refine ⟨a, vs, rfl, ?_, Reps.hw hp xs vs h3⟩
    rcases h1 with ⟨h1, h2⟩ | h1
    · refine .inl ⟨?_, h2⟩
      unfold Rd
      rw [upd_ne (Out.ne hp h2)]
      exact h1
    · exact .inr h1
  | .dc ks xs, v, h => by
    unfold Rep at h ⊢
    obtain ⟨a, vs, rfl, ⟨h1, h2⟩, hl, hn, h3⟩ := h
    refine ⟨a, vs, rfl, ⟨?_, h2⟩, hl, hn, Reps.hw hp xs vs h3⟩
    unfold Rd
    rw [upd_ne (Out.ne hp h2)]
    exact h1
  | .loc l, v, h => by unfold Rep at h ⊢; exact h
theorem Reps.hw {p : Addr} {o : HO} (hp : p ∈ ρ.hid) : ∀ (xs : List PV) (vs : List V), Reps K ρ H xs vs → Reps K ρ (upd H p o) xs vs
  | [], _, h => by unfold Reps at h ⊢; exact h
  | x :: r, vs, h => by
    unfold Reps at h ⊢
    obtain ⟨v, s, rfl, h1, h2⟩ := h
    exact ⟨v, s, rfl, Rep.hw hp x v h1, Reps.hw hp r s h2⟩
end
theorem Flds.hide {p : Addr} {o : HO} (hp : H p = none) : ∀ {fs : List (Str × PV)} {gs : List (Str × V)}, Flds K ρ H fs gs → Flds K (ρ.hide p) (upd H p o) fs gs
  | [], _, h => h
  | (f, x) :: r, _, h => by
    obtain ⟨v, s, rfl, h1, h2⟩ := h
    exact ⟨v, s, rfl, Rep.hide hp x v h1, Flds.hide hp h2⟩
theorem Flds.hw {p : Addr} {o : HO} (hp : p ∈ ρ.hid) : ∀ {fs : List (Str × PV)} {gs : List (Str × V)}, Flds K ρ H fs gs → Flds K ρ (upd H p o) fs gs
  | [], _, h => h
  | (f, x) :: r, _, h => by
    obtain ⟨v, s, rfl, h1, h2⟩ := h
    exact ⟨v, s, rfl, Rep.hw hp x v h1, Flds.hw hp h2⟩
theorem Rel.hide {p : Addr} {o : HO} (q : Rel w K ρ S H) (hp : H p = none) (po : Plain o := by constructor <;> (intro _ z; cases z)) : Rel w K (ρ.hide p) S (upd H p o) := by
  refine ⟨q.len, q.nd, fun l c a h1 h2 => ?_, fun a ha => ?_, tabs_new q.tabs hp⟩
  · have c1 := q.at_ l c a h1 h2
    obtain ⟨u, hu⟩ := c1.there
    have na : a ≠ p := ne_of_none hu hp
    cases c with
    | lst xs => obtain ⟨vs, h1, h2⟩ := c1; exact ⟨vs, by rw [upd_ne na]; exact h1, Reps.hide hp _ _ h2⟩
    | dks ks xs => obtain ⟨vs, h1, h2, h3, h4⟩ := c1; exact ⟨vs, by rw [upd_ne na]; exact h1, h2, h3, Reps.hide hp _ _ h4⟩
    | dkn ks xs => obtain ⟨kvs, h1, h2⟩ := c1; exact ⟨kvs, by rw [upd_ne na]; exact h1, h2.imp (fun x v _ _ => Rep.hide hp x v) fun x v _ => Rep.hide hp x v⟩
    | ins C fs => obtain ⟨dx, gs, h1, h2, h3, h4⟩ := c1; exact ⟨dx, gs, by rw [upd_ne na]; exact h1, by rw [upd_ne (ne_of_none h2 hp)]; exact h2, Out.hide h3 h2 hp, Flds.hide hp h4⟩
  · rcases List.mem_cons.mp (show a ∈ p :: ρ.hid from ha) with z | z
    · rw [z]; exact ⟨⟨_, upd_same, po⟩, q.out1 hp⟩
    · obtain ⟨⟨u, hu, pl⟩, n⟩ := q.hd a z
      exact ⟨⟨u, by rw [upd_ne (ne_of_none hu hp)]; exact hu, pl⟩, n⟩
theorem Rel.hw {p : Addr} {o : HO} (q : Rel w K ρ S H) (hp : p ∈ ρ.hid) (po : Plain o := by constructor <;> (intro _ z; cases z)) : Rel w K ρ S (upd H p o) := by
  refine ⟨q.len, q.nd, fun l c a h1 h2 => ?_, fun a ha => ?_, let ⟨⟨_, e0, pl0⟩, _⟩ := q.hd p hp; tabs_upd q.tabs e0 pl0⟩
  · have c1 := q.at_ l c a h1 h2
    have na : a ≠ p := fun e => (q.hd p hp).2 (by rw [← e]; exact List.mem_of_getElem? h2)
    cases c with
    | lst xs => obtain ⟨vs, h1, h2⟩ := c1; exact ⟨vs, by rw [upd_ne na]; exact h1, Reps.hw hp _ _ h2⟩
    | dks ks xs => obtain ⟨vs, h1, h2, h3, h4⟩ := c1; exact ⟨vs, by rw [upd_ne na]; exact h1, h2, h3, Reps.hw hp _ _ h4⟩
    | dkn ks xs => obtain ⟨kvs, h1, h2⟩ := c1; exact ⟨kvs, by rw [upd_ne na]; exact h1, h2.imp (fun x v _ _ => Rep.hw hp x v) fun x v _ => Rep.hw hp x v⟩
    | ins C fs => obtain ⟨dx, gs, h1, h2, h3, h4⟩ := c1; exact ⟨dx, gs, by rw [upd_ne na]; exact h1, by rw [upd_ne (Out.ne hp h3)]; exact h2, h3, Flds.hw hp h4⟩
  · obtain ⟨⟨u, hu, pl⟩, n⟩ := q.hd a ha
    refine ⟨?_, n⟩
    by_cases e : a = p
    · rw [e]; exact ⟨_, upd_same, po⟩
    · exact ⟨u, by rw [upd_ne e]; exact hu, pl⟩
mutual
theorem Rep.unhide {p : Addr} : ∀ (x : PV) (v : V), Rep K (ρ.hide p) H x v → Rep K ρ H x v
  | .non, _, h => by unfold Rep at h ⊢; exact h
  | .bl _, _, h => by unfold Rep at h ⊢; exact h
  | .int _, _, h => by unfold Rep at h ⊢; exact h
  | .str _, _, h => by unfold Rep at h ⊢; exact h
  | .tup xs, v, h => by
    unfold Rep at h ⊢
    obtain ⟨a, vs, rfl, h1, h3⟩ := h
    refine ⟨a, vs, rfl, ?_, Reps.unhide xs vs h3⟩
    rcases h1 with ⟨h1, h2⟩ | h1
    · exact .inl ⟨h1, Out.show' h2⟩
    · exact .inr h1
  | .ls xs, v, h => by
    unfold Rep at h ⊢
    obtain ⟨a, vs, rfl, ⟨h1, h2⟩, h3⟩ := h
    exact ⟨a, vs, rfl, ⟨h1, Out.show' h2⟩, Reps.unhide xs vs h3⟩
  | .fz xs, v, h => by
    unfold Rep at h ⊢
    obtain ⟨a, vs, rfl, h1, h3⟩ := h
    refine ⟨a, vs, rfl, ?_, Reps.unhide xs vs h3⟩
    rcases h1 with ⟨h1, h2⟩ | h1
    · exact .inl ⟨h1, Out.show' h2⟩
    · exact .inr h1
  | .dc ks xs, v, h => by
    unfold Rep at h ⊢
    obtain ⟨a, vs, rfl, ⟨h1, h2⟩, hl, hn, h3⟩ := h
    exact ⟨a, vs, rfl, ⟨h1, Out.show' h2⟩, hl, hn, Reps.unhide xs vs h3⟩
  | .loc l, v, h => by unfold Rep at h ⊢; exact h
theorem Reps.unhide {p : Addr} : ∀ (xs : List PV) (vs : List V), Reps K (ρ.hide p) H xs vs → Reps K ρ H xs vs
  | [], _, h => by unfold Reps at h ⊢; exact h
  | x :: r, vs, h => by
    unfold Reps at h ⊢
    obtain ⟨v, s, rfl, h1, h2⟩ := h
    exact ⟨v, s, rfl, Rep.unhide x v h1, Reps.unhide r s h2⟩
end
theorem Flds.unhide {p : Addr} : ∀ {fs : List (Str × PV)} {gs : List (Str × V)}, Flds K (ρ.hide p) H fs gs → Flds K ρ H fs gs
  | [], _, h => h
  | (f, x) :: r, _, h => by
    obtain ⟨v, s, rfl, h1, h2⟩ := h
    exact ⟨v, s, rfl, Rep.unhide x v h1, Flds.unhide h2⟩
theorem Rel.unhide {p : Addr} (q : Rel w K (ρ.hide p) S H) : Rel w K ρ S H := by
  refine ⟨q.len, q.nd, fun l c a h1 h2 => ?_, fun a ha => q.hd a (List.mem_cons_of_mem _ ha), q.tabs⟩
  have c1 := q.at_ l c a h1 h2
  cases c with
  | lst xs => obtain ⟨vs, h1, h2⟩ := c1; exact ⟨vs, h1, Reps.unhide _ _ h2⟩
  | dks ks xs => obtain ⟨vs, h1, h2, h3, h4⟩ := c1; exact ⟨vs, h1, h2, h3, Reps.unhide _ _ h4⟩
  | dkn ks xs => obtain ⟨kvs, h1, h2⟩ := c1; exact ⟨kvs, h1, h2.imp (fun x v _ _ => Rep.unhide x v) fun x v _ => Rep.unhide x v⟩
  | ins C fs => obtain ⟨dx, gs, h1, h2, h3, h4⟩ := c1; exact ⟨dx, gs, h1, h2, Out.show' h3, Flds.unhide h4⟩
theorem lim_line : lim ≤ sizeLine := by rw [sizeLine_eq]; decide
theorem lim_lt {n : Nat} (h : n < lim) : n < sizeLine := Nat.lt_of_lt_of_le h lim_line
theorem lim_le {n : Nat} (h : n ≤ lim) : n ≤ sizeLine := Nat.le_trans h lim_line
/-- the items of a sequence in the heap -/
theorem seq_of (q : Rel w K ρ S H) {x : PV} {v : V} {xs : List PV} (r : Rep K ρ H x v) (h : seqOf S x = some xs) : ∃ a vs, v = .ref a ∧ (SqL K H a vs ∨ SqT K H a vs) ∧ Reps K ρ H xs vs := by
  cases x with
  | tup ys =>
    unfold Rep at r
    obtain ⟨a, vs, rfl, h1, h2⟩ := r
    cases h
    exact ⟨a, vs, rfl, .inr h1.sq, h2⟩
  | ls ys =>
    unfold Rep at r
    obtain ⟨a, vs, rfl, ⟨h1, _⟩, h2⟩ := r
    cases h
    exact ⟨a, vs, rfl, .inl (.of h1), h2⟩
  | fz ys =>
    unfold Rep at r
    obtain ⟨a, vs, rfl, h1, h2⟩ := r
    cases h
    exact ⟨a, vs, rfl, .inl h1.sq, h2⟩
  | loc l =>
    unfold Rep at r
    obtain ⟨a, h1, rfl⟩ := r
    obtain ⟨c, hc, ca⟩ := q.cell h1
    simp only [seqOf, hc] at h
    cases c with
    | lst ys =>
      cases h
      obtain ⟨vs, h1, h2⟩ := ca
      exact ⟨a, vs, rfl, .inl (.of h1), h2⟩
    | _ => cases h
  | _ => cases h
theorem lst_of (q : Rel w K ρ S H) {x : PV} {v : V} {xs : List PV} (r : Rep K ρ H x v) (h : lstOf S x = some xs) : ∃ a vs, v = .ref a ∧ H a = some (.lst vs) ∧ Reps K ρ H xs vs := by
  cases x with
  | ls ys =>
    unfold Rep at r
    obtain ⟨a, vs, rfl, ⟨h1, _⟩, h2⟩ := r
    cases h
    exact ⟨a, vs, rfl, h1, h2⟩
  | loc l =>
    unfold Rep at r
    obtain ⟨a, h1, rfl⟩ := r
    obtain ⟨c, hc, ca⟩ := q.cell h1
    simp only [lstOf, hc] at h
    cases c with
    | lst ys =>
      cases h
      obtain ⟨vs, h1, h2⟩ := ca
      exact ⟨a, vs, rfl, h1, h2⟩
    | _ => cases h
  | _ => cases h
end
section
variable {G : Gx} {E : XK} {ρ : Rho} {H : Hp} {S : Store} {Q : VK}
/-- a new list that nobody changes, a new tuple, a new list of the store -/
theorem put_ls {xs : List PV} {vs : List V} (q : Rel G.w G.K ρ S H) (r : Reps G.K ρ H xs vs) (h : Aft G E ρ H (.ok (.ls xs) S) (kV G Q)) : ∀ p, H p = none → Q (.ref p) (upd H p (.lst vs)) := fun p hp => by
  refine h ρ _ (Ext.new hp) (q.new hp) _ ?_
  unfold Rep
  exact ⟨p, vs, rfl, ⟨upd_same, q.out hp⟩, Reps.ext (Ext.new hp) _ _ r⟩
theorem put_tup {xs : List PV} {vs : List V} (q : Rel G.w G.K ρ S H) (r : Reps G.K ρ H xs vs) (h : Aft G E ρ H (.ok (.tup xs) S) (kV G Q)) : ∀ p, H p = none → Q (.ref p) (upd H p (.tup vs)) := fun p hp => by
  refine h ρ _ (Ext.new hp) (q.new hp) _ ?_
  unfold Rep
  exact ⟨p, vs, rfl, .inl ⟨.inl upd_same, q.out hp⟩, Reps.ext (Ext.new hp) _ _ r⟩
theorem put_new {xs : List PV} {vs : List V} (q : Rel G.w G.K ρ S H) (r : Reps G.K ρ H xs vs) (h : Aft G E ρ H (.ok (.loc S.length) (S ++ [.lst xs])) (kV G Q)) : ∀ p, H p = none → Q (.ref p) (upd H p (.lst vs)) := fun p hp => by
  refine h (ρ.add p) _ (Ext.grow hp) (q.grow hp ⟨vs, upd_same, Reps.ext (Ext.grow hp) _ _ r⟩) _ ?_
  unfold Rep
  exact ⟨p, by rw [← q.len]; show (ρ.lb ++ [p])[ρ.lb.length]? = some p; simp, rfl⟩
/-! ### arithmetic -/
theorem Sd2.or1 {r r' : R2} {o : Op2} (h : ∀ ρ S H x y v u Q, Rel G.w G.K ρ S H → Rep G.K ρ H x v → Rep G.K ρ H y u → Aft G E ρ H (o x y S) (kV G Q) → r v u H Q ∨ r' v u H Q) : Sd2 G E (fun x y H Q => r x y H Q ∨ r' x y H Q) o := h
def rAddU (K : PySem.W.Frag) : R2 := fun x y H Q => rI0 (fun i j => .int (i + j)) x y H Q ∨ (rCatA K x y H Q ∨ rCat x y H Q)
theorem op_addU {X : Cx} : OpR X (binaryOp .Add) (rAddU X.K) := OpR.or op_add (OpR.or op_catA op_cat)
theorem sd_add : Sd2 G E (rAddU G.K) oAdd := fun ρ S H x y v u Q q rx ry h => by
  unfold oAdd at h
  split at h
  · rw [rx.int_of, ry.int_of]
    exact .inl ⟨_, _, rfl, rfl, h.ok q _ Rep.int⟩
  · split at h
    · rename_i a b hl
      have rx' := rx
      have ry' := ry
      unfold Rep at rx ry
      obtain ⟨p, vs, rfl, t1, r1⟩ := rx
      obtain ⟨p2, us, rfl, t2, r2⟩ := ry
      refine .inr (.inl ⟨p, p2, vs, us, rfl, rfl, t1.sq, t2.sq, ?_, fun e => ?_, fun _ e => ?_, fun _ _ => ?_⟩)
      · rw [← r1.length, ← r2.length]; exact lim_le hl
      · subst e
        have : a = [] := List.eq_nil_of_length_eq_zero (by rw [r1.length]; rfl)
        subst this
        exact h.ok q _ ry'
      · subst e
        have : b = [] := List.eq_nil_of_length_eq_zero (by rw [r2.length]; rfl)
        subst this
        rw [List.append_nil] at h
        exact h.ok q _ rx'
      · exact put_tup q (r1.append r2) h
    · exact h.elim
  · split at h
    · rename_i a b h1 h2
      split at h
      · rename_i hl
        obtain ⟨p, vs, rfl, t1, r1⟩ := lst_of q rx h1
        obtain ⟨p2, us, rfl, t2, r2⟩ := lst_of q ry h2
        refine .inr (.inr ⟨p, p2, vs, us, rfl, rfl, t1, t2, ?_, put_ls q (r1.append r2) h⟩)
        rw [← r1.length, ← r2.length]; exact lim_le hl
      · exact h.elim
    · exact h.elim
theorem sd_sub : Sd2 G E (rI0 fun i j => .int (i - j)) oSub := fun ρ S H x y v u Q q rx ry h => by
  unfold oSub at h
  split at h
  · rw [rx.int_of, ry.int_of]
    exact ⟨_, _, rfl, rfl, h.ok q _ Rep.int⟩
  · exact h.elim
def rMulU (K : PySem.W.Frag) : R2 := fun x y H Q => rI CMul (fun i j => .int (i * j)) x y H Q ∨ (rOnce K x y H Q ∨ (rRepT K x y H Q ∨ rRep x y H Q))
theorem op_mulU {X : Cx} : OpR X (binaryOp .Mult) (rMulU X.K) := OpR.or op_mul (OpR.or op_once (OpR.or op_repT op_rep))
theorem mulOk_C {i j : Int} (h : mulOk i j = true) : CMul i j := by
  unfold mulOk at h
  simp only [Bool.or_eq_true, Bool.and_eq_true, decide_eq_true_eq] at h
  exact h
theorem sd_mul : Sd2 G E (rMulU G.K) oMul := fun ρ S H x y v u Q q rx ry h => by
  unfold oMul at h
  split at h
  · split at h
    · rename_i hm
      rw [rx.int_of, ry.int_of]
      exact .inl ⟨_, _, rfl, rfl, mulOk_C hm, h.ok q _ Rep.int⟩
    · exact h.elim
  · split at h
    · rename_i a j e
      subst e
      rw [ry.int_of]
      have rx' := rx
      unfold Rep at rx
      obtain ⟨p, vs, rfl, t1, r1⟩ := rx
      exact .inr (.inl ⟨p, vs, rfl, rfl, t1.sq, h.ok q _ rx'⟩)
    · split at h
      · rename_i a j hne hl
        rw [ry.int_of]
        unfold Rep at rx
        obtain ⟨p, vs, rfl, t1, r1⟩ := rx
        refine .inr (.inr (.inl ⟨p, j, vs, rfl, rfl, t1.sq, fun e => ?_, hl.1, hl.2.1, by rw [← r1.length]; exact hl.2.2.1, put_tup q (r1.rep _) h⟩))
        subst e
        exact hl.2.2.2 (List.eq_nil_of_length_eq_zero (by rw [r1.length]; rfl))
      · exact h.elim
  · split at h
    · rename_i j _ _ _ a h1
      split at h
      · rename_i hl
        rw [ry.int_of]
        obtain ⟨p, vs, rfl, t1, r1⟩ := lst_of q rx h1
        refine .inr (.inr (.inr ⟨p, j, vs, rfl, rfl, t1, by omega, by omega, ?_, put_ls q (r1.rep _) h⟩))
        rw [← r1.length]
        have h3 : j.toNat ≤ 1000 := by omega
        exact lim_le (Nat.le_trans (Nat.mul_le_mul hl.2.2 h3) (by decide))
      · exact h.elim
    · exact h.elim
  · exact h.elim
theorem sd_div : Sd2 G E (rI CDiv fun i j => .int (i / j)) oDiv := fun ρ S H x y v u Q q rx ry h => by
  unfold oDiv at h
  split at h
  · split at h
    · rename_i hc
      rw [rx.int_of, ry.int_of]
      exact ⟨_, _, rfl, rfl, hc, h.ok q _ Rep.int⟩
    · exact h.elim
  · exact h.elim
theorem sd_mod : Sd2 G E (rI (fun _ j => 0 < j) fun i j => .int (i % j)) oMod := fun ρ S H x y v u Q q rx ry h => by
  unfold oMod at h
  split at h
  · split at h
    · rename_i hc
      rw [rx.int_of, ry.int_of]
      exact ⟨_, _, rfl, rfl, hc, h.ok q _ Rep.int⟩
    · exact h.elim
  · exact h.elim
theorem sd_pow : Sd2 G E (rI CPow fun i j => .int (i ^ j.toNat)) oPow := fun ρ S H x y v u Q q rx ry h => by
  unfold oPow at h
  split at h
  · split at h
    · rename_i hc
      rw [rx.int_of, ry.int_of]
      exact ⟨_, _, rfl, rfl, ⟨hc.1, Int.le_trans hc.2.1 (by decide), hc.2.2⟩, h.ok q _ Rep.int⟩
    · exact h.elim
  · exact h.elim
theorem sd_neg : Sd1 G E (rU fun i => .int (-i)) oNeg := fun ρ S H x v Q q rx h => by
  unfold oNeg at h
  split at h
  · rw [rx.int_of]
    exact ⟨_, rfl, h.ok q _ Rep.int⟩
  · exact h.elim
theorem sd_lt : Sd2 G E (rI0 fun i j => .bl (decide (i < j))) oLt := fun ρ S H x y v u Q q rx ry h => by
  unfold oLt at h
  split at h
  · rw [rx.int_of, ry.int_of]
    exact ⟨_, _, rfl, rfl, h.ok q _ Rep.bl⟩
  · exact h.elim
theorem sd_le : Sd2 G E (rI0 fun i j => .bl (decide (i ≤ j))) oLe := fun ρ S H x y v u Q q rx ry h => by
  unfold oLe at h
  split at h
  · rw [rx.int_of, ry.int_of]
    exact ⟨_, _, rfl, rfl, h.ok q _ Rep.bl⟩
  · exact h.elim
theorem sd_gt : Sd2 G E (rI0 fun i j => .bl (decide (j < i))) oGt := fun ρ S H x y v u Q q rx ry h => by
  unfold oGt at h
  split at h
  · rw [rx.int_of, ry.int_of]
    exact ⟨_, _, rfl, rfl, h.ok q _ Rep.bl⟩
  · exact h.elim
theorem sd_ge : Sd2 G E (rI0 fun i j => .bl (decide (j ≤ i))) oGe := fun ρ S H x y v u Q q rx ry h => by
  unfold oGe at h
  split at h
  · rw [rx.int_of, ry.int_of]
    exact ⟨_, _, rfl, rfl, h.ok q _ Rep.bl⟩
  · exact h.elim
def rIsNU : R2 := fun x y H Q => y = .non ∧ Q (.bl (decide (x = .non))) H
def rNotNU : R2 := fun x y H Q => y = .non ∧ Q (.bl (!decide (x = .non))) H
theorem op_isNU {X : Cx} : OpR X (compareOp .Is) rIsNU := op_isN
theorem op_notNU {X : Cx} : OpR X (compareOp .IsNot) rNotNU := op_notN
theorem Rep.isNon {K : PySem.W.Frag} {ρ : Rho} {H : Hp} {x : PV} {v : V} (r : Rep K ρ H x v) : decide (v = .non) = x.isNon := by
  cases x with
  | non => rw [r.non_of]; rfl
  | bl k => rw [r.bl_of]; rfl
  | int k => rw [r.int_of]; rfl
  | str k => rw [r.str_of]; rfl
  | tup xs => unfold Rep at r; obtain ⟨a, vs, rfl, _⟩ := r; rfl
  | ls xs => unfold Rep at r; obtain ⟨a, vs, rfl, _⟩ := r; rfl
  | fz xs => unfold Rep at r; obtain ⟨a, vs, rfl, _⟩ := r; rfl
  | dc ks xs => unfold Rep at r; obtain ⟨a, vs, rfl, _⟩ := r; rfl
  | loc l => unfold Rep at r; obtain ⟨a, _, rfl⟩ := r; rfl
theorem sd_isN : Sd2 G E rIsNU oIsN := fun ρ S H x y v u Q q rx ry h => by
  unfold oIsN at h
  split at h
  · refine ⟨ry.non_of, ?_⟩
    rw [rx.isNon]
    exact h.ok q _ Rep.bl
  · exact h.elim
theorem sd_notN : Sd2 G E rNotNU oNotN := fun ρ S H x y v u Q q rx ry h => by
  unfold oNotN at h
  split at h
  · refine ⟨ry.non_of, ?_⟩
    rw [rx.isNon]
    exact h.ok q _ Rep.bl
  · exact h.elim
end
/-! ### == at any depth -/
section
variable {w : World} {K : PySem.W.Frag} {ρ : Rho} {H : Hp}
mutual
theorem dat_dp : ∀ (n : Nat) (x : PV) (v : V), plain n x = true → Rep K ρ H x v → Dp K H v (datOf x)
  | _, .non, v, _, r => by rw [r.non_of]; unfold datOf; exact .non
  | _, .bl b, v, _, r => by rw [r.bl_of]; unfold datOf; exact .bl b
  | _, .int b, v, _, r => by rw [r.int_of]; unfold datOf; exact .int b
  | _, .str b, v, _, r => by rw [r.str_of]; unfold datOf; exact .str b
  | n + 1, .tup xs, v, p, r => by
    unfold Rep at r
    obtain ⟨a, vs, rfl, h1, h2⟩ := r
    unfold datOf
    exact .tup h1.sq (dats_dp n xs vs (by simpa [plain] using p) h2)
  | n + 1, .ls xs, v, p, r => by
    unfold Rep at r
    obtain ⟨a, vs, rfl, ⟨h1, _⟩, h2⟩ := r
    unfold datOf
    exact .lst (.of h1) (dats_dp n xs vs (by simpa [plain] using p) h2)
  | 0, .tup xs, v, p, r => by simp [plain] at p
  | 0, .ls xs, v, p, r => by simp [plain] at p
  | _, .fz xs, v, p, r => by simp [plain] at p
  | _, .dc ks xs, v, p, r => by simp [plain] at p
  | _, .loc l, v, p, r => by simp [plain] at p
theorem dats_dp : ∀ (n : Nat) (xs : List PV) (vs : List V), (∀ x ∈ xs, plain n x = true) → Reps K ρ H xs vs → DpAll K H vs (datsOf xs)
  | _, [], vs, _, r => by unfold Reps at r; rw [r]; unfold datsOf; exact .nil
  | n, x :: xs, vs, p, r => by
    obtain ⟨v, s, rfl, h1, h2⟩ := r.uncons
    unfold datsOf
    exact .cons (dat_dp n x v (p x (by simp)) h1) (dats_dp n xs s (fun y hy => p y (by simp [hy])) h2)
end
end
mutual
theorem dat_eqv : ∀ (n m : Nat) (x y : PV), plain n x = true → plain m y = true → PyData.eqv (datOf x) (datOf y) = eqv x y
  | n, m, .non, y, _, q => by cases y <;> simp_all [datOf, eqv, PyData.eqv, plain]
  | n, m, .bl a, y, _, q => by cases y <;> simp_all [datOf, eqv, PyData.eqv, plain]
  | n, m, .int a, y, _, q => by cases y <;> simp_all [datOf, eqv, PyData.eqv, plain]
  | n, m, .str a, y, _, q => by
    cases y <;> simp_all [datOf, eqv, PyData.eqv, plain]
    exact Bool.beq_eq_decide_eq _ _
  | n + 1, m, .tup a, y, p, q => by
    cases y with
    | tup b =>
      cases m with
      | zero => simp [plain] at q
      | succ m =>
        simp only [datOf, eqv, PyData.eqv]
        exact dats_eqv n m a b (by simpa [plain] using p) (by simpa [plain] using q)
    | _ => simp_all [datOf, eqv, PyData.eqv, plain]
  | n + 1, m, .ls a, y, p, q => by
    cases y with
    | ls b =>
      cases m with
      | zero => simp [plain] at q
      | succ m =>
        simp only [datOf, eqv, PyData.eqv]
        exact dats_eqv n m a b (by simpa [plain] using p) (by simpa [plain] using q)
    | _ => simp_all [datOf, eqv, PyData.eqv, plain]
  | 0, _, .tup a, y, p, _ => by simp [plain] at p
  | 0, _, .ls a, y, p, _ => by simp [plain] at p
  | _, _, .fz a, y, p, _ => by simp [plain] at p
  | _, _, .dc k a, y, p, _ => by simp [plain] at p
  | _, _, .loc a, y, p, _ => by simp [plain] at p
theorem dats_eqv : ∀ (n m : Nat) (xs ys : List PV), (∀ x ∈ xs, plain n x = true) → (∀ y ∈ ys, plain m y = true) → PyData.eqvAll (datsOf xs) (datsOf ys) = eqvs xs ys
  | n, m, [], ys, _, _ => by cases ys <;> simp [datsOf, eqvs, PyData.eqvAll]
  | n, m, x :: xs, ys, p, q => by
    cases ys with
    | nil => simp [datsOf, eqvs, PyData.eqvAll]
    | cons y ys =>
      simp only [datsOf, eqvs, PyData.eqvAll]
      rw [dat_eqv n m x y (p x (by simp)) (q y (by simp)), dats_eqv n m xs ys (fun z hz => p z (by simp [hz])) (fun z hz => q z (by simp [hz]))]
end
mutual
theorem dat_lay : ∀ (n : Nat) (x : PV), plain n x = true → (datOf x).canLay0 = true ∧ (datOf x).depth ≤ n
  | _, .non, _ => by simp [datOf, PyData.canLay0, PyData.depth]
  | _, .bl b, _ => by simp [datOf, PyData.canLay0, PyData.depth]
  | _, .int b, _ => by simp [datOf, PyData.canLay0, PyData.depth]
  | _, .str b, p => by simp [datOf, PyData.canLay0, PyData.depth]; simpa [plain] using p
  | n + 1, .tup xs, p => by
    have h := dats_lay n xs (by simpa [plain] using p)
    simp only [datOf, PyData.canLay0, PyData.depth]
    exact ⟨h.1, by omega⟩
  | n + 1, .ls xs, p => by
    have h := dats_lay n xs (by simpa [plain] using p)
    simp only [datOf, PyData.canLay0, PyData.depth]
    exact ⟨h.1, by omega⟩
  | 0, .tup xs, p => by simp [plain] at p
  | 0, .ls xs, p => by simp [plain] at p
  | _, .fz xs, p => by simp [plain] at p
  | _, .dc ks xs, p => by simp [plain] at p
  | _, .loc l, p => by simp [plain] at p
theorem dats_lay : ∀ (n : Nat) (xs : List PV), (∀ x ∈ xs, plain n x = true) → PyData.canLayAll0 (datsOf xs) = true ∧ PyData.depthAll (datsOf xs) ≤ n
  | n, [], _ => by simp [datsOf, PyData.canLayAll0, PyData.depthAll]
  | n, x :: xs, p => by
    have h1 := dat_lay n x (p x (by simp))
    have h2 := dats_lay n xs (fun y hy => p y (by simp [hy]))
    simp only [datsOf, PyData.canLayAll0, PyData.depthAll]
    exact ⟨by rw [h1.1, h2.1]; rfl, by omega⟩
end
theorem dat_shaped {x : PV} (p : plain 20 x = true) : SeqAt.shaped (datOf x) = true := by
  have h := dat_lay 20 x p
  unfold SeqAt.shaped
  rw [h.1, decide_eq_true (by omega)]
  rfl
section
variable {G : Gx} {E : XK} {ρ : Rho} {H : Hp} {S : Store} {Q : VK}
theorem res_dp (q : Rel G.w G.K ρ S H) : ∀ (n m : Nat) {x : PV} {v : V}, plain m (res n S x) = true → Rep G.K ρ H x v → Dp G.K H v (datOf (res n S x))
  | 0, m, x, v, p, r => by
    unfold res at p ⊢
    exact dat_dp m _ _ p r
  | n + 1, m, x, v, p, r => by
    have all : ∀ (k : Nat) (ys : List PV) (vs : List V), (∀ x ∈ ys.map (res n S), plain k x = true) → Reps G.K ρ H ys vs → DpAll G.K H vs (datsOf (ys.map (res n S))) := by
      intro k ys
      induction ys with
      | nil =>
        intro vs _ r
        unfold Reps at r
        rw [r]
        exact .nil
      | cons y ys ih =>
        intro vs p r
        obtain ⟨v, s, rfl, h1, h2⟩ := r.uncons
        rw [List.map_cons]
        unfold datsOf
        exact .cons (res_dp q n k (p _ (by simp)) h1) (ih s (fun z hz => p z (by rw [List.map_cons]; exact List.mem_cons_of_mem _ hz)) h2)
    cases x with
    | loc l =>
      unfold Rep at r
      obtain ⟨a, h1, rfl⟩ := r
      obtain ⟨c, hc, ca⟩ := q.cell h1
      simp only [res, hc] at p ⊢
      cases c with
      | lst ys =>
        obtain ⟨vs, h1, h2⟩ := ca
        cases m with
        | zero => simp [plain] at p
        | succ m =>
          simp only [datOf]
          exact .lst (.of h1) (all m ys vs (by simpa only [plain, List.all_eq_true] using p) h2)
      | _ => cases m <;> simp [plain] at p
    | tup ys =>
      unfold Rep at r
      obtain ⟨a, vs, rfl, h1, h2⟩ := r
      simp only [res] at p ⊢
      cases m with
      | zero => simp [plain] at p
      | succ m =>
        simp only [datOf]
        exact .tup h1.sq (all m ys vs (by simpa only [plain, List.all_eq_true] using p) h2)
    | ls ys =>
      unfold Rep at r
      obtain ⟨a, vs, rfl, ⟨h1, _⟩, h2⟩ := r
      simp only [res] at p ⊢
      cases m with
      | zero => simp [plain] at p
      | succ m =>
        simp only [datOf]
        exact .lst (.of h1) (all m ys vs (by simpa only [plain, List.all_eq_true] using p) h2)
    | fz ys =>
      unfold Rep at r
      obtain ⟨a, vs, rfl, h1, h2⟩ := r
      simp only [res] at p ⊢
      cases m with
      | zero => simp [plain] at p
      | succ m =>
        simp only [datOf]
        exact .lst h1.sq (all m ys vs (by simpa only [plain, List.all_eq_true] using p) h2)
    | non => simp only [res] at p ⊢; exact dat_dp m _ _ p r
    | bl _ => simp only [res] at p ⊢; exact dat_dp m _ _ p r
    | int _ => simp only [res] at p ⊢; exact dat_dp m _ _ p r
    | str _ => simp only [res] at p ⊢; exact dat_dp m _ _ p r
    | dc _ _ => simp only [res] at p ⊢; exact dat_dp m _ _ p r
theorem sd_eq : Sd2 G E (rEqD G.K) oEq := fun ρ S H x y v u Q q rx ry h => by
  unfold oEq at h
  split at h
  · rename_i p
    refine ⟨datOf (res 20 S x), datOf (res 20 S y), res_dp q 20 20 p.1 rx, res_dp q 20 20 p.2 ry, dat_shaped p.1, dat_shaped p.2, ?_⟩
    rw [dat_eqv 20 20 _ _ p.1 p.2]
    exact h.ok q _ Rep.bl
  · exact h.elim
theorem sd_ne : Sd2 G E (rNeD G.K) oNe := fun ρ S H x y v u Q q rx ry h => by
  unfold oNe at h
  split at h
  · rename_i p
    refine ⟨datOf (res 20 S x), datOf (res 20 S y), res_dp q 20 20 p.1 rx, res_dp q 20 20 p.2 ry, dat_shaped p.1, dat_shaped p.2, ?_⟩
    rw [dat_eqv 20 20 _ _ p.1 p.2]
    exact h.ok q _ Rep.bl
  · exact h.elim
/-! ### in -/
theorem Rep.flatV {K : PySem.W.Frag} {x : PV} {v : V} (r : Rep K ρ H x v) (f : flat x = true) : L2.flatV v = true := by
  cases x with
  | non => rw [r.non_of]; rfl
  | bl k => rw [r.bl_of]; rfl
  | int k => rw [r.int_of]; rfl
  | str k => rw [r.str_of]; rfl
  | _ => cases f
theorem Rep.eqV {K : PySem.W.Frag} {x y : PV} {v u : V} (r : Rep K ρ H x v) (r' : Rep K ρ H y u) (f : flat x = true) (f' : flat y = true) : L2.eqV v u = eqv x y := by
  cases x with
  | non =>
    rw [r.non_of]
    cases y with
    | non => rw [r'.non_of]; rfl
    | bl k => rw [r'.bl_of]; rfl
    | int k => rw [r'.int_of]; rfl
    | str k => rw [r'.str_of]; rfl
    | _ => cases f'
  | bl k =>
    rw [r.bl_of]
    cases y with
    | non => rw [r'.non_of]; rfl
    | bl k => rw [r'.bl_of]; rfl
    | int k => rw [r'.int_of]; rfl
    | str k => rw [r'.str_of]; rfl
    | _ => cases f'
  | int k =>
    rw [r.int_of]
    cases y with
    | non => rw [r'.non_of]; rfl
    | bl k => rw [r'.bl_of]; rfl
    | int k => rw [r'.int_of]; rfl
    | str k => rw [r'.str_of]; rfl
    | _ => cases f'
  | str k =>
    rw [r.str_of]
    cases y with
    | non => rw [r'.non_of]; rfl
    | bl k => rw [r'.bl_of]; rfl
    | int k => rw [r'.int_of]; rfl
    | str j => rw [r'.str_of]; exact Bool.beq_eq_decide_eq _ _
    | _ => cases f'
  | _ => cases f
theorem Reps.flats {K : PySem.W.Frag} : ∀ {xs : List PV} {vs : List V}, Reps K ρ H xs vs → xs.all flat = true → vs.all L2.flatV = true
  | [], _, r, _ => by unfold Reps at r; rw [r]; rfl
  | x :: xs, _, r, f => by
    obtain ⟨v, s, rfl, h1, h2⟩ := r.uncons
    simp only [List.all_cons, Bool.and_eq_true] at f ⊢
    exact ⟨h1.flatV f.1, Reps.flats h2 f.2⟩
theorem Reps.inV {K : PySem.W.Frag} {x : PV} {v : V} (r : Rep K ρ H x v) (f : flat x = true) : ∀ {xs : List PV} {vs : List V}, Reps K ρ H xs vs → xs.all flat = true → L2.inV v vs = inSeq x xs
  | [], _, r', _ => by unfold Reps at r'; rw [r']; rfl
  | y :: xs, _, r', f' => by
    obtain ⟨u, s, rfl, h1, h2⟩ := r'.uncons
    simp only [List.all_cons, Bool.and_eq_true] at f'
    unfold L2.inV inSeq
    rw [List.any_cons, List.any_cons, Rep.eqV h1 r f'.1 f]
    have := Reps.inV r f h2 f'.2
    unfold L2.inV inSeq at this
    rw [this]
theorem sd_in : Sd2 G E (rIn G.K false) oIn := fun ρ S H x y v u Q q rx ry h => by
  unfold oIn at h
  split at h
  · rename_i xs hx
    split at h
    · rename_i f
      obtain ⟨a, vs, rfl, h1, h2⟩ := seq_of q ry hx
      refine ⟨a, vs, rfl, h1, rx.flatV f.1, h2.flats f.2, ?_⟩
      rw [if_neg Bool.false_ne_true, Reps.inV rx f.1 h2 f.2]
      exact h.ok q _ Rep.bl
    · exact h.elim
  · exact h.elim
theorem sd_notIn : Sd2 G E (rIn G.K true) oNotIn := fun ρ S H x y v u Q q rx ry h => by
  unfold oNotIn at h
  split at h
  · rename_i xs hx
    split at h
    · rename_i f
      obtain ⟨a, vs, rfl, h1, h2⟩ := seq_of q ry hx
      refine ⟨a, vs, rfl, h1, rx.flatV f.1, h2.flats f.2, ?_⟩
      rw [if_pos rfl, Reps.inV rx f.1 h2 f.2]
      exact h.ok q _ Rep.bl
    · exact h.elim
  · exact h.elim
end
end

/-! MiniW -/
/-! MiniW: walks over a list or a tuple, whichever it is: seq, enumerate, zip. -/
section
open PySem PySem.Spec L2
open PyProof.Rows
/-- a list (false) or a tuple (true) -/
def SqU (K : PySem.W.Frag) (b : Bool) (H : Hp) (a : Addr) (xs : List V) : Prop := match b with
  | true => SqT K H a xs
  | false => SqL K H a xs
def LowU (b : Bool) (h : Heap) (a : Addr) (its : Array Value) : Prop := match b with
  | true => h.IsTuple a its
  | false => h.IsList a its
def IterU (b : Bool) (h : Heap) (it a : Addr) (i : Nat) : Prop := match b with
  | true => h.IsTupleIter it a i
  | false => h.IsListIter it a i
def objU (b : Bool) (a : Addr) : Obj := match b with
  | true => { cls := .type "tuple_iterator", data := .fields #[.ref a, .int 0 0] }
  | false => { cls := .type "list_iterator", data := .fields #[.ref a, .int 0 0] }
section
variable {w : World} {K : PySem.W.Frag} {X : Cx} {pins : List (Addr × Obj)} {σ : L2.St} {H : Hp} {s : Shared} {a it : Addr} {xs ys : List V} {b : Bool} {i : Nat} {h h' : Heap}
theorem readU (I : Inv X pins σ H s) (q : SqU X.K b H a xs) : ∃ its : List Value, Vals xs its ∧ LowU b s.heap a its.toArray := by
  cases b with
  | true => obtain ⟨its, r, p, _⟩ := I.tuple q; exact ⟨its, r, p⟩
  | false => obtain ⟨its, r, p, _⟩ := I.list q; exact ⟨its, r, p.isList⟩
theorem injU (I : Inv X pins σ H s) (q : SqU X.K b H a xs) (q' : SqU X.K b H a ys) : xs = ys := by
  cases b with
  | true => exact I.tuple_inj q q'
  | false => exact I.list_inj q q'
theorem drawsU {prog : Program} {w : World} {A : Around} (hh : A.handled = none) (hne : a ≠ it) (items : Array Value) :
    Draws prog w A it [it, a] items.size (fun i v => items[i]? = some v) (fun i h => IterU b h it a i ∧ LowU b h a items) := by
  cases b with
  | true => exact Draws.tuple hh it a hne items
  | false => exact Draws.list hh it a hne items
theorem beginsU (items : Array Value) : Begins (.ref a) (objU b a) (fun h => LowU b h a items) := by
  cases b with
  | true => exact begins_tuple a items
  | false => exact begins_list a items
theorem iterU0 (e : h.get? it = some (objU b a)) : IterU b h it a 0 := by
  cases b with
  | true => exact ⟨_, e, rfl, rfl⟩
  | false => exact ⟨_, e, rfl, rfl⟩
theorem iterU_at (st : IterU b h it a i) (k : ∀ o, h.get? it = some o → h'.get? it = some o) : IterU b h' it a i := by
  cases b with
  | true => exact Heap.IsTupleIter.at st k
  | false => exact Heap.IsListIter.at st k
/-- an object that is no cell -/
def NoCell (h : Heap) (b : Addr) : Prop := ∃ o, h.get? b = some o ∧ ∀ v, o.data ≠ .cell v
theorem iterU_obj (st : IterU b h it a i) : NoCell h it := by
  cases b with
  | true =>
    obtain ⟨o, e, c, d⟩ := (show h.IsTupleIter it a i from st)
    refine ⟨o, e, fun v z => ?_⟩
    rw [d] at z
    cases z
  | false =>
    obtain ⟨o, e, c, d⟩ := (show h.IsListIter it a i from st)
    refine ⟨o, e, fun v z => ?_⟩
    rw [d] at z
    cases z
theorem lowU_lt {its : Array Value} (q : LowU b h a its) : a < h.objs.size := by
  cases b with
  | true => obtain ⟨o, e, _⟩ := (show h.IsTuple a its from q); exact Heap.lt_size e
  | false => obtain ⟨o, e, _⟩ := (show h.IsList a its from q); exact Heap.lt_size e
theorem apartU {its : Array Value} (h1 : IterU b h it a i) (p : LowU b h a its) : a ≠ it := by
  rintro rfl
  cases b with
  | true =>
    obtain ⟨o2, e2, c2, _⟩ := (show h.IsTuple a its from p)
    obtain ⟨o3, e3, c3, _⟩ := (show h.IsTupleIter a a i from h1)
    cases e2.symm.trans e3
    exact absurd (c2.symm.trans c3) (by decide)
  | false =>
    obtain ⟨o2, e2, c2, _⟩ := (show h.IsList a its from p)
    obtain ⟨o3, e3, c3, _⟩ := (show h.IsListIter a a i from h1)
    cases e2.symm.trans e3
    exact absurd (c2.symm.trans c3) (by decide)
theorem SqU.or (h : SqL K H a xs ∨ SqT K H a xs) : ∃ b, SqU K b H a xs := by
  rcases h with h | h
  · exact ⟨false, h⟩
  · exact ⟨true, h⟩
end
/-! ### for x in a list or a tuple -/
def ItU (K : PySem.W.Frag) (b : Bool) (a : Addr) : L2.It := match b with
  | true => Itt K a
  | false => Itl K a
theorem _root_.L2.PI.or {X : Cx} {tg e : Expr} {t u : TI} (h : PI X tg e t) (h' : PI X tg e u) : PI X tg e (fun σ H R => t σ H R ∨ u σ H R) := ⟨fun pins s σ H R I q => q.elim (h.run pins s σ H R I) (h'.run pins s σ H R I)⟩
/-! ### iterators that hand out new pairs, told anew at each turn -/
/-- what next does at a turn -/
def PairTurn (X : Cx) (tg : Expr) (e : Addr) (own : List Addr) (stand : Nat → Heap → Prop) (J : L2.It) (H : Hp) (i : Nat) (h : Heap) : Prop :=
  ∃ (fp wr : List Addr) (n : Nat) (Y : Nat → Heap → Value → Heap → Prop) (St : Nat → Heap → Prop), GoesN X.prog X.w X.A tg e fp wr n Y St ∧ i < n ∧ St i h ∧ (∀ b ∈ wr, b ∈ own) ∧
    ∀ v h', Y i h v h' → St (i + 1) h' → stand (i + 1) h' ∧ ∃ (T : Addr) (x y : V) (p q : Value), v = .ref T ∧ h.objs.size ≤ T ∧ RelV x p ∧ RelV y q ∧ h'.IsTuple T #[p, q] ∧ (H T = none → J.yld i H (.ref T) (upd H T (.tup [x, y])))
def PairStop (X : Cx) (tg : Expr) (e : Addr) (own : List Addr) (i : Nat) (h : Heap) : Prop :=
  ∃ (fp wr : List Addr) (n : Nat) (Y : Nat → Heap → Value → Heap → Prop) (St : Nat → Heap → Prop), GoesN X.prog X.w X.A tg e fp wr n Y St ∧ i = n ∧ St i h ∧ ∀ b ∈ wr, b ∈ own
theorem turn_pairs {P : Program} {w : World} {K : PySem.W.Frag} {tg : Expr} {J : L2.It} {own : List Addr} {e : Addr} {stand : Nat → Heap → Prop} (mine : e ∈ own)
    (objs : ∀ i h, stand i h → ∀ b ∈ own, NoCell h b)
    (stays : ∀ i h h', stand i h → (∀ b ∈ own, ∀ o, h.get? b = some o → h'.get? b = some o) → stand i h')
    (again : ∀ (A : Around) (i : Nat) (s : Shared) (Q E : Value → Shared → Prop), stand i s.heap → Q (.ref e) s → wpAny (model P w) A (pyIter (.ref e)) Q E s)
    (goes : ∀ (X : Cx) pins s σ H i, X.prog = P → X.w = w → X.K = K → X.calm = true → Inv X pins σ H s → stand i s.heap → J.go i H → PairTurn X tg e own stand J H i s.heap)
    (stops : ∀ (X : Cx) pins s σ H i, X.prog = P → X.w = w → X.K = K → X.calm = true → Inv X pins σ H s → stand i s.heap → J.stop i H → PairStop X tg e own i s.heap) :
    Turn P w K tg J own e stand := by
  refine ⟨mine, objs, stays, ?_, ?_, again⟩
  · intro X eP ew eK calm i pins s σ H E inv free here go
    obtain ⟨fp, wr, n, Y, St, W, lt, at0, sub, told⟩ := goes X pins s σ H i eP ew eK calm inv here go
    subst eP ew
    refine W.goes i s _ E lt at0 fun v h' tk made at1 kept _ => ?_
    obtain ⟨here', T, x, y, p, q, rfl, isnew, rp, rq, tup, gives⟩ := told v h' made at1
    have none0 : H T = none := inv.hok.fresh isnew
    have kept' : ∀ b o, b ∉ own → s.heap.get? b = some o → h'.get? b = some o := fun b o out found => kept b o (fun z => out (sub b z)) found
    have okT : ObjOk X.prog X.w (upd H T (.tup [x, y])) h' T (.tup [x, y]) := ⟨(by decide : 2 ≤ sizeLine), [p, q], .cons rp (.cons rq .nil), tup⟩
    refine ⟨.ref T, upd H T (.tup [x, y]), inv.turnedNew kept' free isnew okT, rfl, gives none0, here', fun b hb => ?_⟩
    obtain ⟨o, found, _⟩ := objs i _ here b hb
    have apart : b ≠ T := Nat.ne_of_lt (Nat.lt_of_lt_of_le (Heap.lt_size found) isnew)
    rw [upd_ne apart]
    exact (free b hb).1
  · intro X eP ew eK calm i pins s σ H E inv free here stop
    obtain ⟨fp, wr, n, Y, St, W, at_end, at0, sub⟩ := stops X pins s σ H i eP ew eK calm inv here stop
    subst eP ew at_end
    exact W.stops s _ E at0 fun h' tk kept _ => inv.turnedL (fun b o out found => kept b o (fun z => out (sub b z)) found) free
/-! ### enumerate -/
def IteU (K : PySem.W.Frag) (b : Bool) (a : Addr) : L2.It :=
  ⟨fun i H => ∃ (xs : List V) (x : V), SqU K b H a xs ∧ xs[i]? = some x, fun i H v H' => ∃ T x, v = .ref T ∧ H T = none ∧ H' = upd H T (.tup [.int (i : Nat), x]) ∧ ∀ xs, SqU K b H a xs → xs[i]? = some x, fun i H => ∃ xs : List V, SqU K b H a xs ∧ xs.length = i⟩
/-- where an enumerate stands -/
def EnumAt (b : Bool) (e it a : Addr) (i : Nat) (h : Heap) : Prop := (∃ old, IsEnum h e it (0 + (i : Int)) old) ∧ IterU b h it a i
theorem got {xs : List V} {its : List Value} (rv : Vals xs its) {i : Nat} {u : Value} (hu : its.toArray[i]? = some u) {x : V} (hx : xs[i]? = some x) : RelV x u := by
  obtain ⟨u', e', r⟩ := rv.get hx
  have e2 : its[i]? = some u := by rw [← List.getElem?_toArray]; exact hu
  cases e'.symm.trans e2
  exact r
theorem turn_enumU {P : Program} {w : World} {K : PySem.W.Frag} {elts : List Expr} {kk : Nat} {tpos : Pos} {b : Bool} (a e it : Addr) (hea : e ≠ a) (hei : e ≠ it) :
    Turn P w K (.Tuple elts kk tpos) (IteU K b a) [e, it] e (EnumAt b e it a) := by
  have apart : e ∉ [it, a] := by
    intro z
    rcases List.mem_cons.mp z with z | z
    · exact hei z
    · exact hea (List.mem_singleton.mp z)
  refine turn_pairs (by simp) ?_ ?_ ?_ ?_ ?_
  · rintro i h ⟨⟨old, he⟩, hi⟩ d hd
    rcases List.mem_cons.mp hd with rfl | hd
    · exact ⟨_, he, fun v => nofun⟩
    · rw [List.mem_singleton.mp hd]
      exact iterU_obj hi
  · rintro i h h' ⟨⟨old, he⟩, hi⟩ k
    exact ⟨⟨old, k e (by simp) _ he⟩, iterU_at hi (k it (by simp))⟩
  · rintro A i s Q E ⟨⟨old, he⟩, _⟩ q
    exact wpAny_pyIter_enum he q
  · rintro X pins s σ H i rfl rfl rfl calm inv ⟨⟨old, he⟩, hi⟩ ⟨xs, x, hq, hx⟩
    obtain ⟨its, rv, low⟩ := readU inv hq
    have D := drawsU (prog := X.prog) (w := X.w) (A := X.A.in1) (b := b) (inv.ok.hd calm) (apartU hi low) its.toArray
    have lt : i < its.toArray.size := by
      rw [List.size_toArray, ← rv.length]
      exact (List.getElem?_eq_some_iff.mp hx).1
    refine ⟨_, _, _, _, _, GoesN.enumFrom 0 D e hei apart (by simp), lt, ⟨⟨old, he⟩, hi, low⟩, by simp, ?_⟩
    rintro v h' ⟨T, t, u, rfl, isnew, hu, tup⟩ ⟨he', hi', _⟩
    refine ⟨⟨he', hi'⟩, T, .int (i : Nat), x, _, u, rfl, isnew, ⟨t, ?_⟩, got rv hu hx, tup, fun none0 => ⟨T, x, rfl, none0, rfl, fun ys hy => ?_⟩⟩
    · rw [Int.zero_add]
    · rw [injU inv hy hq]
      exact hx
  · rintro X pins s σ H i rfl rfl rfl calm inv ⟨⟨old, he⟩, hi⟩ ⟨xs, hq, hx⟩
    obtain ⟨its, rv, low⟩ := readU inv hq
    have D := drawsU (prog := X.prog) (w := X.w) (A := X.A.in1) (b := b) (inv.ok.hd calm) (apartU hi low) its.toArray
    refine ⟨_, _, _, _, _, GoesN.enumFrom 0 D e hei apart (by simp), ?_, ⟨⟨old, he⟩, hi, low⟩, by simp⟩
    rw [List.size_toArray, ← rv.length]
    exact hx.symm
section
variable {prog : Program} {w : World} {A : Around} {E : Value → Shared → Prop} {s : Shared}
/-- the object enumerate(v) makes -/
def enumO (it : Addr) : Obj := { cls := .type "enumerate", data := .fields #[.none, .bool false, .ref it, rawInt 0, .none, .none] }
set_option maxHeartbeats 1500000 in
theorem makes_enum {v : Value} {o : Obj} {H : Heap → Prop} (B : Begins v o H) :
    Meets (Builtin.«enumerate.__new__» ⟨[.type "enumerate", v], []⟩) (fun _ R s => H s.heap ∧ R (.ok (.ret (.ref (s.heap.push o).objs.size))) { s with heap := (s.heap.push o).push (enumO s.heap.objs.size) }) := by
  refine .of_wp fun prog w A R s pre => ?_
  obtain ⟨hp, g, d, tk, os⟩ := s
  have given : H hp := pre.1
  have goal := pre.2
  have hsub := sub_enumerate
  have first : ∀ {A' : Around} {E Q : Value → Shared → Prop}, Q (.ref hp.objs.size) ⟨hp.push o, g, d, tk, os⟩ → wpAny (model prog w) A' (pyIter v) Q E ⟨hp, g, d, tk, os⟩ := fun q => B.iter prog w _ _ _ _ given q
  wp_walk using first
  apply wpAny_stack_any
  intro st
  apply wpAny_pure
  split
  · rename_i c _ _ _ _ _
    cases (c == Value.type "enumerate") <;> wp_walk using first <;> exact ⟨_, rfl, goal⟩
  · wp_walk using first
    exact ⟨_, rfl, goal⟩
/-- enumerate(v): what it is behind its making -/
theorem enum_made {v : Value} {o : Obj} {H : Heap → Prop} {Q : Value → Shared → Prop} (B : Begins v o H) (h1 : H s.heap)
    (told : ∀ h', IsEnum h' (s.heap.objs.size + 1) s.heap.objs.size 0 .none → h'.get? s.heap.objs.size = some o → (∀ b x, s.heap.get? b = some x → h'.get? b = some x) → Q (.ref (s.heap.objs.size + 1)) { s with heap := h' }) :
    wpAny (model prog w) A (call (.type "enumerate") [v]) Q E s := by
  have one : (s.heap.push o).objs.size = s.heap.objs.size + 1 := Heap.size_push ..
  have made : IsEnum ((s.heap.push o).push (enumO s.heap.objs.size)) (s.heap.objs.size + 1) s.heap.objs.size 0 .none := by
    have q := Heap.get?_push_size (s.heap.push o) (o := enumO s.heap.objs.size) rfl
    rw [one] at q
    exact q
  have old : ∀ b x, s.heap.get? b = some x → ((s.heap.push o).push (enumO s.heap.objs.size)).get? b = some x := fun b x q => Heap.get?_push_of_some _ (Heap.get?_push_of_some _ q)
  have inner : ((s.heap.push o).push (enumO s.heap.objs.size)).get? s.heap.objs.size = some o := Heap.get?_push_of_some _ (Heap.get?_push_size _ B.free)
  have done := told _ made inner old
  refine callType_new F.called_enumerate (by decide) (F.typeCall_enumerate_1 v) (F.newCall_enumerate_1 v) (F.args_object_init_2 · v) F.entry_enumerate_new (makes_enum B) ⟨h1, ?_⟩
  rw [one]
  exact ⟨⟨_, made, rfl⟩, done⟩
end
def iEnumU (K : PySem.W.Frag) (ta : TA) : TI := fun σ H R => ta σ H fun vs H1 => ∃ a b xs, vs = [.ref a] ∧ SqU K b H1 a xs ∧ R (IteU K b a) H1
theorem pi_enumU {X : Cx} {e : Expr} {ta : TA} {p pos tpos : Pos} {elts : List Expr} {kk : Nat} (hg : Gl X "enumerate") (hm : X.mg "enumerate" = none) (ha : PA X [e] ta) (hs : starEach [e] X.env = [(false, eval e X.env)] := by rfl) :
    PI X (.Tuple elts kk tpos) (.Call (.Name "enumerate" p) [e] [] pos) (iEnumU X.K ta) := by
  constructor
  intro pins s σ H R inv q
  have args := ha.run pos pins s σ H _ inv q
  refine Call_ (ld_blt inv hg hm boot_enumerate ?_)
  refine callWith_type1 (thn args ?_) hs rfl
  rintro us s1 ⟨vs, H1, inv1, rv, a, b, xs, rfl, hq, told⟩
  match us, rv with
  | [u], .cons r .nil =>
    cases r
    obtain ⟨its, _, low⟩ := readU inv1 hq
    have lt := lowU_lt low
    refine enum_made (beginsU its.toArray) low fun h' made inner old => wpAny_pyIter_enum made ?_
    have free : ∀ c ∈ [s1.heap.objs.size + 1, s1.heap.objs.size], FpOk X pins H1 c := fun c hc => by
      have le : s1.heap.objs.size ≤ c := by
        rcases List.mem_cons.mp hc with rfl | hc
        · exact Nat.le_add_right _ _
        · rw [List.mem_singleton.mp hc]
          exact Nat.le_refl _
      exact inv1.fpOk le (inv1.hok.fresh le)
    have ne1 : s1.heap.objs.size + 1 ≠ a := Nat.ne_of_gt (Nat.lt_succ_of_lt lt)
    have ne2 : s1.heap.objs.size + 1 ≠ s1.heap.objs.size := Nat.succ_ne_self _
    exact ⟨_, _, _, _, H1, rfl, inv1.kept (t' := s1.toks) old, turn_enumU a _ _ ne1 ne2, ⟨⟨.none, made⟩, iterU0 inner⟩, free, told⟩
/-! ### zip of two -/
def ItzU (K : PySem.W.Frag) (b c : Bool) (a1 a2 : Addr) : L2.It :=
  ⟨fun i H => ∃ (xs ys : List V) (x y : V), SqU K b H a1 xs ∧ SqU K c H a2 ys ∧ xs[i]? = some x ∧ ys[i]? = some y,
    fun i H v H' => ∃ T x y, v = .ref T ∧ H T = none ∧ H' = upd H T (.tup [x, y]) ∧ (∀ xs, SqU K b H a1 xs → xs[i]? = some x) ∧ ∀ ys, SqU K c H a2 ys → ys[i]? = some y,
    fun i H => ∃ xs ys : List V, SqU K b H a1 xs ∧ SqU K c H a2 ys ∧ i ≤ xs.length ∧ i ≤ ys.length ∧ (i = xs.length ∨ i = ys.length)⟩
/-- where a zip stands -/
def ZipAt (b c : Bool) (z TI TO i1 a1 i2 a2 : Addr) (i : Nat) (h : Heap) : Prop := IsZip h z TI TO .none ∧ IsTupOf2 h TI (.ref i1) (.ref i2) ∧ (∃ x y, IsTupOf2 h TO x y) ∧ IterU b h i1 a1 i ∧ IterU c h i2 a2 i
theorem turn_zipU {P : Program} {w : World} {K : PySem.W.Frag} {elts : List Expr} {kk : Nat} {tpos : Pos} {b c : Bool} {a1 a2 z TI TO i1 i2 : Addr} (S : ZipSep2 z TI TO i1 i2 [i1, a1] [i2, a2]) :
    Turn P w K (.Tuple elts kk tpos) (ItzU K b c a1 a2) [z, TI, TO, i1, i2] z (ZipAt b c z TI TO i1 a1 i2 a2) := by
  refine turn_pairs (by simp) ?_ ?_ ?_ ?_ ?_
  · rintro i h ⟨hz, hTI, ⟨x, y, hTO⟩, h1, h2⟩ d hd
    simp only [List.mem_cons, List.not_mem_nil, or_false] at hd
    rcases hd with rfl | rfl | rfl | rfl | rfl
    · exact ⟨_, hz, fun v => nofun⟩
    · exact ⟨_, hTI, fun v => nofun⟩
    · exact ⟨_, hTO, fun v => nofun⟩
    · exact iterU_obj h1
    · exact iterU_obj h2
  · rintro i h h' ⟨hz, hTI, ⟨x, y, hTO⟩, h1, h2⟩ k
    exact ⟨k z (by simp) _ hz, k TI (by simp) _ hTI, ⟨x, y, k TO (by simp) _ hTO⟩, iterU_at h1 (k i1 (by simp)), iterU_at h2 (k i2 (by simp))⟩
  · rintro A i s Q E ⟨hz, _⟩ q
    exact wpAny_pyIter_zip hz q
  · rintro X pins s σ H i rfl rfl rfl calm inv ⟨hz, hTI, hTO, h1, h2⟩ ⟨xs, ys, x, y, hqx, hqy, hx, hy⟩
    obtain ⟨its, rv, low⟩ := readU inv hqx
    obtain ⟨its2, rv2, low2⟩ := readU inv hqy
    have D1 := drawsU (prog := X.prog) (w := X.w) (A := X.A.in1) (b := b) (inv.ok.hd calm) (apartU h1 low) its.toArray
    have D2 := drawsU (prog := X.prog) (w := X.w) (A := X.A.in1) (b := c) (inv.ok.hd calm) (apartU h2 low2) its2.toArray
    have lt : i < min its.toArray.size its2.toArray.size := by
      rw [List.size_toArray, List.size_toArray, ← rv.length, ← rv2.length]
      have q1 := (List.getElem?_eq_some_iff.mp hx).1
      have q2 := (List.getElem?_eq_some_iff.mp hy).1
      omega
    refine ⟨_, _, _, _, _, GoesN.zip2 S D1 D2, lt, ⟨hz, hTI, hTO, ⟨h1, low⟩, h2, low2⟩, by simp, ?_⟩
    rintro v h' ⟨T, u, u2, rfl, isnew, hu, hu2, tup⟩ ⟨hz', hTI', hTO', ⟨h1', _⟩, h2', _⟩
    refine ⟨⟨hz', hTI', hTO', h1', h2'⟩, T, x, y, u, u2, rfl, isnew, got rv hu hx, got rv2 hu2 hy, tup, fun none0 => ⟨T, x, y, rfl, none0, rfl, fun l hl => ?_, fun l hl => ?_⟩⟩
    · rw [injU inv hl hqx]
      exact hx
    · rw [injU inv hl hqy]
      exact hy
  · rintro X pins s σ H i rfl rfl rfl calm inv ⟨hz, hTI, hTO, h1, h2⟩ ⟨xs, ys, hqx, hqy, l1, l2, fin⟩
    obtain ⟨its, rv, low⟩ := readU inv hqx
    obtain ⟨its2, rv2, low2⟩ := readU inv hqy
    have D1 := drawsU (prog := X.prog) (w := X.w) (A := X.A.in1) (b := b) (inv.ok.hd calm) (apartU h1 low) its.toArray
    have D2 := drawsU (prog := X.prog) (w := X.w) (A := X.A.in1) (b := c) (inv.ok.hd calm) (apartU h2 low2) its2.toArray
    refine ⟨_, _, _, _, _, GoesN.zip2 S D1 D2, ?_, ⟨hz, hTI, hTO, ⟨h1, low⟩, h2, low2⟩, by simp⟩
    rw [List.size_toArray, List.size_toArray, ← rv.length, ← rv2.length]
    omega
def iZipU (K : PySem.W.Frag) (ta : TA) : TI := fun σ H R => ta σ H fun vs H1 => ∃ a1 a2 b c xs ys, vs = [.ref a1, .ref a2] ∧ SqU K b H1 a1 xs ∧ SqU K c H1 a2 ys ∧ R (ItzU K b c a1 a2) H1
theorem pi_zipU {X : Cx} {e e2 : Expr} {ta : TA} {p pos tpos : Pos} {elts : List Expr} {kk : Nat} (hg : Gl X "zip") (hm : X.mg "zip" = none) (ha : PA X [e, e2] ta)
    (hs : starEach [e, e2] X.env = (false, eval e X.env) :: starEach [e2] X.env := by rfl)
    (hpl : (backTo pos (starEach [e2] X.env)).any (·.1) = false := by rfl) :
    PI X (.Tuple elts kk tpos) (.Call (.Name "zip" p) [e, e2] [] pos) (iZipU X.K ta) := by
  constructor
  intro pins s σ H R inv q
  have args := ha.run pos pins s σ H _ inv q
  refine Call_ (ld_blt inv hg hm boot_zip ?_)
  refine callWith_type1 (thn args ?_) hs hpl
  rintro us s1 ⟨vs, H1, inv1, rv, a1, a2, b, c, xs, ys, rfl, hqx, hqy, told⟩
  match us, rv with
  | [u, u2], .cons r (.cons r2 .nil) =>
    cases r
    cases r2
    obtain ⟨its, _, low⟩ := readU inv1 hqx
    obtain ⟨its2, _, low2⟩ := readU inv1 hqy
    have l1 := lowU_lt low
    have l2 := lowU_lt low2
    refine zip_begins2 (beginsU its.toArray) (beginsU its2.toArray) low low2 fun h' hz hTI hTO h1 h2 _ old => wpAny_pyIter_zip hz ?_
    have free : ∀ d ∈ [s1.heap.objs.size + 4, s1.heap.objs.size + 2, s1.heap.objs.size + 3, s1.heap.objs.size, s1.heap.objs.size + 1], FpOk X pins H1 d := fun d hd => by
      have le : s1.heap.objs.size ≤ d := by
        simp only [List.mem_cons, List.not_mem_nil, or_false] at hd
        omega
      exact inv1.fpOk le (inv1.hok.fresh le)
    have sep := zip_sep2 (N := s1.heap.objs.size) (fp1 := [a1]) (fp2 := [a2]) (fun d hd => by rw [List.mem_singleton.mp hd]; exact l1) (fun d hd => by rw [List.mem_singleton.mp hd]; exact l2)
    exact ⟨_, _, _, _, H1, rfl, inv1.kept (t' := s1.toks) old, turn_zipU sep, ⟨hz, hTI, ⟨_, _, hTO⟩, iterU0 h1, iterU0 h2⟩, free, told⟩
end

/-! Mini4 -/
/-! Mini4: targets, statements, loops, comprehensions. -/
section
open PySem L2
section
variable {G : Gx} {E : XK} {X : Cx}
/-! ### targets -/
/-- the slots at is may have changed -/
def Wp (is : List Nat) (σ σ' : L2.St) : Prop := ∀ vs : List Nat, (∀ i ∈ is, i ∈ vs) → L2.wipe σ' vs = L2.wipe σ vs
def tIG (G : Gx) (E : XK) (is : List Nat) (g : XG) : TG := fun v σ H Q => ∃ ρ S env x, Rel G.w G.K ρ S H ∧ EnvR G.K ρ H env σ ∧ Rep G.K ρ H x v ∧
  Aft G E ρ H (g x env S) (fun ρ' S' H' env' => ∀ σ', EnvR G.K ρ' H' env' σ' → Wp is σ σ' → Q σ' H')
theorem _root_.L2.PG.imp {X : Cx} {e : Expr} {t u : TG} (h : PG X e t) (m : ∀ v σ H Q, u v σ H Q → t v σ H Q) : PG X e u := ⟨fun pins s σ H v w Q I r q => h.run pins s σ H v w Q I r (m v σ H Q q)⟩
theorem wipe_get (σ : L2.St) : ∀ (vs : List Nat) (j : Nat), (L2.wipe σ vs)[j]? = if j ∈ vs then (if j < σ.length then some none else none) else σ[j]?
  | [], j => by simp [L2.wipe]
  | v :: vs, j => by
    show ((L2.wipe σ vs).set v none)[j]? = _
    by_cases e : v = j
    · subst e
      rw [if_pos (by simp)]
      by_cases hv : v < σ.length
      · rw [if_pos hv, List.getElem?_set_self (by rw [wipe_length]; exact hv)]
      · rw [if_neg hv, List.getElem?_eq_none (by rw [List.length_set, wipe_length]; omega)]
    · rw [List.getElem?_set_ne e, wipe_get σ vs j]
      have : (j ∈ v :: vs) ↔ j ∈ vs := by simp [Ne.symm e]
      simp only [this]
theorem wipe_set (σ : L2.St) (i : Nat) (x : Option V) (vs : List Nat) (h : i ∈ vs) : L2.wipe (σ.set i x) vs = L2.wipe σ vs := by
  apply List.ext_getElem?
  intro j
  rw [wipe_get, wipe_get, List.length_set]
  by_cases hj : j ∈ vs
  · rw [if_pos hj, if_pos hj]
  · rw [if_neg hj, if_neg hj, List.getElem?_set_ne (fun e => hj (by rw [← e]; exact h))]
theorem wipe_wipe (σ : L2.St) (vs : List Nat) : L2.wipe (L2.wipe σ vs) vs = L2.wipe σ vs := by
  apply List.ext_getElem?
  intro j
  rw [wipe_get, wipe_length, wipe_get]
  by_cases hj : j ∈ vs
  · rw [if_pos hj, if_pos hj]
  · rw [if_neg hj, if_neg hj]
theorem g_name {i : Nat} {x : Str} {pos : Pos} (hN : X.N.Nodup) (hi : X.N[i]? = some x) (hx : Loc X.env.scope x) (hf : X.fn x = true ∨ X.env.scope.names.lookup x = some .local := by first | exact .inl rfl | exact .inr rfl | assumption) :
    PG X (.Name x pos) (tIG G E [i] (gNm i)) :=
  (pg_name hN hi hx hf).imp fun v σ H Q h => by
    obtain ⟨ρ, S, env, x, hR, hE, hx, h⟩ := h
    exact h.ok hR _ (hE.set i hx) fun vs hv => wipe_set σ i _ vs (hv i (by simp))
/-- several targets -/
def tIGs (G : Gx) (E : XK) (is : List Nat) (gs : List XG) : TGs := fun vs σ H Q => ∃ ρ S env xs, Rel G.w G.K ρ S H ∧ EnvR G.K ρ H env σ ∧ Reps G.K ρ H xs vs ∧ xs.length = gs.length ∧
  Aft G E ρ H (gTp.go gs xs env S) (fun ρ' S' H' env' => ∀ σ', EnvR G.K ρ' H' env' σ' → Wp is σ σ' → Q σ' H')
theorem _root_.L2.PGs.imp {X : Cx} {e : List Expr} {t u : TGs} (h : PGs X e t) (m : ∀ v σ H Q, u v σ H Q → t v σ H Q) : PGs X e u := ⟨fun pins s σ H v w Q I r q => h.run pins s σ H v w Q I r (m v σ H Q q)⟩
theorem gs_nil : PGs X [] (tIGs G E [] []) := pgs_nil.imp fun vs σ H Q h => by
  obtain ⟨ρ, S, env, xs, hR, hE, hx, hl, h⟩ := h
  have : xs = [] := List.eq_nil_of_length_eq_zero hl
  subst this
  unfold Reps at hx
  exact ⟨hx, h.ok hR σ hE fun _ _ => rfl⟩
theorem gs_cons {e : Expr} {es : List Expr} {is js : List Nat} {g : XG} {gs : List XG} (h1 : PG X e (tIG G E is g)) (h2 : PGs X es (tIGs G E js gs))
    (hs : (assignEach (e :: es) X.env).map (·.2) = assign e X.env :: (assignEach es X.env).map (·.2) := by rfl) : PGs X (e :: es) (tIGs G E (is ++ js) (g :: gs)) :=
  (pgs_cons h1 h2 hs).imp fun vs σ H Q h => by
    obtain ⟨ρ, S, env, xs, hR, hE, hx, hl, h⟩ := h
    cases xs with
    | nil => cases hl
    | cons x xs =>
      obtain ⟨v, s, rfl, r1, r2⟩ := hx.uncons
      refine ⟨v, s, rfl, ρ, S, env, x, hR, hE, r1, ?_⟩
      have h : Aft G E ρ H ((g x env S).bind fun env S => gTp.go gs xs env S) (fun ρ' S' H' env' => ∀ σ', EnvR G.K ρ' H' env' σ' → Wp (is ++ js) σ σ' → Q σ' H') := h
      refine h.step fun ρ1 S1 H1 env1 e1 hR1 h1 σ1 hE1 w1 => ?_
      refine ⟨ρ1, S1, env1, xs, hR1, hE1, Reps.ext e1 xs s r2, by simpa using hl, h1.mono fun ρ2 S2 H2 env2 e2 hR2 k σ2 hE2 w2 => k σ2 hE2 fun vs hv => ?_⟩
      rw [w2 vs fun i hi => hv i (List.mem_append_right _ hi), w1 vs fun i hi => hv i (List.mem_append_left _ hi)]
theorem _root_.L2.PG.or {X : Cx} {e : Expr} {t u : TG} (h : PG X e t) (h' : PG X e u) : PG X e (fun v σ H Q => t v σ H Q ∨ u v σ H Q) := ⟨fun pins s σ H v w Q I r q => q.elim (h.run pins s σ H v w Q I r) (h'.run pins s σ H v w Q I r)⟩
theorem g_tup {es : List Expr} {k : Nat} {is : List Nat} {gs : List XG} {pos : Pos} (hc : X.calm = true) (h : PGs X es (tIGs G E is gs)) (hK : X.K = G.K := by rfl) (hl : gs.length = es.length := by rfl)
    (hn : (assignEach es X.env).length = es.length := by rfl) (hst : (assignEach es X.env).findIdx? (·.1) = none := by rfl) : PG X (.Tuple es k pos) (tIG G E is (gTp gs)) :=
  ((pg_tup hc h hn hst).or (pg_unl hc h hn hst)).imp fun v σ H Q h => by
    obtain ⟨ρ, S, env, x, hR, hE, hx, h⟩ := h
    unfold gTp at h
    split at h
    · rename_i xs hxs
      obtain ⟨a, vs, rfl, hs, r1⟩ := seq_of hR hx hxs
      split at h
      · rename_i hlen
        have go : vs.length = es.length := by rw [← r1.length, hlen, hl]
        rcases hs with hs | hs
        · exact .inr ⟨a, vs, rfl, by rw [hK]; exact hs, go, ρ, S, env, xs, hR, hE, r1, hlen, h⟩
        · exact .inl ⟨a, vs, rfl, by rw [hK]; exact hs, go, ρ, S, env, xs, hR, hE, r1, hlen, h⟩
      · exact h.elim
    · exact h.elim
/-! ### statements -/
variable {st : Stmt} {rest : List Stmt} {m n : XS} {e : Expr} {me : XE} {pos : Pos}
theorem s_nil : PSs X [] (tIS G E sNil) := pss_nil.imp fun D σ H h => by
  obtain ⟨ρ, S, env, hR, hE, h⟩ := h
  exact h.ok hR σ hE
theorem s_seq (h1 : PS X st (tIS G E m)) (h2 : PSs X rest (tIS G E n)) : PSs X (st :: rest) (tIS G E (sSeq m n)) :=
  (pss_cons h1 h2).imp fun D σ H h => by
    obtain ⟨ρ, S, env, hR, hE, h⟩ := h
    refine ⟨ρ, S, env, hR, hE, h.step fun ρ1 S1 H1 p e1 hR1 h1 => ?_⟩
    obtain ⟨f, env1⟩ := p
    cases f with
    | nx => exact fun σ1 hE1 => ⟨ρ1, S1, env1, hR1, hE1, h1⟩
    | rt v => exact h1.ok hR1
    | bk => exact h1.ok hR1
    | ct => exact h1.ok hR1
theorem s_one (h1 : PS X st (tIS G E m)) : PSs X [st] (tIS G E m) := pss_one h1
theorem s_asg {tg : Expr} {is : List Nat} {g : XG} (he : PE X e (tI G E me)) (hg : PG X tg (tIG G E is g)) (hs : swapsWithSole [tg] e pos.line X.env = pure false := by rfl) (hw : swappedStores [tg] e X.env = pure none := by rfl)
    (h1 : (assignEach [tg] X.env).map (·.2) = [assign tg X.env] := by rfl) : PS X (.Assign [tg] e pos) (tIS G E (sAsg me g)) :=
  (ps_asg he hg hs hw h1).imp fun D σ H h => by
    obtain ⟨ρ, S, env, hR, hE, h⟩ := h
    refine ⟨ρ, S, env, hR, hE, h.step fun ρ1 S1 H1 x e1 hR1 h1 v rv => ?_⟩
    exact ⟨ρ1, S1, env, x, hR1, hE.ext e1, rv, h1.step fun ρ2 S2 H2 env2 e2 hR2 h2 σ2 hE2 _ => h2.ok hR2 σ2 hE2⟩
theorem s_set {i : Nat} {x : Str} {pos' : Pos} (hN : X.N.Nodup) (hi : X.N[i]? = some x) (hx : Loc X.env.scope x) (he : PE X e (tI G E me)) (hs : swapsWith e (some (.Name x pos')) pos.line X.env = pure false := by rfl) (hf : X.fn x = true ∨ X.env.scope.names.lookup x = some .local := by first | exact .inl rfl | exact .inr rfl | assumption) :
    PS X (.Assign [.Name x pos'] e pos) (tIS G E (sAsg me (gNm i))) :=
  (ps_set hN hi hx he hs hf).imp fun D σ H h => by
    obtain ⟨ρ, S, env, hR, hE, h⟩ := h
    refine ⟨ρ, S, env, hR, hE, h.step fun ρ1 S1 H1 x e1 hR1 h1 v rv => ?_⟩
    exact h1.ok hR1 _ ((hE.ext e1).set i rv)
theorem s_drop (he : PE X e (tI G E me)) (hs : swapsWith e none pos.line X.env = pure false := by rfl) : PS X (.Expr e pos) (tIS G E (sDrop me)) :=
  (ps_expr he hs).imp fun D σ H h => by
    obtain ⟨ρ, S, env, hR, hE, h⟩ := h
    refine ⟨ρ, S, env, hR, hE, h.step fun ρ1 S1 H1 x e1 hR1 h1 v rv => ?_⟩
    exact h1.ok hR1 _ (hE.ext e1)
theorem s_ret (he : PE X e (tI G E me)) : PS X (.Return (some e) pos) (tIS G E (sRet me)) :=
  (ps_ret he).imp fun D σ H h => by
    obtain ⟨ρ, S, env, hR, hE, h⟩ := h
    refine ⟨ρ, S, env, hR, hE, h.step fun ρ1 S1 H1 x e1 hR1 h1 v rv => ?_⟩
    exact h1.ok hR1 _ rv
theorem s_retN : PS X (.Return none pos) (tIS G E sRetN) := ps_retN.imp fun D σ H h => by
  obtain ⟨ρ, S, env, hR, hE, h⟩ := h
  exact h.ok hR _ Rep.non
theorem s_if {c : Expr} {a b : List Stmt} {t : XB} (hc : PT X c (tIB G E t)) (ha : PSs X a (tIS G E m)) (hb : PSs X b (tIS G E n)) : PS X (.If c a b pos) (tIS G E (sIf t m n)) :=
  (ps_if hc ha hb).imp fun D σ H h => by
    obtain ⟨ρ, S, env, hR, hE, h⟩ := h
    refine ⟨ρ, S, env, hR, hE, h.step fun ρ1 S1 H1 k e1 hR1 h1 => ?_⟩
    cases k with
    | true => exact ⟨ρ1, S1, env, hR1, hE.ext e1, h1⟩
    | false => exact ⟨ρ1, S1, env, hR1, hE.ext e1, h1⟩
theorem s_bad : PS X st (tIS G E sBad) := ps_never.imp fun D σ H h => by
  obtain ⟨ρ, S, env, hR, hE, h⟩ := h
  exact h
theorem s_pass : PS X (.Pass pos) (tIS G E sNil) := ps_pass.imp fun D σ H h => by
  obtain ⟨ρ, S, env, hR, hE, h⟩ := h
  exact h.ok hR σ hE
theorem s_cont : PS X (.Continue pos) (tIS G E sCont) := ps_continue.imp fun D σ H h => by
  obtain ⟨ρ, S, env, hR, hE, h⟩ := h
  exact h.ok hR σ hE
theorem s_brk : PS X (.Break pos) (tIS G E sBrk) := ps_break.imp fun D σ H h => by
  obtain ⟨ρ, S, env, hR, hE, h⟩ := h
  exact h.ok hR σ hE
/-! ### what is walked -/
/-- hidden or not: something that was not there at first -/
def Hd (H0 : Hp) (ρ ρh : Rho) : Prop := ρh = ρ ∨ ∃ D, H0 D = none ∧ ρh = ρ.hide D
structure Src (G : Gx) (J : L2.It) (it : It) (ρ0 : Rho) (H0 : Hp) : Prop where
  go : ∀ ρ ρh S H all i, Ext ρ0 H0 ρ H → Hd H0 ρ ρh → Rel G.w G.K ρh S H → it.items S = some all → i < all.length → J.go i H
  stop : ∀ ρ ρh S H all, Ext ρ0 H0 ρ H → Hd H0 ρ ρh → Rel G.w G.K ρh S H → it.items S = some all → J.stop all.length H
  yld : ∀ ρ ρh S H all i x H', Ext ρ0 H0 ρ H → Hd H0 ρ ρh → Rel G.w G.K ρh S H → it.items S = some all → i < all.length → J.yld i H x H' → Ext ρh H ρh H' ∧ Rel G.w G.K ρh S H' ∧ ∃ y, all[i]? = some y ∧ Rep G.K ρh H' y x
section
variable {w : World} {K : PySem.W.Frag} {ρ0 ρ : Rho} {H0 H : Hp}
theorem outHide {D a : Addr} {o : HO} (e : Ext ρ0 H0 ρ H) (hD : H0 D = none) (h : H0 a = some o) (nt : ∀ ps, o ≠ .tbl ps) (n : ρ0.Out a) : (ρ.hide D).Out a := by
  have q := e.out h nt n
  refine ⟨q.1, fun z => ?_⟩
  rcases List.mem_cons.mp z with z | z
  · rw [z, hD] at h; cases h
  · exact q.2 z
mutual
theorem Rep.extD {D : Addr} (e : Ext ρ0 H0 ρ H) (hD : H0 D = none) : ∀ (x : PV) (v : V), Rep K ρ0 H0 x v → Rep K (ρ.hide D) H x v
  | .non, _, h => by unfold Rep at h ⊢; exact h
  | .bl _, _, h => by unfold Rep at h ⊢; exact h
  | .int _, _, h => by unfold Rep at h ⊢; exact h
  | .str _, _, h => by unfold Rep at h ⊢; exact h
  | .tup xs, v, h => by
    unfold Rep at h ⊢
    obtain ⟨a, vs, rfl, h1, h3⟩ := h
    refine ⟨a, vs, rfl, ?_, Reps.extD e hD xs vs h3⟩
    rcases h1 with ⟨h1, h2⟩ | h1
    · obtain ⟨o, ho, hn0⟩ := Rd.someP h1 .tup
      exact .inl ⟨Rd.ext e h1 .tup h2.1, outHide e hD ho hn0 h2⟩
    · exact .inr h1
  | .ls xs, v, h => by
    unfold Rep at h ⊢
    obtain ⟨a, vs, rfl, ⟨h1, h2⟩, h3⟩ := h
    exact ⟨a, vs, rfl, ⟨e.keep a _ h1 Plain.lst.1 h2.1, outHide e hD h1 Plain.lst.1 h2⟩, Reps.extD e hD xs vs h3⟩
  | .fz xs, v, h => by
    unfold Rep at h ⊢
    obtain ⟨a, vs, rfl, h1, h3⟩ := h
    refine ⟨a, vs, rfl, ?_, Reps.extD e hD xs vs h3⟩
    rcases h1 with ⟨h1, h2⟩ | h1
    · obtain ⟨o, ho, hn0⟩ := Rd.someP h1 .lst
      exact .inl ⟨Rd.ext e h1 .lst h2.1, outHide e hD ho hn0 h2⟩
    · exact .inr h1
  | .dc ks xs, v, h => by
    unfold Rep at h ⊢
    obtain ⟨a, vs, rfl, ⟨h1, h2⟩, hl, hn, h3⟩ := h
    obtain ⟨o, ho, hn0⟩ := Rd.someP h1 .dK
    exact ⟨a, vs, rfl, ⟨Rd.ext e h1 .dK h2.1, outHide e hD ho hn0 h2⟩, hl, hn, Reps.extD e hD xs vs h3⟩
  | .loc l, v, h => by
    have q := Rep.ext e _ _ h
    unfold Rep at q ⊢
    exact q
theorem Reps.extD {D : Addr} (e : Ext ρ0 H0 ρ H) (hD : H0 D = none) : ∀ (xs : List PV) (vs : List V), Reps K ρ0 H0 xs vs → Reps K (ρ.hide D) H xs vs
  | [], _, h => by unfold Reps at h ⊢; exact h
  | x :: r, vs, h => by
    unfold Reps at h ⊢
    obtain ⟨v, s, rfl, h1, h2⟩ := h
    exact ⟨v, s, rfl, Rep.extD e hD x v h1, Reps.extD e hD r s h2⟩
end
theorem Rep.extH {ρh : Rho} (e : Ext ρ0 H0 ρ H) (d : Hd H0 ρ ρh) {x : PV} {v : V} (r : Rep K ρ0 H0 x v) : Rep K ρh H x v := by
  rcases d with rfl | ⟨D, hD, rfl⟩
  · exact Rep.ext e x v r
  · exact Rep.extD e hD x v r
end
def tII (G : Gx) (E : XK) (mi : XI) : TI := fun σ H R => ∃ ρ S env, Rel G.w G.K ρ S H ∧ EnvR G.K ρ H env σ ∧ Aft G E ρ H (mi env S) (fun ρ' S' H' it => (∃ all, it.items S' = some all) ∧ ∀ J, Src G J it ρ' H' → R J H')
theorem _root_.L2.PI.imp {X : Cx} {tg e : Expr} {t u : TI} (h : PI X tg e t) (m : ∀ σ H Q, u σ H Q → t σ H Q) : PI X tg e u := ⟨fun pins s σ H R I q => h.run pins s σ H R I (m σ H R q)⟩
def PV.isTup : PV → Bool
  | .tup _ => true
  | _ => false
def Stay (G : Gx) (x : PV) (a : Addr) (b : Bool) (ρ0 : Rho) (H0 : Hp) : Prop := ∀ ρ ρh S H ys, Ext ρ0 H0 ρ H → Hd H0 ρ ρh → Rel G.w G.K ρh S H → seqOf S x = some ys → ∃ vs, SqU G.K b H a vs ∧ Reps G.K ρh H ys vs
/-- where a value that is a sequence stands, for the time of a walk -/
theorem sqU_stay {ρ0 : Rho} {S0 : Store} {H0 : Hp} (q0 : Rel G.w G.K ρ0 S0 H0) {x : PV} {v : V} {xs : List PV} (r0 : Rep G.K ρ0 H0 x v) (h0 : seqOf S0 x = some xs) :
    ∃ a, v = .ref a ∧ (∃ vs, SqU G.K x.isTup H0 a vs) ∧ Stay G x a x.isTup ρ0 H0 := by
  cases x with
  | tup ys =>
    have r1 := r0
    unfold Rep at r0
    obtain ⟨a, vs, rfl, h1, h2⟩ := r0
    refine ⟨a, rfl, ⟨vs, h1.sq⟩, fun ρ ρh S H zs e hd q h => ?_⟩
    have r2 := Rep.extH e hd r1
    unfold Rep at r2
    obtain ⟨a', vs', e', h1', h2'⟩ := r2
    cases e'
    cases h
    exact ⟨vs', h1'.sq, h2'⟩
  | ls ys =>
    have r1 := r0
    unfold Rep at r0
    obtain ⟨a, vs, rfl, ⟨h1, _⟩, h2⟩ := r0
    refine ⟨a, rfl, ⟨vs, SqL.of h1⟩, fun ρ ρh S H zs e hd q h => ?_⟩
    have r2 := Rep.extH e hd r1
    unfold Rep at r2
    obtain ⟨a', vs', e', ⟨h1', _⟩, h2'⟩ := r2
    cases e'
    cases h
    exact ⟨vs', SqL.of h1', h2'⟩
  | fz ys =>
    have r1 := r0
    unfold Rep at r0
    obtain ⟨a, vs, rfl, h1, h2⟩ := r0
    refine ⟨a, rfl, ⟨vs, h1.sq⟩, fun ρ ρh S H zs e hd q h => ?_⟩
    have r2 := Rep.extH e hd r1
    unfold Rep at r2
    obtain ⟨a', vs', e', h1', h2'⟩ := r2
    cases e'
    cases h
    exact ⟨vs', h1'.sq, h2'⟩
  | loc l =>
    have r1 := r0
    unfold Rep at r0
    obtain ⟨a, h1, rfl⟩ := r0
    obtain ⟨c, hc, ca⟩ := q0.cell h1
    simp only [seqOf, hc] at h0
    cases c with
    | lst zs =>
      obtain ⟨vs, h2, h3⟩ := ca
      refine ⟨a, rfl, ⟨vs, SqL.of h2⟩, fun ρ ρh S H ws e hd q h => ?_⟩
      have r2 := Rep.extH e hd r1
      unfold Rep at r2
      obtain ⟨a', h1', e'⟩ := r2
      cases e'
      obtain ⟨c', hc', ca'⟩ := q.cell h1'
      simp only [seqOf, hc'] at h
      cases c' with
      | lst us =>
        obtain ⟨vs', h2', h3'⟩ := ca'
        cases h
        exact ⟨vs', SqL.of h2', h3'⟩
      | _ => cases h
    | _ => cases h0
  | _ => cases h0
theorem src_seq {ρ0 : Rho} {H0 : Hp} {x : PV} {a : Addr} {b : Bool} (w : Stay G x a b ρ0 H0) : Src G (ItU G.K b a) (.seq x) ρ0 H0 where
  go := fun ρ ρh S H all i e hd q h hi => by
    obtain ⟨vs, h1, h2⟩ := w ρ ρh S H all e hd q h
    have hi' : i < vs.length := by rw [← h2.length]; exact hi
    cases b with
    | true => exact ⟨vs, vs[i], h1, List.getElem?_eq_getElem hi'⟩
    | false => exact ⟨vs, vs[i], h1, List.getElem?_eq_getElem hi'⟩
  stop := fun ρ ρh S H all e hd q h => by
    obtain ⟨vs, h1, h2⟩ := w ρ ρh S H all e hd q h
    cases b with
    | true => exact ⟨vs, h1, Nat.le_of_eq h2.length.symm⟩
    | false => exact ⟨vs, h1, Nat.le_of_eq h2.length.symm⟩
  yld := fun ρ ρh S H all i x H' e hd q h hi y => by
    obtain ⟨vs, h1, h2⟩ := w ρ ρh S H all e hd q h
    cases b with
    | true =>
      obtain ⟨e', y⟩ := y
      subst e'
      obtain ⟨z, h3, h4⟩ := h2.getV (y vs h1)
      exact ⟨Ext.refl _ _, q, z, h3, h4⟩
    | false =>
      obtain ⟨e', y⟩ := y
      subst e'
      obtain ⟨z, h3, h4⟩ := h2.getV (y vs h1)
      exact ⟨Ext.refl _ _, q, z, h3, h4⟩
theorem i_seq {tg l : Expr} {ml : XE} (hl : PE X l (tI G E ml)) (hK : X.K = G.K := by rfl) : PI X tg l (tII G E (iSeq ml)) :=
  ((pi_list hl).or (pi_tup hl)).imp fun σ H R h => by
    obtain ⟨ρ, S, env, hR, hE, h⟩ := h
    unfold iSeq at h
    cases hv : ml env S with
    | bad =>
      rw [hv] at h
      exact h.elim
    | exc e S' =>
      rw [hv] at h
      exact .inl ⟨ρ, S, env, hR, hE, by rw [hv]; exact h⟩
    | ok x S1 =>
      rw [hv] at h
      cases ht : x.isTup with
      | true =>
        refine .inr ⟨ρ, S, env, hR, hE, ?_⟩
        rw [hv]
        intro ρ1 H1 e1 hR1 v rv
        obtain ⟨⟨all, ha⟩, k⟩ := h ρ1 H1 e1 hR1
        obtain ⟨a, rfl, hvs, w⟩ := sqU_stay hR1 rv ha
        rw [ht] at hvs w
        rw [hK]
        exact ⟨a, rfl, hvs, k _ (src_seq w)⟩
      | false =>
        refine .inl ⟨ρ, S, env, hR, hE, ?_⟩
        rw [hv]
        intro ρ1 H1 e1 hR1 v rv
        obtain ⟨⟨all, ha⟩, k⟩ := h ρ1 H1 e1 hR1
        obtain ⟨a, rfl, hvs, w⟩ := sqU_stay hR1 rv ha
        rw [ht] at hvs w
        rw [hK]
        exact ⟨a, rfl, hvs, k _ (src_seq w)⟩
theorem pairs_get {xs ys : List PV} {i : Nat} {x y : PV} (h1 : xs[i]? = some x) (h2 : ys[i]? = some y) : (pairs xs ys)[i]? = some (.tup [x, y]) := by
  unfold pairs
  rw [List.getElem?_map, show (xs.zip ys)[i]? = some (x, y) from List.getElem?_zip_eq_some.mpr ⟨h1, h2⟩]
  rfl
theorem pairs_length {xs ys : List PV} : (pairs xs ys).length = min xs.length ys.length := by
  unfold pairs
  rw [List.length_map, List.length_zip]
theorem upto_get {lo : Int} {n i : Nat} (h : i < n) : (upto lo n)[i]? = some (.int (lo + i)) := by
  unfold upto
  rw [List.getElem?_map, List.getElem?_range h]
  rfl
theorem upto_length {lo : Int} {n : Nat} : (upto lo n).length = n := by
  unfold upto
  rw [List.length_map, List.length_range]
/-- a new pair -/
theorem new_pair {ρ : Rho} {S : Store} {H : Hp} (q : Rel G.w G.K ρ S H) {T : Addr} {x y : PV} {v u : V} (hT : H T = none) (r : Rep G.K ρ H x v) (r' : Rep G.K ρ H y u) :
    Ext ρ H ρ (upd H T (.tup [v, u])) ∧ Rel G.w G.K ρ S (upd H T (.tup [v, u])) ∧ Rep G.K ρ (upd H T (.tup [v, u])) (.tup [x, y]) (.ref T) := by
  refine ⟨Ext.new hT, q.new hT, ?_⟩
  unfold Rep
  exact ⟨T, [v, u], rfl, .inl ⟨.inl upd_same, q.out hT⟩, .cons (Rep.ext (Ext.new hT) x v r) (.cons (Rep.ext (Ext.new hT) y u r') .nil)⟩
theorem src_enum {ρ0 : Rho} {H0 : Hp} {x : PV} {a : Addr} {b : Bool} (w : Stay G x a b ρ0 H0) : Src G (IteU G.K b a) (.enum x) ρ0 H0 := by
  have inv : ∀ {S : Store} {all : List PV}, (It.enum x).items S = some all → ∃ xs, seqOf S x = some xs ∧ all = pairs (upto 0 xs.length) xs ∧ all.length = xs.length := fun {S all} h => by
    unfold It.items at h
    cases e : seqOf S x with
    | none => simp [e] at h
    | some xs =>
      simp [e] at h
      exact ⟨xs, rfl, h.symm, by rw [← h, pairs_length, upto_length, Nat.min_self]⟩
  refine ⟨fun ρ ρh S H all i e hd q h hi => ?_, fun ρ ρh S H all e hd q h => ?_, fun ρ ρh S H all i y H' e hd q h hi yd => ?_⟩
  · obtain ⟨xs, hx, rfl, hl⟩ := inv h
    obtain ⟨vs, h1, h2⟩ := w ρ ρh S H xs e hd q hx
    have hi' : i < vs.length := by rw [← h2.length]; omega
    exact ⟨vs, vs[i], h1, List.getElem?_eq_getElem hi'⟩
  · obtain ⟨xs, hx, rfl, hl⟩ := inv h
    obtain ⟨vs, h1, h2⟩ := w ρ ρh S H xs e hd q hx
    exact ⟨vs, h1, by rw [hl, h2.length]⟩
  · obtain ⟨xs, hx, rfl, hl⟩ := inv h
    obtain ⟨vs, h1, h2⟩ := w ρ ρh S H xs e hd q hx
    obtain ⟨T, v, rfl, hT, rfl, hv⟩ := yd
    obtain ⟨z, h3, h4⟩ := h2.getV (hv vs h1)
    obtain ⟨p1, p2, p3⟩ := new_pair q (x := .int (i : Nat)) (y := z) (v := .int (i : Nat)) (u := v) hT Rep.int h4
    refine ⟨p1, p2, _, ?_, p3⟩
    exact pairs_get (by rw [upto_get (by omega)]; simp) h3
theorem i_enum {e : Expr} {ml : XE} {p pos tpos : Pos} {elts : List Expr} {kk : Nat} (hg : Gl X "enumerate") (hm : X.mg "enumerate" = none) (hl : PE X e (tI G E ml)) (hK : X.K = G.K := by rfl) (hs : starEach [e] X.env = [(false, eval e X.env)] := by rfl) :
    PI X (.Tuple elts kk tpos) (.Call (.Name "enumerate" p) [e] [] pos) (tII G E (iEnum ml)) :=
  (pi_enumU hg hm (pa_cons hl pa_nil hs) hs).imp fun σ H R h => by
    obtain ⟨ρ, S, env, hR, hE, h⟩ := h
    refine ⟨ρ, S, env, hR, hE, h.step fun ρ1 S1 H1 x e1 hR1 h1 v rv => ?_⟩
    obtain ⟨⟨all, ha⟩, k⟩ := h1.ok hR1
    unfold It.items at ha
    cases hx : seqOf S1 x with
    | none => simp [hx] at ha
    | some xs =>
      obtain ⟨a, rfl, ⟨vs, hvs⟩, w⟩ := sqU_stay hR1 rv hx
      rw [hK]
      exact ⟨a, _, vs, rfl, hvs, k _ (src_enum w)⟩
theorem src_zip {ρ0 : Rho} {H0 : Hp} {x y : PV} {a1 a2 : Addr} {b c : Bool} (w : Stay G x a1 b ρ0 H0) (w2 : Stay G y a2 c ρ0 H0) : Src G (ItzU G.K b c a1 a2) (.zip x y) ρ0 H0 := by
  have inv : ∀ {S : Store} {all : List PV}, (It.zip x y).items S = some all → ∃ xs ys, seqOf S x = some xs ∧ seqOf S y = some ys ∧ all = pairs xs ys := fun {S all} h => by
    simp only [It.items] at h
    split at h
    · rename_i xs ys h1 h2
      cases h
      exact ⟨xs, ys, h1, h2, rfl⟩
    · cases h
  refine ⟨fun ρ ρh S H all i e hd q h hi => ?_, fun ρ ρh S H all e hd q h => ?_, fun ρ ρh S H all i z H' e hd q h hi yd => ?_⟩
  · obtain ⟨xs, ys, hx, hy, rfl⟩ := inv h
    obtain ⟨vs, h1, h2⟩ := w ρ ρh S H xs e hd q hx
    obtain ⟨us, h3, h4⟩ := w2 ρ ρh S H ys e hd q hy
    rw [pairs_length] at hi
    have hi1 : i < vs.length := by rw [← h2.length]; omega
    have hi2 : i < us.length := by rw [← h4.length]; omega
    exact ⟨vs, us, vs[i], us[i], h1, h3, List.getElem?_eq_getElem hi1, List.getElem?_eq_getElem hi2⟩
  · obtain ⟨xs, ys, hx, hy, rfl⟩ := inv h
    obtain ⟨vs, h1, h2⟩ := w ρ ρh S H xs e hd q hx
    obtain ⟨us, h3, h4⟩ := w2 ρ ρh S H ys e hd q hy
    rw [pairs_length]
    have l1 := h2.length
    have l2 := h4.length
    exact ⟨vs, us, h1, h3, by omega, by omega, by omega⟩
  · obtain ⟨xs, ys, hx, hy, rfl⟩ := inv h
    obtain ⟨vs, h1, h2⟩ := w ρ ρh S H xs e hd q hx
    obtain ⟨us, h3, h4⟩ := w2 ρ ρh S H ys e hd q hy
    obtain ⟨T, v, u, rfl, hT, rfl, hv, hu⟩ := yd
    obtain ⟨z1, h5, h6⟩ := h2.getV (hv vs h1)
    obtain ⟨z2, h7, h8⟩ := h4.getV (hu us h3)
    obtain ⟨p1, p2, p3⟩ := new_pair q hT h6 h8
    exact ⟨p1, p2, _, pairs_get h5 h7, p3⟩
theorem i_zip {e e2 : Expr} {ml ml2 : XE} {p pos tpos : Pos} {elts : List Expr} {kk : Nat} (hg : Gl X "zip") (hm : X.mg "zip" = none) (hl : PE X e (tI G E ml)) (hl2 : PE X e2 (tI G E ml2)) (hK : X.K = G.K := by rfl)
    (hs : starEach [e, e2] X.env = (false, eval e X.env) :: starEach [e2] X.env := by rfl) (hpl : (backTo pos (starEach [e2] X.env)).any (·.1) = false := by rfl) (hs2 : starEach [e2] X.env = (false, eval e2 X.env) :: starEach [] X.env := by rfl) :
    PI X (.Tuple elts kk tpos) (.Call (.Name "zip" p) [e, e2] [] pos) (tII G E (iZip ml ml2)) :=
  (pi_zipU hg hm (pa_cons hl (pa_cons hl2 pa_nil hs2) hs) hs hpl).imp fun σ H R h => by
    obtain ⟨ρ, S, env, hR, hE, h⟩ := h
    refine ⟨ρ, S, env, hR, hE, h.step fun ρ1 S1 H1 x e1 hR1 h1 v rv => ?_⟩
    refine ⟨ρ1, S1, env, hR1, hE.ext e1, h1.step fun ρ2 S2 H2 y e2 hR2 h2 u ru => ?_⟩
    obtain ⟨⟨all, ha⟩, k⟩ := h2.ok hR2
    simp only [It.items] at ha
    split at ha
    · rename_i xs ys hx hy
      obtain ⟨a, rfl, ⟨vs, hvs⟩, w⟩ := sqU_stay hR2 (Rep.ext e2 x v rv) hx
      obtain ⟨a2, rfl, ⟨us, hus⟩, w2⟩ := sqU_stay hR2 ru hy
      rw [hK]
      exact ⟨a, a2, _, _, vs, us, rfl, hvs, hus, k _ (src_zip w w2)⟩
    · cases ha
theorem src_rng {ρ0 : Rho} {H0 : Hp} {lo : Int} {n : Nat} : Src G (Itr lo n) (.rng lo n) ρ0 H0 := by
  refine ⟨fun ρ ρh S H all i e hd q h hi => ?_, fun ρ ρh S H all e hd q h => ?_, fun ρ ρh S H all i y H' e hd q h hi yd => ?_⟩
  · cases h
    rw [upto_length] at hi
    exact hi
  · cases h
    rw [upto_length]
    exact Nat.le_refl n
  · cases h
    rw [upto_length] at hi
    obtain ⟨rfl, rfl⟩ := yd
    exact ⟨Ext.refl _ _, q, _, upto_get hi, Rep.int⟩
theorem i_rng {a : Expr} {ma : XE} {tg : Expr} {p pos : Pos} (hg : Gl X "range") (hm : X.mg "range" = none) (ha : PE X a (tI G E ma)) (hs : starEach [a] X.env = [(false, eval a X.env)] := by rfl) : PI X tg (.Call (.Name "range" p) [a] [] pos) (tII G E (iRng ma)) :=
  (pi_range1 hg hm (pa_cons ha pa_nil hs) hs).imp fun σ H R h => by
    obtain ⟨ρ, S, env, hR, hE, h⟩ := h
    refine ⟨ρ, S, env, hR, hE, h.step fun ρ1 S1 H1 x e1 hR1 h1 v rv => ?_⟩
    cases x with
    | int j =>
      rw [rv.int_of]
      simp only at h1
      split at h1
      · rename_i hl
        obtain ⟨_, k⟩ := h1.ok hR1
        have : (lim : Int) < 2 ^ 62 := by decide
        exact ⟨j, rfl, by omega, by omega, k _ src_rng⟩
      · exact h1.elim
    | _ => exact h1.elim
theorem i_rng2 {a b : Expr} {ma mb : XE} {tg : Expr} {p pos : Pos} (hg : Gl X "range") (hm : X.mg "range" = none) (ha : PE X a (tI G E ma)) (hb : PE X b (tI G E mb)) (hs : starEach [a, b] X.env = [(false, eval a X.env), (false, eval b X.env)] := by rfl) (hs2 : starEach [b] X.env = [(false, eval b X.env)] := by rfl)
    (hs3 : starEach [a, b] X.env = (false, eval a X.env) :: starEach [b] X.env := by rfl) : PI X tg (.Call (.Name "range" p) [a, b] [] pos) (tII G E (iRng2 ma mb)) :=
  (pi_range2 hg hm (pa_cons ha (pa_cons hb pa_nil hs2) hs3) hs hs2).imp fun σ H R h => by
    obtain ⟨ρ, S, env, hR, hE, h⟩ := h
    refine ⟨ρ, S, env, hR, hE, h.step fun ρ1 S1 H1 x e1 hR1 h1 v rv => ?_⟩
    refine ⟨ρ1, S1, env, hR1, hE.ext e1, h1.step fun ρ2 S2 H2 y e2 hR2 h2 u ru => ?_⟩
    split at h2
    · split at h2
      · rename_i hl
        rw [rv.int_of, ru.int_of]
        obtain ⟨_, k⟩ := h2.ok hR2
        have : (lim : Int) < 2 ^ 62 := by decide
        exact ⟨_, _, rfl, ⟨by omega, by omega, by omega, by omega⟩, k _ src_rng⟩
      · exact h2.elim
    · exact h2.elim
theorem src_rev {ρ0 : Rho} {H0 : Hp} {x : PV} {a : Addr} {n : Nat} (w : ∀ ρ ρh S H ys, Ext ρ0 H0 ρ H → Hd H0 ρ ρh → Rel G.w G.K ρh S H → lsOf x = some ys → ys.length = n ∧ ∃ vs, SqL G.K H a vs ∧ Reps G.K ρh H ys vs) : Src G (Itv G.K a n) (.rev x) ρ0 H0 := by
  have inv : ∀ {S : Store} {all : List PV}, (It.rev x).items S = some all → ∃ xs, lsOf x = some xs ∧ all = xs.reverse := fun {S all} h => by
    simp only [It.items] at h
    cases e : lsOf x with
    | none => simp [e] at h
    | some xs =>
      simp [e] at h
      exact ⟨xs, rfl, h.symm⟩
  refine ⟨fun ρ ρh S H all i e hd q h hi => ?_, fun ρ ρh S H all e hd q h => ?_, fun ρ ρh S H all i y H' e hd q h hi yd => ?_⟩
  · obtain ⟨xs, hx, rfl⟩ := inv h
    obtain ⟨hn, vs, h1, h2⟩ := w ρ ρh S H xs e hd q hx
    rw [List.length_reverse] at hi
    have hl := h2.length
    exact ⟨by omega, vs, vs[n - 1 - i], h1, List.getElem?_eq_getElem (by omega)⟩
  · obtain ⟨xs, hx, rfl⟩ := inv h
    obtain ⟨hn, vs, h1, h2⟩ := w ρ ρh S H xs e hd q hx
    rw [List.length_reverse]
    exact Nat.le_of_eq hn.symm
  · obtain ⟨xs, hx, rfl⟩ := inv h
    obtain ⟨hn, vs, h1, h2⟩ := w ρ ρh S H xs e hd q hx
    rw [List.length_reverse] at hi
    obtain ⟨rfl, yd⟩ := yd
    obtain ⟨z, h3, h4⟩ := h2.getV (yd vs h1)
    refine ⟨Ext.refl _ _, q, z, ?_, h4⟩
    rw [List.getElem?_reverse hi, hn]
    exact h3
/-! ### for, while -/
variable {iter tg : Expr} {mi : XI} {is : List Nat} {g : XG} {body : List Stmt} {mb : XS} {c : Expr} {mc : XB}
theorem s_for (hp : PassesOwn (model X.prog X.w) X.A X.env X.xe) (hc : X.calm = true) (hi : PI X tg iter (tII G E mi)) (hg : PG X tg (tIG G E is g)) (hb : PSs X body (tIS G E mb))
    (hs : ∀ x, foldedSetIterable iter X.env x = pure x := by intro _; rfl) : PS X (.For tg iter body [] pos) (tIS G E (sFor mi g mb)) :=
  (ps_for hp hc hi hg hb hs).imp fun D σ H h => by
    obtain ⟨ρ, S, env, hR, hE, h⟩ := h
    refine ⟨ρ, S, env, hR, hE, h.step fun ρ1 S1 H1 it e1 hR1 h1 => ?_⟩
    cases ha : it.items S1 with
    | none => simp only [ha] at h1; exact h1.elim
    | some all =>
      simp only [ha] at h1
      refine ⟨⟨all, rfl⟩, fun J src => ?_⟩
      refine ⟨fun i m σ H => ∃ ρ S env, Ext ρ1 H1 ρ H ∧ Rel G.w G.K ρ S H ∧ EnvR G.K ρ H env σ ∧ m = all.length - i ∧ i ≤ all.length ∧ Aft G E ρ H (forGo it all g mb (all.drop i) env S) (kS G D),
        ⟨all.length, ρ1, S1, env, Ext.refl _ _, hR1, hE.ext e1, by simp, Nat.zero_le _, h1⟩, ?_⟩
      rintro i m σ2 H2 ⟨ρ2, S2, env2, e2, hR2, hE2, rfl, hi2, h2⟩
      by_cases hlt : i < all.length
      · have hd : all.drop i = all[i] :: all.drop (i + 1) := List.drop_eq_getElem_cons hlt
        rw [hd] at h2
        unfold forGo at h2
        split at h2
        · rename_i hit
          refine .inr ⟨src.go ρ2 ρ2 S2 H2 all i e2 (.inl rfl) hR2 hit hlt, fun σ' H' => ∃ ρ S env, Ext ρ1 H1 ρ H' ∧ Rel G.w G.K ρ S H' ∧ EnvR G.K ρ H' env σ' ∧ Aft G E ρ H' (forGo it all g mb (all.drop (i + 1)) env S) (kS G D), ?_, ?_⟩
          · rintro σ' H' ⟨ρ3, S3, env3, e3, hR3, hE3, h3⟩
            exact ⟨all.length - (i + 1), by omega, ρ3, S3, env3, e3, hR3, hE3, rfl, hlt, h3⟩
          · intro x H' yd
            obtain ⟨e3, hR3, y, hy, ry⟩ := src.yld ρ2 ρ2 S2 H2 all i x H' e2 (.inl rfl) hR2 hit hlt yd
            rw [List.getElem?_eq_getElem hlt] at hy
            cases hy
            refine ⟨ρ2, S2, env2, all[i], hR3, hE2.ext e3, ry, (h2.shift e3).step fun ρ4 S4 H4 env4 e4 hR4 h4 σ4 hE4 _ => ?_⟩
            refine ⟨ρ4, S4, env4, hR4, hE4, h4.step fun ρ5 S5 H5 p e5 hR5 h5 => ?_⟩
            have e15 : Ext ρ1 H1 ρ5 H5 := ((e2.trans e3).trans e4).trans e5
            obtain ⟨f, env5⟩ := p
            cases f with
            | nx => exact fun σ5 hE5 => ⟨ρ5, S5, env5, e15, hR5, hE5, h5⟩
            | ct => exact fun σ5 hE5 => ⟨ρ5, S5, env5, e15, hR5, hE5, h5⟩
            | bk => exact fun σ5 hE5 => h5.ok hR5 σ5 hE5
            | rt v => exact fun u ru => h5.ok hR5 u ru
        · exact h2.elim
      · have e : i = all.length := by omega
        subst e
        rw [List.drop_length] at h2
        unfold forGo at h2
        split at h2
        · rename_i hit
          exact .inl ⟨src.stop ρ2 ρ2 S2 H2 all e2 (.inl rfl) hR2 hit, h2.ok hR2 σ2 hE2⟩
        · exact h2.elim
theorem s_while (hp : PassesOwn (model X.prog X.w) X.A X.env X.xe) (hc : PT X c (tIB G E mc)) (hb : PSs X body (tIS G E mb)) : PS X (.While c body [] pos) (tIS G E (sWhile mc mb)) :=
  (ps_while hp hc hb).imp fun D σ H h => by
    obtain ⟨ρ, S, env, hR, hE, h⟩ := h
    refine ⟨fun m σ H => ∃ ρ S env, Rel G.w G.K ρ S H ∧ EnvR G.K ρ H env σ ∧ Aft G E ρ H (whGo mc mb m env S) (kS G D), ⟨lim, ρ, S, env, hR, hE, h⟩, ?_⟩
    rintro m σ2 H2 ⟨ρ2, S2, env2, hR2, hE2, h2⟩
    cases m with
    | zero => exact h2.elim
    | succ m =>
      unfold whGo at h2
      refine ⟨ρ2, S2, env2, hR2, hE2, h2.step fun ρ3 S3 H3 k e3 hR3 h3 => ?_⟩
      cases k with
      | true =>
        refine ⟨fun σ' H' => ∃ ρ S env, Rel G.w G.K ρ S H' ∧ EnvR G.K ρ H' env σ' ∧ Aft G E ρ H' (whGo mc mb m env S) (kS G D), ?_, ?_⟩
        · rintro σ' H' w
          exact ⟨m, Nat.lt_succ_self m, w⟩
        · refine ⟨ρ3, S3, env2, hR3, hE2.ext e3, Aft.step (f := fun p S => _) h3 fun ρ5 S5 H5 p e5 hR5 h5 => ?_⟩
          obtain ⟨f, env5⟩ := p
          cases f with
          | nx => exact fun σ5 hE5 => ⟨ρ5, S5, env5, hR5, hE5, h5⟩
          | ct => exact fun σ5 hE5 => ⟨ρ5, S5, env5, hR5, hE5, h5⟩
          | bk => exact fun σ5 hE5 => h5.ok hR5 σ5 hE5
          | rt v => exact fun u ru => h5.ok hR5 u ru
      | false => exact h3.ok hR3 σ2 (hE2.ext e3)
/-! ### comprehensions -/
def E0 : XK := fun _ _ _ => False
theorem Ext.ofHide {ρ ρ' : Rho} {H H' : Hp} {D : Addr} (e : Ext (ρ.hide D) H ρ' H') : ∃ ρ2 : Rho, ρ' = ρ2.hide D ∧ Ext ρ H ρ2 H' := by
  obtain ⟨lb, hid⟩ := ρ'
  have h : hid = D :: ρ.hid := e.hid
  exact ⟨⟨lb, ρ.hid⟩, by rw [h]; rfl, e.more, rfl, e.keep, e.dom⟩
/-- what is new since H1 may change -/
theorem Ext.wr {ρ ρ' : Rho} {H H' : Hp} {D : Addr} {o : HO} (e : Ext ρ H ρ' H') (h : H D = none) : Ext ρ H ρ' (upd H' D o) := ⟨e.more, e.hid, fun a u ha nt n => by
  rw [upd_ne (ne_of_none ha h)]
  exact e.keep a u ha nt n, fun a ha => by
  by_cases x : a = D
  · rw [x]; exact .of h
  · exact e.dom a fun o q => ha o (by rw [upd_ne x]; exact q)⟩
/-- what is made of a comprehension's items -/
def Fin (G : Gx) (E : XK) (fin : List PV → Store → R PV) (Q : VK) : Prop := ∀ ρ1 H1 ρ S1 S H D acc vs, H1 D = none → Rel G.w G.K ρ1 S1 H1 → Ext ρ1 H1 ρ H → Rel G.w G.K (ρ.hide D) S H → H D = some (.lst vs) → D ∉ ρ.lb → Reps G.K (ρ.hide D) H acc vs →
  Aft G E ρ1 H1 (fin acc S) (kV G Q) → Q (.ref D) H
theorem fin_ls {Q : VK} : Fin G E (fun xs S => R.ok (PV.ls xs) S) Q := by
  intro ρ1 H1 ρ2 S1 S2 H2 D acc vs hD hR1 e2 hR2 hD2 nD ra h2
  refine h2 ρ2 H2 e2 hR2.unhide _ ?_
  unfold Rep
  refine ⟨D, vs, rfl, ⟨hD2, nD, fun z => ?_⟩, Reps.unhide _ _ ra⟩
  rw [e2.hid] at z
  obtain ⟨⟨o, ho, _⟩, _⟩ := hR1.hd D z
  rw [hD] at ho; cases ho
theorem lc_readF {wi : TI} {tt : TT} {te : TE} {tg' : TG} {own : List Nat} {mt : XB} {me : XE} {fin : List PV → Store → R PV} {σ : L2.St} {H : Hp} {Q : VK} (hfin : Fin G E fin Q) (hw : ∀ σ H R, tII G E mi σ H R → wi σ H R) (hg : ∀ v σ H Q, tIG G E0 is g v σ H Q → tg' v σ H Q) (ht : ∀ σ H Q, tIB G E0 mt σ H Q → tt σ H Q) (he : ∀ σ H Q, tI G E0 me σ H Q → te σ H Q) (hown : ∀ i ∈ is, i ∈ own)
    (h : tI G E (fun env S => (xLc mi g mt me own env S).bind fin) σ H Q) : tLc wi tg' tt te own σ H Q := by
  obtain ⟨ρ, S, env, hR, hE, h⟩ := h
  have h : Aft G E ρ H ((mi env S).bind fun it S1 => ((match it.items S1 with | some all => lcGo it all g mt me (wipeE env own) all [] S1 | none => R.bad).bind fin)) (kV G Q) := by
    have e : ((xLc mi g mt me own env S).bind fin) = ((mi env S).bind fun it S1 => ((match it.items S1 with | some all => lcGo it all g mt me (wipeE env own) all [] S1 | none => R.bad).bind fin)) := by
      unfold xLc
      cases mi env S <;> rfl
    rw [← e]
    exact h
  refine hw _ _ _ ⟨ρ, S, env, hR, hE, h.step fun ρ1 S1 H1 it e1 hR1 h1 => ?_⟩
  cases ha : it.items S1 with
  | none => simp only [ha] at h1; exact h1.elim
  | some all =>
    simp only [ha] at h1
    refine ⟨⟨all, rfl⟩, fun J src => ?_⟩
    intro D hD
    refine ⟨fun i m H => ∃ ρ S acc vs, Ext ρ1 H1 ρ H ∧ Rel G.w G.K (ρ.hide D) S H ∧ H D = some (.lst vs) ∧ Reps G.K (ρ.hide D) H acc vs ∧ EnvR G.K (ρ.hide D) H (wipeE env own) (L2.wipe σ own) ∧ m = all.length - i ∧ i ≤ all.length ∧
      Aft G E ρ1 H1 ((lcGo it all g mt me (wipeE env own) (all.drop i) acc S).bind fin) (kV G Q), ?_, ?_⟩
    · refine ⟨all.length, ρ1, S1, [], [], Ext.new hD, hR1.hide hD, upd_same, Reps.nil, ?_, by simp, Nat.zero_le _, h1⟩
      have q := (hE.ext e1).wipe own
      exact ⟨q.len, fun i x hx => by
        obtain ⟨v, h2, h3⟩ := q.at_ i x hx
        exact ⟨v, h2, Rep.hide hD x v h3⟩⟩
    · rintro i m H2 ⟨ρ2, S2, acc, vs, e2, hR2, hD2, ra, hE2, rfl, hi2, h2⟩
      have hl := ra.length
      by_cases hlt : i < all.length
      · have hd : all.drop i = all[i] :: all.drop (i + 1) := List.drop_eq_getElem_cons hlt
        rw [hd] at h2
        unfold lcGo at h2
        split at h2
        · rename_i hit
          refine .inr ⟨src.go ρ2 (ρ2.hide D) S2 H2 all i e2 (.inr ⟨D, hD, rfl⟩) hR2 hit hlt, fun H' => ∃ ρ S acc vs, Ext ρ1 H1 ρ H' ∧ Rel G.w G.K (ρ.hide D) S H' ∧ H' D = some (.lst vs) ∧ Reps G.K (ρ.hide D) H' acc vs ∧ EnvR G.K (ρ.hide D) H' (wipeE env own) (L2.wipe σ own) ∧
            Aft G E ρ1 H1 ((lcGo it all g mt me (wipeE env own) (all.drop (i + 1)) acc S).bind fin) (kV G Q), ?_, ?_⟩
          · rintro H' ⟨ρ3, S3, acc3, vs3, e3, hR3, hD3, ra3, hE3, h3⟩
            exact ⟨all.length - (i + 1), by omega, ρ3, S3, acc3, vs3, e3, hR3, hD3, ra3, hE3, rfl, hlt, h3⟩
          · intro x H' yd
            obtain ⟨e3, hR3, y, hy, ry⟩ := src.yld ρ2 (ρ2.hide D) S2 H2 all i x H' e2 (.inr ⟨D, hD, rfl⟩) hR2 hit hlt yd
            rw [List.getElem?_eq_getElem hlt] at hy
            cases hy
            cases hg1 : g all[i] (wipeE env own) S2 with
            | exc _ _ => simp only [hg1] at h2; exact h2.elim
            | bad => simp only [hg1] at h2; exact h2.elim
            | ok env4 S4 =>
              simp only [hg1, R.nox_ok, R.bind_ok] at h2
              refine hg _ _ _ _ ⟨ρ2.hide D, S2, wipeE env own, all[i], hR3, hE2.ext e3, ry, ?_⟩
              rw [hg1]
              intro ρ4' H4 e4 hR4 σ4 hE4 w4
              obtain ⟨ρ4, rfl, f4⟩ := e4.ofHide
              refine ⟨(w4 own hown).trans (wipe_wipe σ own), ht _ _ _ ⟨ρ4.hide D, S4, env4, hR4, hE4, ?_⟩⟩
              cases ht1 : mt env4 S4 with
              | exc _ _ => simp only [ht1] at h2; exact h2.elim
              | bad => simp only [ht1] at h2; exact h2.elim
              | ok k S5 =>
                simp only [ht1, R.nox_ok, R.bind_ok] at h2
                intro ρ5' H5 e5 hR5
                obtain ⟨ρ5, rfl, f5⟩ := e5.ofHide
                have e35 : Ext (ρ2.hide D) H2 (ρ5.hide D) H5 := (e3.trans e4).trans e5
                obtain ⟨_, q5, f35⟩ := e35.ofHide
                cases k with
                | true =>
                  show te σ4 H5 _
                  simp only [if_true] at h2
                  cases he1 : me env4 S5 with
                  | exc _ _ => simp only [he1] at h2; exact h2.elim
                  | bad => simp only [he1] at h2; exact h2.elim
                  | ok z S6 =>
                    simp only [he1, R.nox_ok, R.bind_ok] at h2
                    refine he _ _ _ ⟨ρ5.hide D, S5, env4, hR5, hE4.ext e5, ?_⟩
                    rw [he1]
                    intro ρ6' H6 e6 hR6 u ru
                    obtain ⟨ρ6, rfl, f6⟩ := e6.ofHide
                    have e26 : Ext (ρ2.hide D) H2 (ρ6.hide D) H6 := e35.trans e6
                    have nD : D ∉ ρ2.lb := (hR2.hd D (List.mem_cons_self ..)).2
                    have hD6 : H6 D = some (.lst vs) := e26.keep D _ hD2 Plain.lst.1 nD
                    by_cases hlim : acc.length < lim
                    · rw [if_pos hlim] at h2
                      have mD : D ∈ (ρ6.hide D).hid := List.mem_cons_self ..
                      have e16 : Ext ρ1 H1 ρ6 H6 := by
                        refine ⟨?_, ?_, fun a o ha nt n => ?_, fun a ha => e2.dom a (e26.dom a ha)⟩
                        · exact (e2.trans (⟨e26.more, by have := e26.hid; simpa [Rho.hide] using this, e26.keep, e26.dom⟩ : Ext ρ2 H2 ρ6 H6)).more
                        · exact (e2.trans (⟨e26.more, by have := e26.hid; simpa [Rho.hide] using this, e26.keep, e26.dom⟩ : Ext ρ2 H2 ρ6 H6)).hid
                        · exact (e2.trans (⟨e26.more, by have := e26.hid; simpa [Rho.hide] using this, e26.keep, e26.dom⟩ : Ext ρ2 H2 ρ6 H6)).keep a o ha nt n
                      refine ⟨vs, hD6, by rw [← hl]; exact lim_lt hlim, ρ6, S6, acc ++ [z], vs ++ [u], e16.wr hD, hR6.hw mD, upd_same, ?_, ?_, h2⟩
                      · exact Reps.hw mD _ _ ((Reps.ext e26 _ _ ra).append (.cons ru .nil))
                      · have q := hE2.ext e26
                        exact ⟨q.len, fun i x hx => by
                          obtain ⟨v, h3, h4⟩ := q.at_ i x hx
                          exact ⟨v, h3, Rep.hw mD x v h4⟩⟩
                    · rw [if_neg hlim] at h2
                      exact h2.elim
                | false =>
                  simp only [Bool.false_eq_true, if_false] at h2
                  have nD : D ∉ ρ2.lb := (hR2.hd D (List.mem_cons_self ..)).2
                  exact ⟨ρ5, S5, acc, vs, e2.trans (⟨e35.more, by have := e35.hid; simpa [Rho.hide] using this, e35.keep, e35.dom⟩ : Ext ρ2 H2 ρ5 H5), hR5, e35.keep D _ hD2 Plain.lst.1 nD, Reps.ext e35 _ _ ra, hE2.ext e35, h2⟩
        · exact h2.elim
      · have e : i = all.length := by omega
        subst e
        rw [List.drop_length] at h2
        unfold lcGo at h2
        split at h2
        · rename_i hit
          have nD : D ∉ ρ2.lb := (hR2.hd D (List.mem_cons_self ..)).2
          refine .inl ⟨src.stop ρ2 (ρ2.hide D) S2 H2 all e2 (.inr ⟨D, hD, rfl⟩) hR2 hit, ?_⟩
          exact hfin ρ1 H1 ρ2 S1 S2 H2 D acc vs hD hR1 e2 hR2 hD2 nD ra h2
        · exact h2.elim
theorem lc_read {wi : TI} {tt : TT} {te : TE} {tg' : TG} {own : List Nat} {mt : XB} {me : XE} {σ : L2.St} {H : Hp} {Q : VK} (hw : ∀ σ H R, tII G E mi σ H R → wi σ H R) (hg : ∀ v σ H Q, tIG G E0 is g v σ H Q → tg' v σ H Q) (ht : ∀ σ H Q, tIB G E0 mt σ H Q → tt σ H Q) (he : ∀ σ H Q, tI G E0 me σ H Q → te σ H Q) (hown : ∀ i ∈ is, i ∈ own)
    (h : tI G E (eLc mi g mt me own) σ H Q) : tLc wi tg' tt te own σ H Q := lc_readF fin_ls hw hg ht he hown h
theorem _root_.L2.PTs.imp {X : Cx} {e : List Expr} {t u : TT} (h : PTs X e t) (m : ∀ σ H Q, u σ H Q → t σ H Q) : PTs X e u := ⟨fun pins s σ H Q I q => h.run pins s σ H Q I (m σ H Q q)⟩
theorem ts_nil : PTs X [] (tIB G E bYes) := pts_nil.imp fun σ H Q h => by
  obtain ⟨ρ, S, env, hR, hE, h⟩ := h
  exact h.ok hR
theorem ts_one {c : Expr} {t : XB} (h : PT X c (tIB G E t)) : PTs X [c] (tIB G E t) := pts_one h
theorem i_lc {elt tg iter : Expr} {ifs : List Expr} {scope : Scope} {own : List (Str × Nat)} {pos : Pos} {mt : XB} {me : XE} (hc : X.calm = true) (hN : X.N.Nodup) (hi : PI X tg iter (tII G E mi)) (ok : BlkOk X.N X.env.scope scope own)
    (hg : ∀ (s : Shared) (H : Hp) (C : Addr) (cl : List (Str × Addr)) (fp : List Addr), PG (X.blk s H scope (compEnvC scope cl C X.env) fp) tg (tIG G E0 is g)) (ht : ∀ (s : Shared) (H : Hp) (C : Addr) (cl : List (Str × Addr)) (fp : List Addr), PTs (X.blk s H scope (compEnvC scope cl C X.env) fp) ifs (tIB G E0 mt))
    (he : ∀ (s : Shared) (H : Hp) (C : Addr) (cl : List (Str × Addr)) (fp : List Addr), PE (X.blk s H scope (compEnvC scope cl C X.env) fp) elt (tI G E0 me)) (hown : ∀ i ∈ is, i ∈ own.map (·.2) := by decide) (hs : ∀ x, foldedSetIterable iter X.env x = pure x := by intro _; rfl) :
    PE X (.ListComp elt [⟨tg, iter, ifs, 0⟩] scope pos) (tI G E (eLc mi g mt me (own.map (·.2)))) :=
  (pe_lc hc hN hi ok hg ht he hs).imp fun σ H Q h => lc_read (fun _ _ _ q => q) (fun _ _ _ _ q => q) (fun _ _ _ q => q) (fun _ _ _ q => q) hown h
/-- name = [..] on one line, the name a local -/
theorem s_setLc {i : Nat} {y : Str} {py : Pos} {elt tg iter : Expr} {ifs : List Expr} {scope : Scope} {own : List (Str × Nat)} {pos spos : Pos} {mt : XB} {me : XE} (hc : X.calm = true) (hN : X.N.Nodup) (hy : X.N[i]? = some y) (hyl : X.env.scope.names.lookup y = some .local)
    (hsw : swapsWith (.ListComp elt [⟨tg, iter, ifs, 0⟩] scope pos) (some (.Name y py)) spos.line X.env = pure true) (hi : PI X tg iter (tII G E mi)) (ok : BlkOk X.N X.env.scope scope own)
    (hg : ∀ (s : Shared) (H : Hp) (C : Addr) (cl : List (Str × Addr)) (fp : List Addr), PG (X.blk s H scope (compEnvC scope cl C X.env) fp) tg (tIG G E0 is g)) (ht : ∀ (s : Shared) (H : Hp) (C : Addr) (cl : List (Str × Addr)) (fp : List Addr), PTs (X.blk s H scope (compEnvC scope cl C X.env) fp) ifs (tIB G E0 mt))
    (he : ∀ (s : Shared) (H : Hp) (C : Addr) (cl : List (Str × Addr)) (fp : List Addr), PE (X.blk s H scope (compEnvC scope cl C X.env) fp) elt (tI G E0 me)) (hown : ∀ i ∈ is, i ∈ own.map (·.2) := by decide) (hs : ∀ x, foldedSetIterable iter X.env x = pure x := by intro _; rfl) :
    PS X (.Assign [.Name y py] (.ListComp elt [⟨tg, iter, ifs, 0⟩] scope pos) spos) (tIS G E (sAsg (eLc mi g mt me (own.map (·.2))) (gNm i))) :=
  (ps_setLc hc hN hy hyl hsw hi ok hg ht he hs).imp fun D σ H h => by
    obtain ⟨ρ, S, env, hR, hE, h⟩ := h
    refine lc_read (Q := fun x H1 => gName i x σ H1 D.nx) (fun _ _ _ q => q) (fun _ _ _ _ q => q) (fun _ _ _ q => q) (fun _ _ _ q => q) hown ⟨ρ, S, env, hR, hE, h.step fun ρ1 S1 H1 x e1 hR1 h1 v rv => ?_⟩
    exact h1.ok hR1 _ ((hE.ext e1).set i rv)
end
end

/-! Mini5 -/
/-! Mini5: subscripts, displays, what is built in, stores, attributes. -/
section
open PySem L2
section
variable {w : World} {K : PySem.W.Frag} {ρ : Rho} {H : Hp}
theorem Reps.atI {xs : List PV} {vs : List V} (r : Reps K ρ H xs vs) {i : Int} {x : PV} (h : L2.atI xs i = some x) : ∃ v, L2.atI vs i = some v ∧ Rep K ρ H x v := by
  unfold L2.atI at h ⊢
  rw [← r.length]
  cases e : ixN xs.length i with
  | none => rw [e] at h; cases h
  | some j =>
    rw [e] at h
    exact r.get h
theorem keysV_look : ∀ {ks : List Str} {xs : List PV} {vs : List V}, Reps K ρ H xs vs → ks.length = xs.length → ∀ k, match lookS ks xs k with
    | some x => ∃ v, valV (keysV ks vs) (.inr k) = some v ∧ Rep K ρ H x v
    | none => valV (keysV ks vs) (.inr k) = none
  | [], [], _, r, _, k => by unfold Reps at r; subst r; rfl
  | k0 :: ks, x0 :: xs, _, r, hl, k => by
    obtain ⟨v, s, rfl, h1, h2⟩ := r.uncons
    have ih := keysV_look h2 (by simpa using hl) k
    have e : keysV (k0 :: ks) (v :: s) = (.inr k0, v) :: keysV ks s := rfl
    unfold lookS
    by_cases hk : k0 = k
    · subst hk
      rw [if_pos rfl, e]
      exact ⟨v, valV_pos rfl, h1⟩
    · rw [if_neg hk, e, valV_neg (fun z => hk (Sum.inr.inj z))]
      exact ih
  | [], _ :: _, _, _, hl, _ => by simp at hl
  | _ :: _, [], _, _, hl, _ => by simp at hl
theorem dks_of {S : Store} (q : Rel w K ρ S H) {x : PV} {v : V} {ks : List Str} {xs : List PV} (r : Rep K ρ H x v) (h : dksOf S x = some (ks, xs)) : ∃ a vs, v = .ref a ∧ Rd H a (.dK (keysV ks vs)) ∧ ks.length = xs.length ∧ Reps K ρ H xs vs := by
  cases x with
  | dc ks' ys =>
    unfold Rep at r
    obtain ⟨a, vs, rfl, ⟨h1, _⟩, hl, _, h2⟩ := r
    cases h
    exact ⟨a, vs, rfl, h1, hl, h2⟩
  | loc l =>
    unfold Rep at r
    obtain ⟨a, h1, rfl⟩ := r
    obtain ⟨c, hc, ca⟩ := q.cell h1
    simp only [dksOf, hc] at h
    cases c with
    | dks ks' ys =>
      cases h
      obtain ⟨vs, h1, hl, _, h2⟩ := ca
      exact ⟨a, vs, rfl, .inl h1, hl, h2⟩
    | _ => cases h
  | _ => cases h
end
section
variable {G : Gx} {E : XK} {X : Cx} {a b c e o i : Expr} {ma mb mc me mo mi : XE} {pos : Pos}
/-! ### o[i] -/
def rIxD1 : R2 := fun x y H Q => ∃ a v, x = .ref a ∧ DGet H a y (some v) ∧ Q v H
theorem ix_dict1 (hu : X.A.units + 1 < cLine) : IxR X rIxD1 := by
  rintro value slice pins s σ H x y _ u Q I rx ry ⟨a, r, rfl, g, q⟩ hs
  cases rx
  exact PyProof.Rows.tail_any (dict_typeIs I g) PySem.F.slot_dict_getitem.lookup (d_getItem hu I g ry fun w' s3 I3 rw' => ⟨r, H, I3, rw', q⟩) hs
def rIxU (K : PySem.W.Frag) : R2 := fun x y H Q => rIxL K x y H Q ∨ (rIxT K x y H Q ∨ rIxD1 x y H Q)
theorem sd_ix : Sd2 G E (rIxU G.K) oIx := fun ρ S H x y v u Q q rx ry h => by
  unfold oIx at h
  split at h
  · split at h
    · rename_i xs hx
      split at h
      · rename_i z hz
        obtain ⟨a, vs, rfl, h1, h2⟩ := seq_of q rx hx
        obtain ⟨w, hw, rw'⟩ := h2.atI hz
        rw [ry.int_of]
        rcases h1 with h1 | h1
        · exact .inl ⟨a, vs, _, w, rfl, rfl, h1, hw, h.ok q _ rw'⟩
        · exact .inr (.inl ⟨a, vs, _, w, rfl, rfl, h1, hw, h.ok q _ rw'⟩)
      · exact h.elim
    · exact h.elim
  · split at h
    · rename_i k _ ks vs hk
      split at h
      · rename_i z hz
        obtain ⟨p, us, rfl, hp, hl, hr⟩ := dks_of q rx hk
        have q1 := keysV_look hr hl k
        rw [hz] at q1
        obtain ⟨w, hw, rw'⟩ := q1
        rw [ry.str_of]
        exact .inr (.inr ⟨p, w, rfl, .inl ⟨_, .inr k, hp, rfl, hw.symm⟩, h.ok q _ rw'⟩)
      · exact h.elim
    · exact h.elim
  · exact h.elim
theorem i_ix (hu : X.A.units + 1 < cLine) (ha : PE X a (tI G E ma)) (hb : PE X b (tI G E mb)) (hs : PlainIx b := by intro _ _; rfl) (hK : X.K = G.K := by rfl) : PE X (.Subscript a b pos) (tI G E (eOp oIx ma mb)) :=
  (pe_ix (IxR.or ix_list (IxR.or ix_tup (ix_dict1 hu))) ha hb hs).imp fun σ H Q h => by
    obtain ⟨ρ, S, env, hR, hE, h⟩ := h
    rw [hK]
    exact two hR hE h fun ρ' S' H' x y v u e' hR' rv ru h' => sd_ix ρ' S' H' x y v u Q hR' rv ru h'
/-! ### slices -/
theorem Reps.cut {K : PySem.W.Frag} {ρ : Rho} {H : Hp} {xs : List PV} {vs : List V} (r : Reps K ρ H xs vs) (lo hi : Option Int) : Reps K ρ H (cut xs lo hi) (cutV vs lo hi) := by
  unfold LW.cut cutV
  rw [r.length]
  exact (r.drop _).take _
def rSlU (K : PySem.W.Frag) : V → Option Int → Option Int → Hp → VK → Prop := fun x lo hi H Q => rSlA K x lo hi H Q ∨ rSlL K x lo hi H Q
theorem sd_cut {ρ : Rho} {S : Store} {H : Hp} {x : PV} {v : V} {lo hi : Option Int} {Q : VK} (q : Rel G.w G.K ρ S H) (rx : Rep G.K ρ H x v) (h : Aft G E ρ H (oCut x lo hi S) (kV G Q)) : rSlU G.K v lo hi H Q := by
  cases x with
  | tup xs =>
    have rx' := rx
    unfold Rep at rx
    obtain ⟨a, vs, rfl, t1, r1⟩ := rx
    refine .inl ⟨a, vs, rfl, t1.sq, fun hw => ?_, fun _ => put_tup q (r1.cut lo hi) h⟩
    have e : cut xs lo hi = xs := by
      unfold cut
      rw [← r1.length] at hw
      rw [hw.1, hw.2, List.drop_zero, Nat.sub_zero, List.take_length]
    have h : Aft G E ρ H (.ok (.tup (cut xs lo hi)) S) (kV G Q) := h
    rw [e] at h
    exact h.ok q _ rx'
  | ls xs =>
    unfold Rep at rx
    obtain ⟨a, vs, rfl, ⟨h1, _⟩, h2⟩ := rx
    exact .inr ⟨a, vs, rfl, SqL.of h1, put_ls q (h2.cut lo hi) h⟩
  | loc l =>
    unfold Rep at rx
    obtain ⟨a, h1, rfl⟩ := rx
    obtain ⟨c, hc, ca⟩ := q.cell h1
    simp only [oCut, lstOf, hc] at h
    cases c with
    | lst ys =>
      obtain ⟨vs, h1, h2⟩ := ca
      exact .inr ⟨a, vs, rfl, SqL.of h1, put_ls q (h2.cut lo hi) h⟩
    | _ => exact h.elim
  | _ => exact h.elim
theorem _root_.L2.PO.imp {X : Cx} {e : Option Expr} {t u : TO} (h : PO X e t) (m : ∀ σ H Q, u σ H Q → t σ H Q) : PO X e u := ⟨fun pins s σ H Q I q => h.run pins s σ H Q I (m σ H Q q)⟩
def tIO (G : Gx) (E : XK) (m : Option XE) : TO := fun σ H Q => ∃ ρ S env, Rel G.w G.K ρ S H ∧ EnvR G.K ρ H env σ ∧ Aft G E ρ H (ePart m env S) (fun _ _ H' o => Q o H')
theorem o_none : PO X none (tIO G E none) := po_none.imp fun σ H Q h => by
  obtain ⟨ρ, S, env, hR, hE, h⟩ := h
  exact h.ok hR
theorem o_some (h : PE X e (tI G E me)) : PO X (some e) (tIO G E (some me)) := (po_some h).imp fun σ H Q h => by
  obtain ⟨ρ, S, env, hR, hE, h⟩ := h
  refine ⟨ρ, S, env, hR, hE, h.step fun ρ1 S1 H1 x e1 hR1 h1 v rv => ?_⟩
  split at h1
  · rw [rv.int_of]
    exact ⟨_, rfl, h1.ok hR1⟩
  · exact h1.elim
theorem i_cut {lo hi : Option Expr} {ml mh : Option XE} {p2 : Pos} (he : PE X e (tI G E me)) (hl : PO X lo (tIO G E ml)) (hh : PO X hi (tIO G E mh)) (hK : X.K = G.K := by rfl) : PE X (.Subscript e (.Slice lo hi none p2) pos) (tI G E (eCut me ml mh)) :=
  (pe_slice (SlR.or sl_tupA sl_list) he hl hh).imp fun σ H Q h => by
    obtain ⟨ρ, S, env, hR, hE, h⟩ := h
    rw [hK]
    refine ⟨ρ, S, env, hR, hE, h.step fun ρ1 S1 H1 x e1 hR1 h1 v rv => ?_⟩
    refine ⟨ρ1, S1, env, hR1, hE.ext e1, h1.step fun ρ2 S2 H2 i e2 hR2 h2 => ?_⟩
    refine ⟨ρ2, S2, env, hR2, (hE.ext e1).ext e2, h2.step fun ρ3 S3 H3 j e3 hR3 h3 => ?_⟩
    exact sd_cut hR3 (Rep.ext e3 _ _ (Rep.ext e2 _ _ rv)) h3
/-! ### displays -/
variable {es : List Expr} {ms : XA}
theorem i_tup {x1} (h : PA X es (tIA G E ms)) : PE X (.Tuple es x1 pos) (tI G E (eTup ms)) := (pe_tup h).imp fun σ H Q h => by
  obtain ⟨ρ, S, env, hR, hE, h⟩ := h
  refine ⟨ρ, S, env, hR, hE, h.step fun ρ1 S1 H1 xs e1 hR1 h1 vs rvs => ?_⟩
  split at h1
  · rename_i hl
    exact ⟨by rw [← rvs.length]; exact lim_le hl, put_tup hR1 rvs h1⟩
  · exact h1.elim
theorem i_ls (h : PA X es (tIA G E ms)) : PE X (.List es pos) (tI G E (eLs ms)) := (pe_lst h).imp fun σ H Q h => by
  obtain ⟨ρ, S, env, hR, hE, h⟩ := h
  refine ⟨ρ, S, env, hR, hE, h.step fun ρ1 S1 H1 xs e1 hR1 h1 vs rvs => ?_⟩
  split at h1
  · rename_i hl
    exact ⟨by rw [← rvs.length]; exact lim_le hl, put_ls hR1 rvs h1⟩
  · exact h1.elim
theorem i_new (h : PA X es (tIA G E ms)) : PE X (.List es pos) (tI G E (eNew ms)) := (pe_lst h).imp fun σ H Q h => by
  obtain ⟨ρ, S, env, hR, hE, h⟩ := h
  refine ⟨ρ, S, env, hR, hE, h.step fun ρ1 S1 H1 xs e1 hR1 h1 vs rvs => ?_⟩
  split at h1
  · rename_i hl
    exact ⟨by rw [← rvs.length]; exact lim_le hl, put_new hR1 rvs h1⟩
  · exact h1.elim
/-! ### what is built in -/
def SdB (G : Gx) (E : XK) (r : List V → Hp → VK → Prop) (f : Bf) : Prop := ∀ ρ S H xs vs Q, Rel G.w G.K ρ S H → Reps G.K ρ H xs vs → Aft G E ρ H (f xs S) (kV G Q) → r vs H Q
theorem tcb {r : List V → Hp → VK → Prop} {f : Bf} (sf : SdB G E r f) (σ : L2.St) (H : Hp) (Q : VK) (h : tI G E (eBf f ms) σ H Q) : tCB r (tIA G E ms) σ H Q := by
  obtain ⟨ρ, S, env, hR, hE, h⟩ := h
  exact ⟨ρ, S, env, hR, hE, h.step fun ρ1 S1 H1 xs e1 hR1 h1 vs rvs => sf ρ1 S1 H1 xs vs Q hR1 rvs h1⟩
theorem i_bf {x : Str} {p : Pos} {id : String} {r : List V → Hp → VK → Prop} {f : Bf} (hc : CallR X (.builtin id) r) (sf : SdB G E r f) (hg : Gl X x) (hm : X.mg x = none) (hv : bootBuiltins x = some (.builtin id)) (ha : PA X (e :: es) (tIA G E ms)) (hn : x ≠ "__name__" := by decide) (hdb : (x == ("__debug__" : Str)) = false := by decide)
    (he : starEach (e :: es) X.env = (false, eval e X.env) :: starEach es X.env := by rfl) (hpl : (backTo pos (starEach es X.env)).any (·.1) = false := by rfl) : PE X (.Call (.Name x p) (e :: es) [] pos) (tI G E (eBf f ms)) :=
  (pe_callB hc hg hm hv ha hn hdb he hpl).imp fun σ H Q h => tcb sf σ H Q h
theorem i_ty {x : Str} {p : Pos} {T : String} {r : List V → Hp → VK → Prop} {f : Bf} (hc : CallR X (.type T) r) (sf : SdB G E r f) (hg : Gl X x) (hm : X.mg x = none) (hv : bootBuiltins x = some (.type T)) (ha : PA X (e :: es) (tIA G E ms)) (hn : x ≠ "__name__" := by decide) (hdb : (x == ("__debug__" : Str)) = false := by decide)
    (he : starEach (e :: es) X.env = (false, eval e X.env) :: starEach es X.env := by rfl) (hpl : (backTo pos (starEach es X.env)).any (·.1) = false := by rfl) : PE X (.Call (.Name x p) (e :: es) [] pos) (tI G E (eBf f ms)) :=
  (pe_callTy hc hg hm hv ha hn hdb he hpl).imp fun σ H Q h => tcb sf σ H Q h
theorem one_of {K : PySem.W.Frag} {ρ : Rho} {H : Hp} {x : PV} {vs : List V} (r : Reps K ρ H [x] vs) : ∃ v, vs = [v] ∧ Rep K ρ H x v := by
  obtain ⟨v, s, rfl, h1, h2⟩ := r.uncons
  unfold Reps at h2
  exact ⟨v, by rw [h2], h1⟩
theorem two_of {K : PySem.W.Frag} {ρ : Rho} {H : Hp} {x y : PV} {vs : List V} (r : Reps K ρ H [x, y] vs) : ∃ v u, vs = [v, u] ∧ Rep K ρ H x v ∧ Rep K ρ H y u := by
  obtain ⟨v, s, rfl, h1, h2⟩ := r.uncons
  obtain ⟨u, rfl, h3⟩ := one_of h2
  exact ⟨v, u, rfl, h1, h3⟩
def rLenU (K : PySem.W.Frag) : List V → Hp → VK → Prop := fun xs H Q => ∃ p ys, xs = [.ref p] ∧ (SqL K H p ys ∨ SqT K H p ys) ∧ Q (.int ys.length) H
theorem call_lenU : CallR X (.builtin "len") (rLenU X.K) := call_len_seq
theorem sd_len : SdB G E (rLenU G.K) bLen := fun ρ S H xs vs Q q r h => by
  unfold bLen at h
  split at h
  · split at h
    · rename_i ys hy
      obtain ⟨v, rfl, r1⟩ := one_of r
      obtain ⟨a, us, rfl, h1, h2⟩ := seq_of q r1 hy
      refine ⟨a, us, rfl, h1, ?_⟩
      rw [← h2.length]
      exact h.ok q _ Rep.int
    · exact h.elim
  · exact h.elim
def rListU (K : PySem.W.Frag) : List V → Hp → VK → Prop := fun xs H Q => ∃ p ys, xs = [.ref p] ∧ (SqL K H p ys ∨ SqT K H p ys) ∧ ∀ l, H l = none → Q (.ref l) (upd H l (.lst ys))
theorem call_listU : CallR X (.type "list") (rListU X.K) := call_list_of
theorem sd_list : SdB G E (rListU G.K) bList := fun ρ S H xs vs Q q r h => by
  unfold bList at h
  split at h
  · split at h
    · rename_i ys hy
      obtain ⟨v, rfl, r1⟩ := one_of r
      obtain ⟨a, us, rfl, h1, h2⟩ := seq_of q r1 hy
      exact ⟨a, us, rfl, h1, put_ls q h2 h⟩
    · exact h.elim
  · exact h.elim
theorem sd_listN : SdB G E (rListU G.K) bListN := fun ρ S H xs vs Q q r h => by
  unfold bListN at h
  split at h
  · split at h
    · rename_i ys hy
      obtain ⟨v, rfl, r1⟩ := one_of r
      obtain ⟨a, us, rfl, h1, h2⟩ := seq_of q r1 hy
      exact ⟨a, us, rfl, h1, put_new q h2 h⟩
    · exact h.elim
  · exact h.elim
def rTupleU (K : PySem.W.Frag) : List V → Hp → VK → Prop := fun xs H Q => ∃ p ys, xs = [.ref p] ∧ ((SqL K H p ys ∧ ∀ l, H l = none → Q (.ref l) (upd H l (.tup ys))) ∨ (SqT K H p ys ∧ Q (.ref p) H))
theorem call_tupleU : CallR X (.type "tuple") (rTupleU X.K) := call_tuple_of
theorem sd_tuple : SdB G E (rTupleU G.K) bTuple := fun ρ S H xs vs Q q r h => by
  unfold bTuple at h
  split at h
  · split at h
    · rename_i x _ ys hy
      obtain ⟨v, rfl, r1⟩ := one_of r
      cases x with
      | tup zs =>
        cases hy
        have r2 := r1
        unfold Rep at r1
        obtain ⟨a, us, rfl, t1, r3⟩ := r1
        exact ⟨a, us, rfl, .inr ⟨t1.sq, h.ok q _ r2⟩⟩
      | ls zs =>
        cases hy
        unfold Rep at r1
        obtain ⟨a, us, rfl, ⟨h1, _⟩, r3⟩ := r1
        exact ⟨a, us, rfl, .inl ⟨SqL.of h1, put_tup q r3 h⟩⟩
      | fz zs =>
        cases hy
        unfold Rep at r1
        obtain ⟨a, us, rfl, h1, r3⟩ := r1
        exact ⟨a, us, rfl, .inl ⟨h1.sq, put_tup q r3 h⟩⟩
      | loc l =>
        unfold Rep at r1
        obtain ⟨a, h1, rfl⟩ := r1
        obtain ⟨c, hc, ca⟩ := q.cell h1
        simp only [seqOf, hc] at hy
        cases c with
        | lst zs =>
          cases hy
          obtain ⟨us, h2, r3⟩ := ca
          exact ⟨a, us, rfl, .inl ⟨SqL.of h2, put_tup q r3 h⟩⟩
        | _ => cases hy
      | _ => cases hy
    · exact h.elim
  · exact h.elim
def rStrU : List V → Hp → VK → Prop := fun xs H Q => ∃ i, xs = [.int i] ∧ i.natAbs.log2 < 1920 ∧ Q (.str (toString i : String)) H
theorem call_strU : CallR X (.type "str") rStrU := call_str_int
theorem sd_str : SdB G E rStrU bStr := fun ρ S H xs vs Q q r h => by
  unfold bStr at h
  split at h
  · split at h
    · rename_i i hl
      obtain ⟨v, rfl, r1⟩ := one_of r
      rw [r1.int_of]
      exact ⟨i, rfl, hl, h.ok q _ Rep.str⟩
    · exact h.elim
  · exact h.elim
def rIntU : List V → Hp → VK → Prop := fun xs H Q => (∃ i, xs = [.int i] ∧ Q (.int i) H) ∨ ∃ k, xs = [.bl k] ∧ Q (.int (if k then 1 else 0)) H
theorem call_intU : CallR X (.type "int") rIntU := call_int1
theorem sd_int : SdB G E rIntU bInt := fun ρ S H xs vs Q q r h => by
  unfold bInt at h
  split at h
  · obtain ⟨v, rfl, r1⟩ := one_of r
    rw [r1.int_of]
    exact .inl ⟨_, rfl, h.ok q _ Rep.int⟩
  · obtain ⟨v, rfl, r1⟩ := one_of r
    rw [r1.bl_of]
    exact .inr ⟨_, rfl, h.ok q _ Rep.int⟩
  · exact h.elim
def rMaxU : List V → Hp → VK → Prop := fun xs H Q => ∃ i j, xs = [.int i, .int j] ∧ Q (.int (if j > i then j else i)) H
theorem call_maxU (hc : X.calm = true) : CallR X (.builtin "max") rMaxU := call_max2 hc
theorem sd_max : SdB G E rMaxU bMax := fun ρ S H xs vs Q q r h => by
  unfold bMax at h
  split at h
  · obtain ⟨v, u, rfl, r1, r2⟩ := two_of r
    rw [r1.int_of, r2.int_of]
    exact ⟨_, _, rfl, h.ok q _ Rep.int⟩
  · exact h.elim
def rMinU : List V → Hp → VK → Prop := fun xs H Q => ∃ i j, xs = [.int i, .int j] ∧ Q (.int (if j < i then j else i)) H
theorem call_minU (hc : X.calm = true) : CallR X (.builtin "min") rMinU := call_min2 hc
theorem sd_min : SdB G E rMinU bMin := fun ρ S H xs vs Q q r h => by
  unfold bMin at h
  split at h
  · obtain ⟨v, u, rfl, r1, r2⟩ := two_of r
    rw [r1.int_of, r2.int_of]
    exact ⟨_, _, rfl, h.ok q _ Rep.int⟩
  · exact h.elim
theorem bools_of {K : PySem.W.Frag} {ρ : Rho} {H : Hp} : ∀ {xs : List PV} {vs : List V} {ks : List Bool}, Reps K ρ H xs vs → bools xs = some ks → vs = ks.map V.bl
  | [], _, _, r, h => by
    unfold Reps at r
    cases h
    exact r
  | x :: xs, _, ks, r, h => by
    obtain ⟨v, s, rfl, h1, h2⟩ := r.uncons
    cases x with
    | bl k =>
      unfold bools at h
      cases e : bools xs with
      | none => rw [e] at h; cases h
      | some js =>
        rw [e] at h
        cases h
        rw [h1.bl_of, bools_of h2 e]
        rfl
    | _ => cases h
/-- all, any: a list of truths -/
theorem sd_all : SdB G E (rAll G.K) bAll := fun ρ S H xs vs Q q r h => by
  unfold bAll at h
  split at h
  · rename_i x
    obtain ⟨v, rfl, r1⟩ := one_of r
    cases e : lstOf S x with
    | none => simp only [e, Option.bind] at h; exact h.elim
    | some ys =>
      simp only [e, Option.bind] at h
      split at h
      · rename_i ks hk
        obtain ⟨a, us, rfl, h1, h2⟩ := lst_of q r1 e
        have := bools_of h2 hk
        subst this
        exact ⟨a, ks, rfl, SqL.of h1, h.ok q _ Rep.bl⟩
      · exact h.elim
  · exact h.elim
theorem sd_any : SdB G E (rAny G.K) bAny := fun ρ S H xs vs Q q r h => by
  unfold bAny at h
  split at h
  · rename_i x
    obtain ⟨v, rfl, r1⟩ := one_of r
    cases e : lstOf S x with
    | none => simp only [e, Option.bind] at h; exact h.elim
    | some ys =>
      simp only [e, Option.bind] at h
      split at h
      · rename_i ks hk
        obtain ⟨a, us, rfl, h1, h2⟩ := lst_of q r1 e
        have := bools_of h2 hk
        subst this
        exact ⟨a, ks, rfl, SqL.of h1, h.ok q _ Rep.bl⟩
      · exact h.elim
  · exact h.elim
end
end

/-! Mini6 -/
/-! Mini6: isinstance, dicts with texts as keys, stores, attributes, methods of lists. -/
section
open PySem L2
section
variable {G : Gx} {E : XK} {X : Cx} {a b c e o i : Expr} {ma mb mc me mo mi : XE} {pos : Pos}
/-! ### isinstance -/
def Ty.name : Ty → String
  | .int => "int"
  | .bool => "bool"
  | .str => "str"
  | .tuple => "tuple"
  | .list => "list"
theorem tyx_of {ρ : Rho} {S : Store} {H : Hp} (q : Rel G.w G.K ρ S H) {x : PV} {v : V} {t0 : Ty} {k0 : Bool} (r : Rep G.K ρ H x v) (h : isTy S x t0 = some k0) : ∃ n, TyX G.K H v (.type n) ∧ ∀ t k, isTy S x t = some k → kitB n t.name = some k := by
  cases x with
  | non => rw [r.non_of]; exact ⟨_, .base .non, fun t k e => by cases e; cases t <;> decide +kernel⟩
  | bl y => rw [r.bl_of]; exact ⟨_, .base (.bl y), fun t k e => by cases e; cases t <;> decide +kernel⟩
  | int y => rw [r.int_of]; exact ⟨_, .base (.int y), fun t k e => by cases e; cases t <;> decide +kernel⟩
  | str y => rw [r.str_of]; exact ⟨_, .base (.str y), fun t k e => by cases e; cases t <;> decide +kernel⟩
  | tup xs =>
    unfold Rep at r
    obtain ⟨p, vs, rfl, h1, _⟩ := r
    rcases h1 with ⟨h1 | ⟨ob, h1⟩, _⟩ | ⟨ob, its, n, h1, h2, _⟩
    · exact ⟨_, .base (.tup h1), fun t k e => by cases e; cases t <;> decide +kernel⟩
    · exact ⟨_, .fTuple h1, fun t k e => by cases e; cases t <;> decide +kernel⟩
    · exact ⟨_, .kTuple h1 h2, fun t k e => by cases e; cases t <;> decide +kernel⟩
  | ls xs =>
    unfold Rep at r
    obtain ⟨p, vs, rfl, ⟨h1, _⟩, _⟩ := r
    exact ⟨_, .base (.lst h1), fun t k e => by cases e; cases t <;> decide +kernel⟩
  | fz xs =>
    unfold Rep at r
    obtain ⟨p, vs, rfl, h1, _⟩ := r
    rcases h1 with ⟨h1 | ⟨ob, h1⟩, _⟩ | ⟨ob, its, n, h1, h2, _⟩
    · exact ⟨_, .base (.lst h1), fun t k e => by cases e; cases t <;> decide +kernel⟩
    · exact ⟨_, .base (.frz h1), fun t k e => by cases e; cases t <;> decide +kernel⟩
    · exact ⟨_, .kList h1 h2, fun t k e => by cases e; cases t <;> decide +kernel⟩
  | dc ks xs => cases h
  | loc l =>
    unfold Rep at r
    obtain ⟨p, h1, rfl⟩ := r
    obtain ⟨c, hc, ca⟩ := q.cell h1
    simp only [isTy, hc] at h
    cases c with
    | lst ys =>
      obtain ⟨vs, h2, _⟩ := ca
      exact ⟨_, .base (.lst h2), fun t k e => by simp only [isTy, hc] at e; cases e; cases t <;> decide +kernel⟩
    | _ => cases h
theorem i_isa {t : Ty} {p p2 : Pos} {T : Str} (hg : Gl X "isinstance") (hm : X.mg "isinstance" = none) (hgT : Gl X T) (hmT : X.mg T = none) (hT : bootBuiltins T = some (.type t.name)) (ha : PE X a (tI G E ma)) (hK : X.K = G.K := by rfl)
    (hn : T ≠ "__name__" := by decide) (hd : (T == ("__debug__" : Str)) = false := by decide) (he : starEach [a, .Name T p2] X.env = (false, eval a X.env) :: starEach [.Name T p2] X.env := by rfl) (hs : starEach [.Name T p2] X.env = (false, eval (.Name T p2) X.env) :: starEach [] X.env := by rfl)
    (hpl : (backTo pos (starEach [.Name T p2] X.env)).any (·.1) = false := by rfl) : PE X (.Call (.Name "isinstance" p) [a, .Name T p2] [] pos) (tI G E (eIsa t ma)) :=
  (pe_callB call_isi hg hm (by decide +kernel) (pa_cons ha (pa_cons (pe_bltn (v := .ty t.name) hgT hmT hT rfl hn hd) pa_nil hs) he) (by decide) (by decide) he hpl).imp fun σ H Q h => by
    obtain ⟨ρ, S, env, hR, hE, h⟩ := h
    refine ⟨ρ, S, env, hR, hE, h.step fun ρ1 S1 H1 x e1 hR1 h1 v rv => ?_⟩
    split at h1
    · rename_i k hk
      obtain ⟨n, h2, h3⟩ := tyx_of hR1 rv hk
      rw [hK]
      exact ⟨v, .ty t.name, .type n, .type t.name, k, rfl, .ty _, h2, kit_ty (h3 t k hk), h1.ok hR1 _ Rep.bl⟩
    · exact h1.elim
/-- isinstance(x, (T, U)) -/
theorem i_isa2 {t u : Ty} {p p2 p3 p4 : Pos} {k4} {T U : Str} (hg : Gl X "isinstance") (hm : X.mg "isinstance" = none) (hgT : Gl X T) (hmT : X.mg T = none) (hT : bootBuiltins T = some (.type t.name)) (hgU : Gl X U) (hmU : X.mg U = none) (hU : bootBuiltins U = some (.type u.name)) (ha : PE X a (tI G E ma)) (hK : X.K = G.K := by rfl)
    (hn : T ≠ "__name__" := by decide) (hd : (T == ("__debug__" : Str)) = false := by decide) (hn2 : U ≠ "__name__" := by decide) (hd2 : (U == ("__debug__" : Str)) = false := by decide)
    (he : starEach [a, .Tuple [.Name T p2, .Name U p3] k4 p4] X.env = (false, eval a X.env) :: starEach [.Tuple [.Name T p2, .Name U p3] k4 p4] X.env := by rfl) (hs : starEach [.Tuple [.Name T p2, .Name U p3] k4 p4] X.env = (false, eval (.Tuple [.Name T p2, .Name U p3] k4 p4) X.env) :: starEach [] X.env := by rfl)
    (hs2 : starEach [.Name T p2, .Name U p3] X.env = (false, eval (.Name T p2) X.env) :: starEach [.Name U p3] X.env := by rfl) (hs3 : starEach [.Name U p3] X.env = (false, eval (.Name U p3) X.env) :: starEach [] X.env := by rfl)
    (hpl : (backTo pos (starEach [.Tuple [.Name T p2, .Name U p3] k4 p4] X.env)).any (·.1) = false := by rfl) : PE X (.Call (.Name "isinstance" p) [a, .Tuple [.Name T p2, .Name U p3] k4 p4] [] pos) (tI G E (eIsa2 t u ma)) :=
  (pe_callB call_isiT hg hm (by decide +kernel) (pa_cons ha (pa_cons (pe_tup (pa_cons (pe_bltn (v := .ty t.name) hgT hmT hT rfl hn hd) (pa_cons (pe_bltn (v := .ty u.name) hgU hmU hU rfl hn2 hd2) pa_nil hs3) hs2)) pa_nil hs) he) (by decide) (by decide) he hpl).imp fun σ H Q h => by
    obtain ⟨ρ, S, env, hR, hE, h⟩ := h
    refine ⟨ρ, S, env, hR, hE, h.step fun ρ1 S1 H1 x e1 hR1 h1 v rv => ?_⟩
    refine ⟨by show 2 ≤ sizeLine; decide, fun tp ht => ?_⟩
    split at h1
    · rename_i k j hk hj
      have e2 : Ext ρ1 H1 ρ1 (upd H1 tp (.tup [.ty t.name, .ty u.name])) := Ext.new ht
      have rv2 := Rep.ext e2 x v rv
      obtain ⟨n, h2, h3⟩ := tyx_of (hR1.new ht) rv2 hk
      rw [hK]
      have hq : Q (.bl (k || j)) (upd H1 tp (.tup [.ty t.name, .ty u.name])) := h1 ρ1 _ e2 (hR1.new ht) _ Rep.bl
      refine ⟨v, tp, [.ty t.name, .ty u.name], .type n, [.type t.name, .type u.name], k || j, rfl, upd_same, .cons (.ty _) (.cons (.ty _) .nil), h2, ?_, hq⟩
      refine kitAny_cons (kit_ty (h3 t k hk)) (fun e => ?_) (fun e => by rw [e]; rfl)
      rw [e, Bool.false_or]
      refine kitAny_cons (kit_ty (h3 u j hj)) (fun e => ?_) (fun e => by rw [e])
      rw [e]
      rfl
    · exact h1.elim
/-! ### dicts with texts as keys -/
theorem i_get1 {apos cpos : Pos} (hu : X.A.units + 1 < cLine) (ho : PE X o (tI G E mo)) (he : PE X e (tI G E me)) (m : M1 X o "get" apos e cpos) : PE X (.Call (.Attribute o "get" apos) [e] [] cpos) (tI G E (eGet1 mo me)) :=
  (pe_dget1 hu ho he m).imp fun σ H Q h => by
    obtain ⟨ρ, S, env, hR, hE, h⟩ := h
    refine ⟨ρ, S, env, hR, hE, h.step fun ρ1 S1 H1 x e1 hR1 h1 v rv => ?_⟩
    split at h1
    · exact h1.elim
    · rename_i kv hkv
      obtain ⟨p, us, rfl, hp, hl, hr⟩ := dks_of hR1 rv hkv
      refine ⟨p, rfl, .inl ⟨_, hp⟩, ρ1, S1, env, hR1, hE.ext e1, h1.step fun ρ2 S2 H2 y e2 hR2 h2 u ru => ?_⟩
      split at h2
      · rename_i k ks vs hk
        obtain ⟨p', us', e', hp', hl', hr'⟩ := dks_of hR2 (Rep.ext e2 _ _ rv) hk
        cases e'
        rw [ru.str_of]
        refine ⟨_, .inl ⟨_, .inr k, hp', rfl, rfl⟩, ?_⟩
        have q := keysV_look hr' hl' k
        cases hz : lookS ks vs k with
        | none =>
          rw [hz] at q h2
          rw [q]
          exact h2.ok hR2 _ Rep.non
        | some z =>
          rw [hz] at q h2
          obtain ⟨w, hw, rw'⟩ := q
          rw [hw]
          exact h2.ok hR2 _ rw'
      · exact h2.elim
theorem i_get2 {f : Expr} {mf : XE} {apos cpos : Pos} (hu : X.A.units + 1 < cLine) (ho : PE X o (tI G E mo)) (he : PE X e (tI G E me)) (hf : PE X f (tI G E mf)) (m : M2 X o "get" apos e f cpos) : PE X (.Call (.Attribute o "get" apos) [e, f] [] cpos) (tI G E (eGet2 mo me mf)) :=
  (pe_dget2 hu ho he hf m).imp fun σ H Q h => by
    obtain ⟨ρ, S, env, hR, hE, h⟩ := h
    refine ⟨ρ, S, env, hR, hE, h.step fun ρ1 S1 H1 x e1 hR1 h1 v rv => ?_⟩
    split at h1
    · exact h1.elim
    · rename_i kv hkv
      obtain ⟨p, us, rfl, hp, hl, hr⟩ := dks_of hR1 rv hkv
      refine ⟨p, rfl, .inl ⟨_, hp⟩, ρ1, S1, env, hR1, hE.ext e1, h1.step fun ρ2 S2 H2 y e2 hR2 h2 u ru => ?_⟩
      refine ⟨ρ2, S2, env, hR2, (hE.ext e1).ext e2, h2.step fun ρ3 S3 H3 z e3 hR3 h3 w rw' => ?_⟩
      split at h3
      · rename_i k ks vs hk
        obtain ⟨p', us', e', hp', hl', hr'⟩ := dks_of hR3 (Rep.ext e3 _ _ (Rep.ext e2 _ _ rv)) hk
        cases e'
        rw [(Rep.ext e3 _ _ ru).str_of]
        refine ⟨_, .inl ⟨_, .inr k, hp', rfl, rfl⟩, ?_⟩
        have q := keysV_look hr' hl' k
        cases hz : lookS ks vs k with
        | none =>
          rw [hz] at q h3
          rw [q]
          exact h3.ok hR3 _ rw'
        | some z =>
          rw [hz] at q h3
          obtain ⟨w, hw, rw2⟩ := q
          rw [hw]
          exact h3.ok hR3 _ rw2
      · exact h3.elim
end
section
open PySem PySem.Spec PyProof.Rows
variable {X : Cx} {e : Expr}
/-- .. of a dict that the module's top has made -/
def tKGet (es : Array DictEntry) (ty : TE) : TE := fun σ H Q => ty σ H fun y H1 => ∃ k, y = .str k ∧ ∀ v, RelV v ((PySem.findBy Value.isStrOf es k).getD .none) → Q v H1
theorem pe_kget {x : Str} {p apos cpos : Pos} {a : Addr} {es : Array DictEntry} {n : Nat} {ty : TE} (hg : Gl X x) (hm : X.mg x = some (.ref a)) (hl : X.K.lookup a = some ⟨.type "dict", none, .dict es n, #[]⟩) (hk : PySem.W.KeysLit X.w.params es.toList) (hs : (a == sysModules) = false)
    (he : PE X e ty) (m : M1 X (.Name x p) "get" apos e cpos) (hd : (x == ("__debug__" : Str)) = false := by decide) (hv : ∀ k, ∃ v, RelV v ((PySem.findBy Value.isStrOf es k).getD .none)) : PE X (.Call (.Attribute (.Name x p) "get" apos) [e] [] cpos) (tKGet es ty) := by
  refine ⟨fun pins s σ H Q I h => ?_⟩
  refine wpAny_Call_method m.base m.few m.line PySem.F.plainAttrs_dict PySem.F.slot_dict_get PySem.F.type_dict_get (ld_glob I hg hm ?_ hd)
  have hM := PySem.W.mapOf_K (prog := X.prog) (w := X.w) I.kIn hl hk
  refine ⟨hM.typeIs, fun b q => ?_, ?_⟩
  · cases q
    exact ⟨_, I.kIn _ _ hl, rfl⟩
  · rw [m.trees]
    refine Calls.callWith_builtin rfl (Calls.evalArgs_plain (Calls.spliced_cons (thn (he.run pins s σ H _ I h) fun iv s2 ⟨y, H2, I2, ry, k, ey, q2⟩ => Calls.spliced_nil ?_)))
    subst ey
    obtain ⟨t, rfl⟩ := (show ∃ t, iv = Value.str k t from ry)
    have hM2 := PySem.W.mapOf_K (prog := X.prog) (w := X.w) I2.kIn hl hk
    obtain ⟨v, hv⟩ := hv k
    refine call_meetsIn PySem.F.slot_dict_get hM2.typeIs PySem.F.entry_dict_get (PySem.F.args_dict_get_2 _ _) (meets_dict_get (strKind X.prog X.w) a (strKind_is X.prog X.w k t) hs) ⟨_, hM2, ⟨v, H2, I2.tok _, hv, q2 v hv⟩⟩
end
end

/-! Mini7 -/
/-! Mini7: a dict of the top, dicts written out, stores, attributes, methods of lists. -/
section
open PySem L2
section
variable {w : World} {K : PySem.W.Frag} {ρ : Rho} {H : Hp} {S : Store}
theorem Out.adopt {p a : Addr} (h : (ρ.hide p).Out a) : (ρ.add p).Out a := by
  refine ⟨fun z => ?_, fun z => h.2 (List.mem_cons_of_mem _ z)⟩
  rcases List.mem_append.mp (show a ∈ ρ.lb ++ [p] from z) with z | z
  · exact h.1 z
  · exact h.2 (by rw [List.mem_singleton.mp z]; exact List.mem_cons_self)
mutual
theorem Rep.adopt {p : Addr} : ∀ (x : PV) (v : V), Rep K (ρ.hide p) H x v → Rep K (ρ.add p) H x v
  | .non, _, h => by unfold Rep at h ⊢; exact h
  | .bl _, _, h => by unfold Rep at h ⊢; exact h
  | .int _, _, h => by unfold Rep at h ⊢; exact h
  | .str _, _, h => by unfold Rep at h ⊢; exact h
  | .tup xs, v, h => by
    unfold Rep at h ⊢
    obtain ⟨a, vs, rfl, h1, h3⟩ := h
    refine ⟨a, vs, rfl, ?_, Reps.adopt xs vs h3⟩
    rcases h1 with ⟨h1, h2⟩ | h1
    · exact .inl ⟨h1, Out.adopt h2⟩
    · exact .inr h1
  | .ls xs, v, h => by
    unfold Rep at h ⊢
    obtain ⟨a, vs, rfl, ⟨h1, h2⟩, h3⟩ := h
    exact ⟨a, vs, rfl, ⟨h1, Out.adopt h2⟩, Reps.adopt xs vs h3⟩
  | .fz xs, v, h => by
    unfold Rep at h ⊢
    obtain ⟨a, vs, rfl, h1, h3⟩ := h
    refine ⟨a, vs, rfl, ?_, Reps.adopt xs vs h3⟩
    rcases h1 with ⟨h1, h2⟩ | h1
    · exact .inl ⟨h1, Out.adopt h2⟩
    · exact .inr h1
  | .dc ks xs, v, h => by
    unfold Rep at h ⊢
    obtain ⟨a, vs, rfl, ⟨h1, h2⟩, hl, hn, h3⟩ := h
    exact ⟨a, vs, rfl, ⟨h1, Out.adopt h2⟩, hl, hn, Reps.adopt xs vs h3⟩
  | .loc l, v, h => by
    unfold Rep at h ⊢
    obtain ⟨a, h1, rfl⟩ := h
    have h1 : ρ.lb[l]? = some a := h1
    refine ⟨a, ?_, rfl⟩
    show (ρ.lb ++ [p])[l]? = some a
    rw [List.getElem?_append_left (List.getElem?_eq_some_iff.mp h1).1]
    exact h1
theorem Reps.adopt {p : Addr} : ∀ (xs : List PV) (vs : List V), Reps K (ρ.hide p) H xs vs → Reps K (ρ.add p) H xs vs
  | [], _, h => by unfold Reps at h ⊢; exact h
  | x :: r, vs, h => by
    unfold Reps at h ⊢
    obtain ⟨v, s, rfl, h1, h2⟩ := h
    exact ⟨v, s, rfl, Rep.adopt x v h1, Reps.adopt r s h2⟩
end
theorem Flds.adopt {p : Addr} : ∀ {fs : List (Str × PV)} {gs : List (Str × V)}, Flds K (ρ.hide p) H fs gs → Flds K (ρ.add p) H fs gs
  | [], _, h => h
  | (f, x) :: r, _, h => by
    obtain ⟨v, s, rfl, h1, h2⟩ := h
    exact ⟨v, s, rfl, Rep.adopt x v h1, Flds.adopt h2⟩
/-- what was hidden joins the store -/
theorem Rel.adopt {p : Addr} {c : Cell} (q : Rel w K (ρ.hide p) S H) (nh : p ∉ ρ.hid) (hc : CellAt w K (ρ.add p) H c p) : Rel w K (ρ.add p) (S ++ [c]) H := by
  have np : p ∉ ρ.lb := (q.hd p (List.mem_cons_self ..)).2
  refine ⟨by simp [Rho.add]; exact q.len, ?_, fun l d a h1 h2 => ?_, fun a ha => ?_, q.tabs⟩
  · show (ρ.lb ++ [p]).Nodup
    rw [List.nodup_append]
    exact ⟨q.nd, by simp, fun a ha b hb e => np (by rw [List.mem_singleton.mp hb] at e; exact e ▸ ha)⟩
  · have h2 : (ρ.lb ++ [p])[l]? = some a := h2
    have ql : ρ.lb.length = S.length := q.len
    by_cases hl : l < S.length
    · rw [List.getElem?_append_left hl] at h1
      rw [List.getElem?_append_left (by rw [ql]; exact hl)] at h2
      have c1 := q.at_ l d a h1 h2
      cases d with
      | lst xs => obtain ⟨vs, h1, h2⟩ := c1; exact ⟨vs, h1, Reps.adopt _ _ h2⟩
      | dks ks xs => obtain ⟨vs, h1, h2, h3, h4⟩ := c1; exact ⟨vs, h1, h2, h3, Reps.adopt _ _ h4⟩
      | dkn ks xs => obtain ⟨kvs, h1, h2⟩ := c1; exact ⟨kvs, h1, h2.imp (fun x v _ _ => Rep.adopt x v) fun x v _ => Rep.adopt x v⟩
      | ins C fs => obtain ⟨dx, gs, h1, h2, h3, h4⟩ := c1; exact ⟨dx, gs, h1, h2, Out.adopt h3, Flds.adopt h4⟩
    · have e : l = S.length := by
        have := (List.getElem?_eq_some_iff.mp h1).1
        rw [List.length_append] at this
        simp at this
        omega
      subst e
      rw [List.getElem?_append_right (Nat.le_refl _)] at h1
      rw [List.getElem?_append_right (by rw [ql]; exact Nat.le_refl _)] at h2
      simp [ql] at h1 h2
      subst h1 h2
      exact hc
  · obtain ⟨⟨u, hu⟩, n⟩ := q.hd a (List.mem_cons_of_mem _ ha)
    refine ⟨⟨u, hu⟩, fun z => ?_⟩
    rcases List.mem_append.mp (show a ∈ ρ.lb ++ [p] from z) with z | z
    · exact n z
    · exact nh (by rw [← List.mem_singleton.mp z]; exact ha)
theorem Ext.adopt {ρ' : Rho} {H' : Hp} {p : Addr} (e : Ext ρ H ρ' H') (hp : H p = none) : Ext ρ H (ρ'.add p) H' := by
  obtain ⟨m, em, hm⟩ := e.more
  refine ⟨⟨m ++ [p], by show ρ'.lb ++ [p] = _; rw [em, List.append_assoc], fun a ha => ?_⟩, e.hid, e.keep, e.dom⟩
  rcases List.mem_append.mp ha with z | z
  · exact hm a z
  · rw [List.mem_singleton.mp z]; exact .of hp
end
section
variable {G : Gx} {E : XK} {X : Cx} {a b c e o i : Expr} {ma mb mc me mo mi : XE} {pos : Pos}
/-- the table of a dict of the top -/
def Tab (K : PySem.W.Frag) (es : Array DictEntry) (ks : List Str) (xs : List PV) : Prop := ∀ k, ∃ v, RelV v ((PySem.findBy Value.isStrOf es k).getD .none) ∧ ∀ ρ H, Rep K ρ H ((lookS ks xs k).getD .non) v
theorem relV_inj {x y : V} {u : Value} (r : RelV x u) (q : RelV y u) : x = y := r.inj q
theorem i_kget {x : Str} {p apos cpos : Pos} {a : Addr} {es : Array DictEntry} {n : Nat} {ks : List Str} {xs : List PV} (hg : Gl X x) (hm : X.mg x = some (.ref a)) (hl : X.K.lookup a = some ⟨.type "dict", none, .dict es n, #[]⟩) (hk : PySem.W.KeysLit X.w.params es.toList) (hs : (a == sysModules) = false)
    (hv : Tab G.K es ks xs) (he : PE X e (tI G E me)) (m : M1 X (.Name x p) "get" apos e cpos) (hd : (x == ("__debug__" : Str)) = false := by decide) : PE X (.Call (.Attribute (.Name x p) "get" apos) [e] [] cpos) (tI G E (eGetS ks xs me)) :=
  (pe_kget hg hm hl hk hs he m hd (fun k => let ⟨v, h, _⟩ := hv k; ⟨v, h⟩)).imp fun σ H Q h => by
    obtain ⟨ρ, S, env, hR, hE, h⟩ := h
    refine ⟨ρ, S, env, hR, hE, h.step fun ρ1 S1 H1 y e1 hR1 h1 u ru => ?_⟩
    split at h1
    · rename_i k
      refine ⟨k, ru.str_of, fun v rv => ?_⟩
      obtain ⟨v', rv', hr⟩ := hv k
      rw [relV_inj rv rv']
      exact h1.ok hR1 _ (hr ρ1 H1)
    · exact h1.elim
/-! ### a dict written out -/
theorem keysV_any : ∀ {ks : List Str} {vs : List V} {k : Str}, k ∉ ks → ((keysV ks vs).any fun kv => decide (kv.1 = (.inr k : Key))) = false
  | [], _, _, _ => rfl
  | _ :: _, [], _, _ => rfl
  | k0 :: ks, v :: vs, k, h => by
    have e : keysV (k0 :: ks) (v :: vs) = (.inr k0, v) :: keysV ks vs := rfl
    rw [e, List.any_cons, keysV_any (fun z => h (List.mem_cons_of_mem _ z)), Bool.or_false]
    exact decide_eq_false fun z => h (by rw [← Sum.inr.inj z]; exact List.mem_cons_self)
theorem keysV_append : ∀ {ks js : List Str} {vs us : List V}, ks.length = vs.length → keysV (ks ++ js) (vs ++ us) = keysV ks vs ++ keysV js us
  | [], _, [], _, _ => rfl
  | k :: ks, js, v :: vs, us, h => by
    show (.inr k, v) :: keysV (ks ++ js) (vs ++ us) = (.inr k, v) :: (keysV ks vs ++ keysV js us)
    rw [keysV_append (by simpa using h)]
  | [], _, _ :: _, _, h => by simp at h
  | _ :: _, _, [], _, h => by simp at h
theorem merge_keys : ∀ (js : List Str) (us : List V) (ks : List Str) (vs : List V), (ks ++ js).Nodup → ks.length = vs.length → js.length = us.length → mergeK (keysV ks vs) (keysV js us) = keysV (ks ++ js) (vs ++ us)
  | [], us, ks, vs, _, hl, h2 => by
    have : us = [] := List.eq_nil_of_length_eq_zero h2.symm
    subst this
    simp [keysV, mergeK]
  | j :: js, u :: us, ks, vs, hn, hl, h2 => by
    have e : keysV (j :: js) (u :: us) = (.inr j, u) :: keysV js us := rfl
    have nj : j ∉ ks := fun z => by
      rw [List.nodup_append] at hn
      exact hn.2.2 j z j (List.mem_cons_self) rfl
    have e2 : mergeK (keysV ks vs) ((.inr j, u) :: keysV js us) = mergeK (putK (keysV ks vs) (.inr j) u) (keysV js us) := rfl
    rw [e, e2]
    have e3 : putK (keysV ks vs) (.inr j : Key) u = keysV (ks ++ [j]) (vs ++ [u]) := by
      unfold putK
      rw [if_neg (by rw [keysV_any nj]; exact Bool.false_ne_true), keysV_append hl]
      rfl
    rw [e3, merge_keys js us (ks ++ [j]) (vs ++ [u]) (by rw [List.append_assoc]; exact hn) (by simp [hl]) (by simpa using h2)]
    rw [List.append_assoc, List.append_assoc]
    rfl
  | _ :: _, [], _, _, _, _, h => by simp at h
/-- pairs with written keys -/
structure PDs (G : Gx) (E : XK) (X : Cx) (pos : Pos) (keys : List (Option Expr)) (values : List Expr) (ks : List Str) (ms : XA) : Prop where
  it : ∃ trs, PPs X pos keys values trs ∧ ∀ σ H Q, (∃ ρ S env, Rel G.w G.K ρ S H ∧ EnvR G.K ρ H env σ ∧ Aft G E ρ H (ms env S) (fun ρ' _ H' xs => ∀ vs, Reps G.K ρ' H' xs vs → xs.length = ks.length → Q ((ks.zip vs).map fun p => (V.str p.1, p.2)) H')) → tPairs trs σ H Q
theorem d_nil : PDs G E X pos [] [] [] aNil := ⟨⟨[], pps_nil, fun σ H Q ⟨ρ, S, env, hR, hE, h⟩ => h.ok hR [] Reps.nil rfl⟩⟩
theorem d_cons {k : Str} {kj kp} {v : Expr} {mv : XE} {keys : List (Option Expr)} {values : List Expr} {ks : List Str} {ms : XA} (hv : PE X v (tI G E mv)) (hr : PDs G E X pos keys values ks ms) : PDs G E X pos (some (.Constant (.str k) kj kp) :: keys) (v :: values) (k :: ks) (aCons mv ms) := by
  obtain ⟨trs, h1, h2⟩ := hr.it
  refine ⟨⟨_, pps_cons pe_str hv h1, fun σ H Q ⟨ρ, S, env, hR, hE, h⟩ => ?_⟩⟩
  refine ⟨ρ, S, env, hR, hE, h.step fun ρ1 S1 H1 x e1 hR1 h1 u ru => ?_⟩
  refine h2 _ _ _ ⟨ρ1, S1, env, hR1, hE.ext e1, h1.step fun ρ2 S2 H2 xs e2 hR2 h2 vs rvs hl => ?_⟩
  exact h2.ok hR2 (u :: vs) (.cons (Rep.ext e2 _ _ ru) rvs) (by simp [hl])
theorem zip_keys : ∀ (ks : List Str) (vs : List V), (ks.zip vs).map (fun p => (V.str p.1, p.2)) = (keysV ks vs).map fun kv => (L2.kV kv.1, kv.2)
  | [], _ => rfl
  | _ :: _, [] => rfl
  | k :: ks, v :: vs => by
    show (V.str k, v) :: _ = (V.str k, v) :: _
    exact congrArg _ (zip_keys ks vs)
theorem keysV_length {ks : List Str} {vs : List V} (h : ks.length = vs.length) : (keysV ks vs).length = ks.length := by
  unfold keysV
  rw [List.length_map, List.length_zip]
  omega
theorem disp_read {keys : List (Option Expr)} {values : List Expr} {ks : List Str} {ms : XA} {trs : List (TE × TE)} {σ : L2.St} {H : Hp} {Q : VK} {ρ : Rho} {S : Store} {env : Env}
    (ht : ∀ σ H Q, (∃ ρ S env, Rel G.w G.K ρ S H ∧ EnvR G.K ρ H env σ ∧ Aft G E ρ H (ms env S) (fun ρ' _ H' xs => ∀ vs, Reps G.K ρ' H' xs vs → xs.length = ks.length → Q ((ks.zip vs).map fun p => (V.str p.1, p.2)) H')) → tPairs trs σ H Q)
    (hR : Rel G.w G.K ρ S H) (hE : EnvR G.K ρ H env σ) (hbad : ms env S ≠ .bad) (hexc : ∀ e S', ms env S = .exc e S' → ∀ ρ' H' cls d, Ext ρ H ρ' H' → Rel G.w G.K ρ' S' H' → ExcR G ρ' H' e cls d → E cls d H')
    (hok : ∀ xs S', ms env S = .ok xs S' → (ks.length = xs.length ∧ ks.length ≤ 15 ∧ ks.Nodup) ∧ ∀ p ρ' H' vs, H p = none → Ext ρ H ρ' H' → Rel G.w G.K (ρ'.hide p) S' H' → Reps G.K (ρ'.hide p) H' xs vs → Q (.ref p) (upd H' p (.dK (keysV ks vs)))) : tDisp trs σ H Q := by
  intro p hp
  refine ht _ _ _ ⟨ρ.hide p, S, env, hR.hide hp, ⟨hE.len, fun i x hx => by
    obtain ⟨v, h1, h2⟩ := hE.at_ i x hx
    exact ⟨v, h1, Rep.hide hp x v h2⟩⟩, ?_⟩
  have under : ∀ {ρ' : Rho} {H' : Hp}, Ext (ρ.hide p) (upd H p (.dK [])) ρ' H' → ∃ ρ2 : Rho, ρ' = ρ2.hide p ∧ Ext ρ H ρ2 H' := fun {ρ' H'} e => by
    obtain ⟨ρ2, rfl, f⟩ := e.ofHide
    refine ⟨ρ2, rfl, ?_⟩
    obtain ⟨m, em, hm⟩ := f.more
    refine ⟨⟨m, em, fun a ha => ?_⟩, f.hid, fun a u ha nt n => f.keep a u (by rw [upd_ne (ne_of_none ha hp)]; exact ha) nt n, fun a ha => ?_⟩
    · have q := hm a ha
      by_cases e : a = p
      · rw [e]; exact .of hp
      · exact fun o z => q o (by rw [upd_ne e]; exact z)
    · have q := f.dom a ha
      by_cases e : a = p
      · rw [e]; exact .of hp
      · exact fun o z => q o (by rw [upd_ne e]; exact z)
  cases hm : ms env S with
  | bad => exact absurd hm hbad
  | exc e S' =>
    intro ρ' H' cls d e' q x
    obtain ⟨ρ2, rfl, f⟩ := under e'
    refine hexc e S' hm ρ2 H' cls d f q.unhide ⟨x.1, ?_⟩
    rcases x.2 with z | ⟨a, gs, z1, z0, z2, z3, z4⟩
    · exact .inl z
    · exact .inr ⟨a, gs, z1, z0, z2, Out.show' z3, Flds.unhide z4⟩
  | ok xs S' =>
    obtain ⟨⟨hl, h15, hn⟩, k⟩ := hok xs S' hm
    intro ρ' H' e' q vs rvs _
    obtain ⟨ρ2, rfl, f⟩ := under e'
    have hl2 := rvs.length
    have np : p ∉ ρ.lb := hR.out1 hp
    refine ⟨e'.keep p _ upd_same Plain.dK.1 np, keysV ks vs, zip_keys ks vs, by rw [keysV_length (by omega)]; exact h15, ?_⟩
    rw [show mergeK [] (keysV ks vs) = keysV ks vs from merge_keys ks vs [] [] hn rfl (by omega)]
    exact k p ρ2 H' vs hp f q rvs
theorem i_dc {keys : List (Option Expr)} {values : List Expr} {ks : List Str} {ms : XA} (hd : PDs G E X pos keys values ks ms) (hall : keys.all (·.isSome) = true := by rfl) (hl : keys.length = values.length := by rfl) (h0 : keys ≠ [] := by simp) (h15 : keys.length ≤ 15 := by decide) :
    PE X (.Dict keys values pos) (tI G E (eDc ks ms)) := by
  obtain ⟨trs, h1, h2⟩ := hd.it
  refine (pe_disp h1 hall hl h0 h15).imp fun σ H Q h => ?_
  obtain ⟨ρ, S, env, hR, hE, h⟩ := h
  unfold eDc at h
  refine disp_read (keys := keys) (values := values) h2 hR hE (fun z => ?_) (fun e S' z => ?_) fun xs S' z => ?_
  · rw [z] at h; exact h
  · rw [z] at h; exact h
  · rw [z] at h
    simp only [R.bind_ok] at h
    split at h
    · rename_i hc
      refine ⟨hc, fun p ρ' H' vs hp e q rvs => ?_⟩
      have mp : p ∈ (ρ'.hide p).hid := List.mem_cons_self ..
      refine h ρ' _ (e.wr hp) ((q.hw mp).unhide) _ ?_
      unfold Rep
      refine ⟨p, vs, rfl, ⟨.inl upd_same, (q.hd p mp).2, fun z => ?_⟩, hc.1, hc.2.2, Reps.unhide _ _ (Reps.hw mp _ _ rvs)⟩
      rw [e.hid] at z
      obtain ⟨⟨o, ho, _⟩, _⟩ := hR.hd p z
      rw [hp] at ho; cases ho
    · exact h.elim
theorem i_dks {keys : List (Option Expr)} {values : List Expr} {ks : List Str} {ms : XA} (hd : PDs G E X pos keys values ks ms) (hall : keys.all (·.isSome) = true := by rfl) (hl : keys.length = values.length := by rfl) (h0 : keys ≠ [] := by simp) (h15 : keys.length ≤ 15 := by decide) :
    PE X (.Dict keys values pos) (tI G E (eDks ks ms)) := by
  obtain ⟨trs, h1, h2⟩ := hd.it
  refine (pe_disp h1 hall hl h0 h15).imp fun σ H Q h => ?_
  obtain ⟨ρ, S, env, hR, hE, h⟩ := h
  unfold eDks at h
  refine disp_read (keys := keys) (values := values) h2 hR hE (fun z => ?_) (fun e S' z => ?_) fun xs S' z => ?_
  · rw [z] at h; exact h
  · rw [z] at h; exact h
  · rw [z] at h
    simp only [R.bind_ok] at h
    split at h
    · rename_i hc
      refine ⟨hc, fun p ρ' H' vs hp e q rvs => ?_⟩
      have mp : p ∈ (ρ'.hide p).hid := List.mem_cons_self ..
      have nh : p ∉ ρ'.hid := fun z => by
        rw [e.hid] at z
        obtain ⟨⟨o, ho, _⟩, _⟩ := hR.hd p z
        rw [hp] at ho; cases ho
      refine h (ρ'.add p) _ ((e.wr hp).adopt hp) ((q.hw mp).adopt nh ⟨vs, upd_same, hc.1, hc.2.2, Reps.adopt _ _ (Reps.hw mp _ _ rvs)⟩) _ ?_
      unfold Rep
      refine ⟨p, ?_, rfl⟩
      have ql : ρ'.lb.length = S'.length := q.len
      show (ρ'.lb ++ [p])[S'.length]? = some p
      rw [← ql]
      simp
    · exact h.elim
/-! ### o[i] = v -/
theorem ixOf_N (n : Nat) (i : Int) : ixOf n i = ixN n i := by
  unfold ixOf ixN
  by_cases h0 : 0 ≤ i
  · rw [if_pos h0, if_pos h0]
  · rw [if_neg h0, if_neg h0]
    by_cases h1 : 0 ≤ i + (n : Int)
    · rw [if_pos h1]
      split
      · rename_i h
        first | rfl | (congr 1; omega)
      · exact absurd h1 (by omega)
    · rw [if_neg h1]
      split
      · exact absurd (by omega : 0 ≤ i + (n : Int)) h1
      · rfl
def rSetU : TSet := fun o i v H Q => rSetL o i v H Q ∨ rSetD o i v H Q
theorem set_U (hu : X.A.units + 1 < cLine) : PSet X rSetU := by
  rintro pins s σ H o i v ov iv u Q I ro ri rv (h | h)
  · exact set_list pins s σ H o i v ov iv u Q I ro ri rv h
  · exact set_dict hu pins s σ H o i v ov iv u Q I ro ri rv h
theorem putS_put {K : PySem.W.Frag} {ρ : Rho} {H : Hp} {x : PV} {v : V} {k : Str} (r : Rep K ρ H x v) : ∀ {ks : List Str} {xs : List PV} {vs : List V}, Reps K ρ H xs vs → ks.length = xs.length → ks.Nodup →
    ∃ us, putK (keysV ks vs) (.inr k : Key) v = keysV (putS ks xs k x).1 us ∧ Reps K ρ H (putS ks xs k x).2 us ∧ (putS ks xs k x).1.length = (putS ks xs k x).2.length ∧ (putS ks xs k x).1.Nodup ∧ (∀ j, j ∈ (putS ks xs k x).1 ↔ j = k ∨ j ∈ ks)
  | [], [], _, rs, _, _ => by
    unfold Reps at rs
    subst rs
    exact ⟨[v], rfl, .cons r .nil, rfl, by simp [putS], by simp [putS]⟩
  | k0 :: ks, x0 :: xs, _, rs, hl, hn => by
    obtain ⟨v0, s, rfl, r0, r1⟩ := rs.uncons
    have hn' := List.nodup_cons.mp hn
    have e : keysV (k0 :: ks) (v0 :: s) = (.inr k0, v0) :: keysV ks s := rfl
    by_cases hk : k0 = k
    · subst hk
      have ep : putS (k0 :: ks) (x0 :: xs) k0 x = (k0 :: ks, x :: xs) := by simp [putS]
      rw [ep, e]
      refine ⟨v :: s, ?_, .cons r r1, hl, hn, by simp⟩
      unfold putK
      rw [if_pos (by simp)]
      rw [List.map_cons, if_pos rfl]
      show _ = (.inr k0, v) :: keysV ks s
      congr 1
      have : ∀ (l : List (Key × V)), (l.any fun kv => decide (kv.1 = (.inr k0 : Key))) = false → l.map (fun kv => if kv.1 = (.inr k0 : Key) then (kv.1, v) else kv) = l := by
        intro l
        induction l with
        | nil => intro _; rfl
        | cons q l ih =>
          intro h
          rw [List.any_cons, Bool.or_eq_false_iff] at h
          rw [List.map_cons, if_neg (of_decide_eq_false h.1), ih h.2]
      exact this _ (keysV_any hn'.1)
    · obtain ⟨us, h1, h2, h3, h4, h5⟩ := putS_put (k := k) r r1 (by simpa using hl) hn'.2
      have ep : putS (k0 :: ks) (x0 :: xs) k x = (k0 :: (putS ks xs k x).1, x0 :: (putS ks xs k x).2) := by simp [putS, hk]
      rw [ep, e]
      refine ⟨v0 :: us, ?_, .cons r0 h2, by simp [h3], ?_, fun j => ?_⟩
      · show _ = (.inr k0, v0) :: keysV (putS ks xs k x).1 us
        rw [← h1]
        have hk' : ¬ ((.inr k0 : Key) = .inr k) := fun z => hk (Sum.inr.inj z)
        unfold putK
        rw [List.any_cons, decide_eq_false hk', Bool.false_or]
        split
        · rw [List.map_cons, if_neg hk']
        · rfl
      · rw [List.nodup_cons]
        refine ⟨fun z => ?_, h4⟩
        rcases (h5 k0).mp z with z | z
        · exact hk z
        · exact hn'.1 z
      · rw [List.mem_cons, h5 j, List.mem_cons]
        constructor
        · rintro (z | z | z)
          · exact .inr (.inl z)
          · exact .inl z
          · exact .inr (.inr z)
        · rintro (z | z | z)
          · exact .inr (.inl z)
          · exact .inl z
          · exact .inr (.inr z)
  | [], _ :: _, _, _, hl, _ => by simp at hl
  | _ :: _, [], _, _, hl, _ => by simp at hl
theorem sd_set {ρ : Rho} {S : Store} {H : Hp} {x y z : PV} {o i v : V} {Q : Hp → Prop} {k : Rho → Store → Hp → Unit → Prop} (q : Rel G.w G.K ρ S H) (ro : Rep G.K ρ H x o) (ri : Rep G.K ρ H y i) (rv : Rep G.K ρ H z v) (h : Aft G E ρ H (oSet x y z S) k)
    (m : ∀ ρ' S' H', Ext ρ H ρ' H' → Rel G.w G.K ρ' S' H' → k ρ' S' H' () → Q H') : rSetU o i v H Q := by
  unfold oSet at h
  split at h
  · rename_i l j
    split at h
    · rename_i xs hx
      split at h
      · rename_i n hn
        unfold Rep at ro
        obtain ⟨a, h1, rfl⟩ := ro
        obtain ⟨c, hc, ca⟩ := q.cell h1
        rw [hx] at hc
        cases hc
        obtain ⟨vs, h2, h3⟩ := ca
        rw [ri.int_of]
        refine .inl ⟨a, vs, j, n, rfl, rfl, h2, by rw [← h3.length, ← ixOf_N]; exact hn, ?_⟩
        have ha : a ∈ ρ.lb := List.mem_of_getElem? h1
        have ew : Ext ρ H ρ (upd H a (.lst (vs.set n v))) := Ext.write ha
        have qw := q.write h1 (c := .lst (xs.set n z)) (o := .lst (vs.set n v)) ⟨_, upd_same, Reps.set (Rep.ext ew z v rv) n (Reps.ext ew _ _ h3)⟩
        exact m ρ _ _ ew qw (h ρ _ ew qw)
      · exact h.elim
    · exact h.elim
  · rename_i l j
    split at h
    · rename_i ks xs hx
      split at h
      · rename_i hlim
        unfold Rep at ro
        obtain ⟨a, h1, rfl⟩ := ro
        obtain ⟨c, hc, ca⟩ := q.cell h1
        rw [hx] at hc
        cases hc
        obtain ⟨vs, h2, hl, hn, h3⟩ := ca
        rw [ri.str_of]
        have ha : a ∈ ρ.lb := List.mem_of_getElem? h1
        have hlv := h3.length
        obtain ⟨us, e1, e2, e3, e4, e5⟩ := putS_put (k := j) rv h3 hl hn
        refine .inr ⟨a, _, rfl, DPut.k (k := .inr j) h2 (by rw [keysV_length (by omega)]; exact lim_lt hlim), ?_⟩
        rw [e1]
        have ew : Ext ρ H ρ (upd H a (.dK (keysV (putS ks xs j z).1 us))) := Ext.write ha
        have qw := q.write h1 (c := .dks (putS ks xs j z).1 (putS ks xs j z).2) (o := .dK (keysV (putS ks xs j z).1 us)) ⟨_, upd_same, e3, e4, Reps.ext ew _ _ e2⟩
        exact m ρ _ _ ew qw (h ρ _ ew qw)
      · exact h.elim
    · exact h.elim
  · exact h.elim
theorem g_sub (hu : X.A.units + 1 < cLine) (ho : PE X o (tI G E mo)) (hi : PE X i (tI G E mi))
    (ha : ∀ v, assign (.Subscript o i pos) X.env v = (do
      let ov ← holding [v] (eval o X.env)
      let iv ← holding [v, ov] (eval i X.env)
      standAt pos
      holding [v, ov, iv] (setItem ov iv v)
      release [v, ov, iv] []) := by intro _; rfl) : PG X (.Subscript o i pos) (tIG G E [] (gSb mo mi)) :=
  (pg_sub ho hi (set_U hu) ha).imp fun v σ H Q h => by
    obtain ⟨ρ, S, env, x, hR, hE, hx, h⟩ := h
    have h : Aft G E ρ H ((mo env S).bind fun ov S => (mi env S).bind fun iv S => (oSet ov iv x S).bind fun _ S => R.ok env S) (fun ρ' S' H' env' => ∀ σ', EnvR G.K ρ' H' env' σ' → Wp [] σ σ' → Q σ' H') := h
    refine ⟨ρ, S, env, hR, hE, h.step fun ρ1 S1 H1 ov e1 hR1 h1 vo ro => ?_⟩
    refine ⟨ρ1, S1, env, hR1, hE.ext e1, h1.step fun ρ2 S2 H2 iv e2 hR2 h2 vi ri => ?_⟩
    refine sd_set hR2 (Rep.ext e2 _ _ ro) ri (Rep.ext e2 _ _ (Rep.ext e1 _ _ hx)) (Aft.bind h2) fun ρ3 S3 H3 e3 hR3 h3 => ?_
    exact h3.ok hR3 σ (((hE.ext e1).ext e2).ext e3) fun _ _ => rfl
/-! ### methods of lists -/
theorem loc_list {ρ : Rho} {S : Store} {H : Hp} (q : Rel G.w G.K ρ S H) {l : Nat} {xs : List PV} {v : V} (r : Rep G.K ρ H (.loc l) v) (h : S[l]? = some (.lst xs)) : ∃ p vs, v = .ref p ∧ ρ.lb[l]? = some p ∧ H p = some (.lst vs) ∧ Reps G.K ρ H xs vs := by
  unfold Rep at r
  obtain ⟨p, h1, rfl⟩ := r
  obtain ⟨c, hc, ca⟩ := q.cell h1
  rw [h] at hc
  cases hc
  obtain ⟨vs, h2, h3⟩ := ca
  exact ⟨p, vs, rfl, h1, h2, h3⟩
/-- a list of the store is written -/
theorem lst_write {ρ : Rho} {S : Store} {H : Hp} (q : Rel G.w G.K ρ S H) {l : Nat} {p : Addr} {ys : List PV} {us : List V} (h1 : ρ.lb[l]? = some p) (r : Reps G.K ρ H ys us) : Ext ρ H ρ (upd H p (.lst us)) ∧ Rel G.w G.K ρ (S.set l (.lst ys)) (upd H p (.lst us)) := by
  have ew : Ext ρ H ρ (upd H p (.lst us)) := Ext.write (List.mem_of_getElem? h1)
  exact ⟨ew, q.write h1 ⟨us, upd_same, Reps.ext ew _ _ r⟩⟩
section
variable {apos cpos : Pos}
theorem i_append (ho : PE X o (tI G E mo)) (ha : PE X a (tI G E ma)) (hK : X.K = G.K := by rfl) (hs : starEach (a :: []) X.env = (false, eval a X.env) :: starEach [] X.env := by rfl)
    (hbase : attributeBase o "append" X.env (eval o X.env) = eval o X.env := by rfl)
    (hfew : ((backTo cpos (starEach (a :: []) X.env)).all (fun x => !x.1) && (backToKw cpos (keywordEach [] X.env)).all (fun x => x.1.isSome)
      && decide ((a :: []).length + ([] : List Keyword).length + (if ([] : List Keyword).isEmpty then 0 else 1) < 30)) = true := by rfl)
    (hline : (apos.endLine == cpos.line) = true := by rfl) (hplain : (backTo cpos (starEach [] X.env)).any (·.1) = false := by rfl) :
    PE X (.Call (.Attribute o "append" apos) [a] [] cpos) (tI G E (eMeth1 mAppend mo ma)) :=
  (pe_bm PySem.F.plainAttrs_list PySem.F.slot_list_append PySem.F.type_list_append mt_append ho (pa_cons ha pa_nil hs) hbase hfew hline hs hplain).imp fun σ H Q h => by
    obtain ⟨ρ, S, env, hR, hE, h⟩ := h
    refine ⟨ρ, S, env, hR, hE, Aft.step (f := fun x S => _) h fun ρ1 S1 H1 x e1 hR1 h1 v rv => ?_⟩
    cases x with
    | loc l =>
      simp only at h1
      split at h1
      · rename_i xs hx
        obtain ⟨p, vs, rfl, hp, h2, h3⟩ := loc_list hR1 rv hx
        refine ⟨.inl ⟨rfl, vs, SqL.of h2⟩, ρ1, S1, env, hR1, hE.ext e1, h1.step fun ρ2 S2 H2 y e2 hR2 h4 u ru => ?_⟩
        unfold mAppend at h4
        split at h4
        · rename_i ys hy
          split at h4
          · rename_i hl
            obtain ⟨p', us, e', hp', h5, h6⟩ := loc_list hR2 (Rep.ext e2 _ _ rv) hy
            cases e'
            obtain ⟨w1, w2⟩ := lst_write hR2 hp' (h6.append (.cons ru .nil))
            exact ⟨p, us, u, rfl, rfl, h5, by rw [← h6.length]; exact lim_lt hl, h4 ρ2 _ w1 w2 _ Rep.non⟩
          · exact h4.elim
        · exact h4.elim
      · exact h1.elim
    | _ => exact h1.elim
theorem i_extend (ho : PE X o (tI G E mo)) (ha : PE X a (tI G E ma)) (hK : X.K = G.K := by rfl) (hs : starEach (a :: []) X.env = (false, eval a X.env) :: starEach [] X.env := by rfl)
    (hbase : attributeBase o "extend" X.env (eval o X.env) = eval o X.env := by rfl)
    (hfew : ((backTo cpos (starEach (a :: []) X.env)).all (fun x => !x.1) && (backToKw cpos (keywordEach [] X.env)).all (fun x => x.1.isSome)
      && decide ((a :: []).length + ([] : List Keyword).length + (if ([] : List Keyword).isEmpty then 0 else 1) < 30)) = true := by rfl)
    (hline : (apos.endLine == cpos.line) = true := by rfl) (hplain : (backTo cpos (starEach [] X.env)).any (·.1) = false := by rfl) :
    PE X (.Call (.Attribute o "extend" apos) [a] [] cpos) (tI G E (eMeth1 mExtend mo ma)) :=
  (pe_bm PySem.F.plainAttrs_list PySem.F.slot_list_extend PySem.F.type_list_extend mt_extend ho (pa_cons ha pa_nil hs) hbase hfew hline hs hplain).imp fun σ H Q h => by
    obtain ⟨ρ, S, env, hR, hE, h⟩ := h
    refine ⟨ρ, S, env, hR, hE, Aft.step (f := fun x S => _) h fun ρ1 S1 H1 x e1 hR1 h1 v rv => ?_⟩
    cases x with
    | loc l =>
      simp only at h1
      split at h1
      · rename_i xs hx
        obtain ⟨p, vs, rfl, hp, h2, h3⟩ := loc_list hR1 rv hx
        refine ⟨.inl ⟨rfl, vs, SqL.of h2⟩, ρ1, S1, env, hR1, hE.ext e1, h1.step fun ρ2 S2 H2 y e2 hR2 h4 u ru => ?_⟩
        unfold mExtend at h4
        split at h4
        · rename_i ys zs hy hz
          split at h4
          · rename_i hl
            obtain ⟨p', us, e', hp', h5, h6⟩ := loc_list hR2 (Rep.ext e2 _ _ rv) hy
            cases e'
            obtain ⟨b, ws, rfl, h7, h8⟩ := lst_of hR2 ru hz
            obtain ⟨w1, w2⟩ := lst_write hR2 hp' (h6.append h8)
            exact ⟨p, b, us, ws, rfl, rfl, h5, h7, by rw [← h6.length, ← h8.length]; exact lim_le hl, h4 ρ2 _ w1 w2 _ Rep.non⟩
          · exact h4.elim
        · exact h4.elim
      · exact h1.elim
    | _ => exact h1.elim
theorem i_pop (ho : PE X o (tI G E mo)) (hK : X.K = G.K := by rfl) (hbase : attributeBase o "pop" X.env (eval o X.env) = eval o X.env := by rfl) (hline : (apos.endLine == cpos.line) = true := by rfl) :
    PE X (.Call (.Attribute o "pop" apos) [] [] cpos) (tI G E (eMeth0 mPop mo)) :=
  (pe_bm0 PySem.F.plainAttrs_list PySem.F.slot_list_pop PySem.F.type_list_pop mt_pop ho hbase hline).imp fun σ H Q h => by
    obtain ⟨ρ, S, env, hR, hE, h⟩ := h
    refine ⟨ρ, S, env, hR, hE, Aft.step (f := fun x S => _) h fun ρ1 S1 H1 x e1 hR1 h1 v rv => ?_⟩
    cases x with
    | loc l =>
      simp only at h1
      split at h1
      · rename_i xs hx
        obtain ⟨p, vs, rfl, hp, h2, h3⟩ := loc_list hR1 rv hx
        refine ⟨.inl ⟨rfl, vs, SqL.of h2⟩, ?_⟩
        unfold mPop at h1
        rw [hx] at h1
        simp only at h1
        split at h1
        · rename_i y hy
          rw [List.getLast?_eq_getElem?] at hy
          obtain ⟨u, hu, ru⟩ := h3.get hy
          have ed : xs.dropLast = xs.take (xs.length - 1) := List.dropLast_eq_take
          have edv : vs.dropLast = vs.take (vs.length - 1) := List.dropLast_eq_take
          have r2 : Reps G.K ρ1 H1 xs.dropLast vs.dropLast := by rw [ed, edv, h3.length]; exact h3.take _
          obtain ⟨w1, w2⟩ := lst_write hR1 hp r2
          exact ⟨p, vs, u, rfl, rfl, h2, by rw [← h3.length]; exact hu, h1 ρ1 _ w1 w2 _ (Rep.ext w1 _ _ ru)⟩
        · exact h1.elim
      · exact h1.elim
    | _ => exact h1.elim
end
/-! ### attributes -/
/-- what is known of the classes whose instances stand in the store: the attributes that it may have -/
def ClsOk (K : PySem.W.Frag) (C : Nat) (fs : List Str) : Prop := Cls K C ∧ ∀ f ∈ fs, NoAttr K C f
theorem flds_look {K : PySem.W.Frag} {ρ : Rho} {H : Hp} {f : Str} : ∀ {fs : List (Str × PV)} {gs : List (Str × V)}, Flds K ρ H fs gs → match plook f fs with
    | some x => ∃ v, gs.lookup f = some v ∧ Rep K ρ H x v
    | none => gs.lookup f = none
  | [], _, h => by
    have h : _ = [] := h
    subst h
    rfl
  | (g, x) :: r, _, h => by
    obtain ⟨v, s, rfl, h1, h2⟩ := h
    unfold plook
    by_cases e : g = f
    · subst e
      rw [if_pos rfl]
      exact ⟨v, by simp [List.lookup], h1⟩
    · rw [if_neg e]
      have hb : (f == g) = false := beq_eq_false_iff_ne.mpr (Ne.symm e)
      simp only [List.lookup, hb]
      exact flds_look h2
theorem flds_put {K : PySem.W.Frag} {ρ : Rho} {H : Hp} {f : Str} {y : PV} {u : V} (ru : Rep K ρ H y u) : ∀ {fs : List (Str × PV)} {gs : List (Str × V)}, Flds K ρ H fs gs → Flds K ρ H (pput f y fs) (putF f u gs)
  | [], _, h => by
    have h : _ = [] := h
    subst h
    exact ⟨u, [], rfl, ru, rfl⟩
  | (g, x) :: r, _, h => by
    obtain ⟨v, s, rfl, h1, h2⟩ := h
    unfold pput putF
    by_cases e : g = f
    · rw [if_pos e, if_pos e]
      exact ⟨u, s, rfl, ru, h2⟩
    · rw [if_neg e, if_neg e]
      exact ⟨v, _, rfl, h1, flds_put ru h2⟩
theorem flds_length {K : PySem.W.Frag} {ρ : Rho} {H : Hp} : ∀ {fs : List (Str × PV)} {gs : List (Str × V)}, Flds K ρ H fs gs → fs.length = gs.length
  | [], _, h => by
    have h : _ = [] := h
    subst h
    rfl
  | (g, x) :: r, _, h => by
    obtain ⟨v, s, rfl, h1, h2⟩ := h
    simp [flds_length h2]
theorem loc_ins {ρ : Rho} {S : Store} {H : Hp} (q : Rel G.w G.K ρ S H) {l : Nat} {C : Nat} {fs : List (Str × PV)} {v : V} (r : Rep G.K ρ H (.loc l) v) (h : S[l]? = some (.ins C fs)) : ∃ p dx gs, v = .ref p ∧ ρ.lb[l]? = some p ∧ H p = some (.ins C dx gs) ∧ H dx = some (.own p) ∧ ρ.Out dx ∧ Flds G.K ρ H fs gs := by
  unfold Rep at r
  obtain ⟨p, h1, rfl⟩ := r
  obtain ⟨c, hc, ca⟩ := q.cell h1
  rw [h] at hc
  cases hc
  obtain ⟨dx, gs, h2, h3, h4, h5⟩ := ca
  exact ⟨p, dx, gs, rfl, h1, h2, h3, h4, h5⟩
theorem i_fld {f : Str} {C0 : Nat} (hC : Cls G.K C0) (hn : NoAttr G.K C0 f) (ho : PE X o (tI G E mo)) (hb : attributeBase o f X.env (eval o X.env) = eval o X.env := by rfl) (hK : X.K = G.K := by rfl) : PE X (.Attribute o f pos) (tI G E (eFld C0 mo f)) :=
  (pe_fld ho hb).imp fun σ H Q h => by
    obtain ⟨ρ, S, env, hR, hE, h⟩ := h
    refine ⟨ρ, S, env, hR, hE, h.step fun ρ1 S1 H1 x e1 hR1 h1 v rv => ?_⟩
    cases x with
    | loc l =>
      simp only at h1
      split at h1
      · rename_i C fs hx
        split at h1
        · rename_i hCC
          obtain ⟨p, dx, gs, rfl, hp, h2, h3, h4, h5⟩ := loc_ins hR1 rv hx
          have q := flds_look (f := f) h5
          split at h1
          · rename_i y hy
            rw [hy] at q
            obtain ⟨u, hu, ru⟩ := q
            rw [hK]
            subst hCC
            exact ⟨p, C, dx, gs, u, rfl, h2, hC, hn, hu, h1.ok hR1 _ ru⟩
          · exact h1.elim
        · exact h1.elim
      · exact h1.elim
    | _ => exact h1.elim
theorem fld_write {ρ : Rho} {S : Store} {H : Hp} (q : Rel G.w G.K ρ S H) {l : Nat} {p dx : Addr} {C : Nat} {fs : List (Str × PV)} {gs : List (Str × V)} {f : Str} {y : PV} {u : V} (hp : ρ.lb[l]? = some p) (h2 : H p = some (.ins C dx gs)) (h3 : H dx = some (.own p)) (h4 : ρ.Out dx) (h5 : Flds G.K ρ H fs gs) (ru : Rep G.K ρ H y u) :
    Ext ρ H ρ (upd H p (.ins C dx (putF f u gs))) ∧ Rel G.w G.K ρ (S.set l (.ins C (pput f y fs))) (upd H p (.ins C dx (putF f u gs))) := by
  have hm : p ∈ ρ.lb := List.mem_of_getElem? hp
  have ew : Ext ρ H ρ (upd H p (.ins C dx (putF f u gs))) := Ext.write hm
  exact ⟨ew, q.write hp ⟨dx, _, upd_same, ew.keep _ _ h3 Plain.own.1 h4.1, h4, Flds.ext ew (flds_put ru h5)⟩⟩
theorem s_fld {f : Str} {C0 : Nat} {pos' : Pos} (hC : Cls G.K C0) (hn : NoAttr G.K C0 f) (ho : PE X o (tI G E mo)) (he : PE X e (tI G E me)) (hs : swapsWith e (some (.Attribute o f pos')) pos.line X.env = pure false := by rfl) (hK : X.K = G.K := by rfl) : PS X (.Assign [.Attribute o f pos'] e pos) (tIS G E (sFld' C0 mo f me)) :=
  (ps_fld ho he hs).imp fun D σ H h => by
    obtain ⟨ρ, S, env, hR, hE, h⟩ := h
    refine ⟨ρ, S, env, hR, hE, h.step fun ρ1 S1 H1 y e1 hR1 h1 u ru => ?_⟩
    refine ⟨ρ1, S1, env, hR1, hE.ext e1, h1.step fun ρ2 S2 H2 x e2 hR2 h2 v rv => ?_⟩
    cases x with
    | loc l =>
      simp only at h2
      split at h2
      · rename_i C fs hx
        split at h2
        · rename_i hl
          obtain ⟨p, dx, gs, rfl, hp, g2, g3, g4, g5⟩ := loc_ins hR2 rv hx
          obtain ⟨hCC, hl⟩ := hl
          subst hCC
          obtain ⟨w1, w2⟩ := fld_write (f := f) hR2 hp g2 g3 g4 g5 (Rep.ext e2 _ _ ru)
          rw [hK]
          refine ⟨p, C, dx, gs, rfl, g2, hC, hn, by rw [← flds_length g5]; omega, ?_⟩
          exact h2 ρ2 _ w1 w2 σ (((hE.ext e1).ext e2).ext w1)
        · exact h2.elim
      · exact h2.elim
    | _ => exact h2.elim
theorem s_fldInc {f : Str} {C0 : Nat} {tpos : Pos} (hC : Cls G.K C0) (hn : NoAttr G.K C0 f) (ho : PE X o (tI G E mo)) (he : PE X e (tI G E me)) (hK : X.K = G.K := by rfl) : PS X (.AugAssign (.Attribute o f tpos) .Add e pos) (tIS G E (sFldInc C0 mo f me)) :=
  (ps_fldaug ho he in_add).imp fun D σ H h => by
    obtain ⟨ρ, S, env, hR, hE, h⟩ := h
    refine ⟨ρ, S, env, hR, hE, h.step fun ρ1 S1 H1 x e1 hR1 h1 v rv => ?_⟩
    cases x with
    | loc l =>
      simp only at h1
      split at h1
      · rename_i C fs hx
        split at h1
        · rename_i hCC
          obtain ⟨p, dx, gs, rfl, hp, g2, g3, g4, g5⟩ := loc_ins hR1 rv hx
          have q := flds_look (f := f) g5
          split at h1
          · rename_i i hi
            rw [hi] at q
            obtain ⟨u, hu, ru⟩ := q
            subst hCC
            rw [hK]
            refine ⟨p, C, dx, gs, u, rfl, g2, hC, hn, hu, ρ1, S1, env, hR1, hE.ext e1, h1.step fun ρ2 S2 H2 y e2 hR2 h2 w rw' => ?_⟩
            split at h2
            · rename_i j C2 fs2 hx2
              split at h2
              · rename_i hl
                obtain ⟨hC2, hl⟩ := hl
                subst hC2
                obtain ⟨p', dx', gs', e', hp', f2, f3, f4, f5⟩ := loc_ins hR2 (Rep.ext e2 _ _ rv) hx2
                cases e'
                rw [ru.int_of, rw'.int_of]
                refine ⟨i, j, rfl, rfl, dx', gs', f2, by rw [← flds_length f5]; omega, ?_⟩
                obtain ⟨w1, w2⟩ := fld_write (f := f) (y := .int (i + j)) (u := .int (i + j)) hR2 hp' f2 f3 f4 f5 Rep.int
                exact h2 ρ2 _ w1 w2 σ (((hE.ext e1).ext e2).ext w1)
              · exact h2.elim
            · exact h2.elim
          · exact h1.elim
        · exact h1.elim
      · exact h1.elim
    | _ => exact h1.elim
end
end

/-! Mini8 -/
/-! Mini8: defs and calls. -/
section
open PySem L2
section
variable {w : World} {K : PySem.W.Frag} {ρ ρ' : Rho} {H : Hp}
/-- ρ' has more cells -/
structure Less (n : Nat) (ρ ρ' : Rho) : Prop where
  len : ρ.lb.length = n
  lb : ∃ m, ρ'.lb = ρ.lb ++ m
  hid : ρ'.hid = ρ.hid
theorem Less.out {n : Nat} (h : Less n ρ ρ') {a : Addr} (o : ρ'.Out a) : ρ.Out a := by
  obtain ⟨m, em⟩ := h.lb
  exact ⟨fun z => o.1 (by rw [em]; exact List.mem_append_left _ z), by rw [← h.hid]; exact o.2⟩
mutual
theorem Rep.less {n : Nat} (hl : Less n ρ ρ') : ∀ (x : PV) (v : V), low n x = true → Rep K ρ' H x v → Rep K ρ H x v
  | .non, _, _, h => by unfold Rep at h ⊢; exact h
  | .bl _, _, _, h => by unfold Rep at h ⊢; exact h
  | .int _, _, _, h => by unfold Rep at h ⊢; exact h
  | .str _, _, _, h => by unfold Rep at h ⊢; exact h
  | .tup xs, v, l, h => by
    unfold Rep at h ⊢
    unfold low at l
    obtain ⟨a, vs, rfl, h1, h3⟩ := h
    refine ⟨a, vs, rfl, ?_, Reps.less hl xs vs l h3⟩
    rcases h1 with ⟨h1, h2⟩ | h1
    · exact .inl ⟨h1, hl.out h2⟩
    · exact .inr h1
  | .ls xs, v, l, h => by
    unfold Rep at h ⊢
    unfold low at l
    obtain ⟨a, vs, rfl, ⟨h1, h2⟩, h3⟩ := h
    exact ⟨a, vs, rfl, ⟨h1, hl.out h2⟩, Reps.less hl xs vs l h3⟩
  | .fz xs, v, l, h => by
    unfold Rep at h ⊢
    unfold low at l
    obtain ⟨a, vs, rfl, h1, h3⟩ := h
    refine ⟨a, vs, rfl, ?_, Reps.less hl xs vs l h3⟩
    rcases h1 with ⟨h1, h2⟩ | h1
    · exact .inl ⟨h1, hl.out h2⟩
    · exact .inr h1
  | .dc ks xs, v, l, h => by
    unfold Rep at h ⊢
    unfold low at l
    obtain ⟨a, vs, rfl, ⟨h1, h2⟩, h4, hn, h3⟩ := h
    exact ⟨a, vs, rfl, ⟨h1, hl.out h2⟩, h4, hn, Reps.less hl xs vs l h3⟩
  | .loc i, v, l, h => by
    unfold Rep at h ⊢
    obtain ⟨a, h1, rfl⟩ := h
    obtain ⟨m, em⟩ := hl.lb
    have hi : i < n := by unfold low at l; exact of_decide_eq_true l
    refine ⟨a, ?_, rfl⟩
    rw [em, List.getElem?_append_left (by rw [hl.len]; exact hi)] at h1
    exact h1
theorem Reps.less {n : Nat} (hl : Less n ρ ρ') : ∀ (xs : List PV) (vs : List V), lows n xs = true → Reps K ρ' H xs vs → Reps K ρ H xs vs
  | [], _, _, h => by unfold Reps at h ⊢; exact h
  | x :: r, vs, l, h => by
    unfold Reps at h ⊢
    unfold lows at l
    rw [Bool.and_eq_true] at l
    obtain ⟨v, s, rfl, h1, h2⟩ := h
    exact ⟨v, s, rfl, Rep.less hl x v l.1 h1, Reps.less hl r s l.2 h2⟩
end
theorem Flds.less {n : Nat} (hl : Less n ρ ρ') : ∀ {fs : List (Str × PV)} {gs : List (Str × V)}, lows n (fs.map Prod.snd) = true → Flds K ρ' H fs gs → Flds K ρ H fs gs
  | [], _, _, h => h
  | (f, x) :: r, _, l, h => by
    obtain ⟨v, s, rfl, h1, h2⟩ := h
    have l : (low n x && lows n (r.map Prod.snd)) = true := l
    rw [Bool.and_eq_true] at l
    exact ⟨v, s, rfl, Rep.less hl x v l.1 h1, Flds.less hl l.2 h2⟩
mutual
theorem keyD_low (n : Nat) : ∀ (x : PV) (d : Nat), keyD d x = true → low n x = true
  | .non, _, _ => by unfold low; rfl
  | .int _, _, _ => by unfold low; rfl
  | .str _, _, _ => by unfold low; rfl
  | .tup xs, 0, h => by unfold keyD at h; cases h
  | .tup xs, d + 1, h => by
    unfold keyD at h
    unfold low
    exact keyDs_low n xs d h
  | .bl _, d, h => by cases d <;> (unfold keyD at h; cases h)
  | .ls _, d, h => by cases d <;> (unfold keyD at h; cases h)
  | .fz _, d, h => by cases d <;> (unfold keyD at h; cases h)
  | .dc _ _, d, h => by cases d <;> (unfold keyD at h; cases h)
  | .loc _, d, h => by cases d <;> (unfold keyD at h; cases h)
theorem keyDs_low (n : Nat) : ∀ (xs : List PV) (d : Nat), xs.all (keyD d) = true → lows n xs = true
  | [], _, _ => by unfold lows; rfl
  | x :: r, d, h => by
    rw [List.all_cons, Bool.and_eq_true] at h
    unfold lows
    rw [Bool.and_eq_true]
    exact ⟨keyD_low n x d h.1, keyDs_low n r d h.2⟩
end
theorem lows_mem {n : Nat} : ∀ {xs : List PV} {x : PV}, lows n xs = true → x ∈ xs → low n x = true
  | y :: r, x, h, hx => by
    unfold lows at h
    rw [Bool.and_eq_true] at h
    rcases List.mem_cons.mp hx with rfl | hx
    · exact h.1
    · exact lows_mem h.2 hx
theorem Rel.less {n : Nat} {S : Store} (hl : Less n ρ ρ') (q : Rel w K ρ' S H) (hn : n ≤ S.length) (l : (S.take n).all (Cell.low n) = true) : Rel w K ρ (S.take n) H := by
  obtain ⟨m, em⟩ := hl.lb
  refine ⟨by rw [hl.len, List.length_take]; omega, ?_, fun i c a h1 h2 => ?_, fun a ha => ?_, q.tabs⟩
  · have := q.nd
    rw [em, List.nodup_append] at this
    exact this.1
  · have hi : i < n := by
      have := (List.getElem?_eq_some_iff.mp h2).1
      rw [hl.len] at this
      exact this
    have h1' : S[i]? = some c := by
      rw [List.getElem?_take, if_pos hi] at h1
      exact h1
    have h2' : ρ'.lb[i]? = some a := by
      rw [em, List.getElem?_append_left (by rw [hl.len]; exact hi)]
      exact h2
    have c1 := q.at_ i c a h1' h2'
    have lc : Cell.low n c = true := List.all_eq_true.mp l c (List.mem_of_getElem? h1)
    cases c with
    | lst xs => obtain ⟨vs, g1, g2⟩ := c1; exact ⟨vs, g1, Reps.less hl _ _ lc g2⟩
    | dks ks xs => obtain ⟨vs, g1, g2, g3, g4⟩ := c1; exact ⟨vs, g1, g2, g3, Reps.less hl _ _ lc g4⟩
    | dkn ks xs => obtain ⟨kvs, g1, g2⟩ := c1; exact ⟨kvs, g1, g2.imp (fun x v _ hk => Rep.less hl x v (keyD_low n x 8 hk)) fun x v hx => Rep.less hl x v (lows_mem lc hx)⟩
    | ins C fs => obtain ⟨dx, gs, g1, g2, g3, g4⟩ := c1; exact ⟨dx, gs, g1, g2, hl.out g3, Flds.less hl lc g4⟩
  · obtain ⟨u, n1⟩ := q.hd a (by rw [hl.hid]; exact ha)
    exact ⟨u, fun z => n1 (by rw [em]; exact List.mem_append_left _ z)⟩
end
section
variable {G : Gx} {E : XK}
/-- what a def promises: what the small machine does -/
def spI (G : Gx) (m : XF) : Sp := fun vs H Q E => ∃ ρ S args, Rel G.w G.K ρ S H ∧ Reps G.K ρ H args vs ∧ Aft G E ρ H (m args S) (kV G Q)
theorem envR_start {ρ : Rho} {H : Hp} {N : List Str} {args : List PV} {vs : List V} (r : Reps G.K ρ H args vs) : EnvR G.K ρ H (args.map some ++ List.replicate (N.length - args.length) none) (L2.start N vs) := by
  have hl := r.length
  refine ⟨by simp [L2.start, hl], fun i x hx => ?_⟩
  by_cases hi : i < args.length
  · rw [List.getElem?_append_left (by simpa using hi), List.getElem?_map] at hx
    cases e : args[i]? with
    | none => rw [e] at hx; cases hx
    | some y =>
      rw [e] at hx
      cases hx
      obtain ⟨v, h1, h2⟩ := r.get e
      refine ⟨v, ?_, h2⟩
      unfold L2.start
      rw [List.getElem?_append_left (by simp; omega), List.getElem?_map, h1]
      rfl
  · rw [List.getElem?_append_right (by simp; omega)] at hx
    rw [List.getElem?_replicate] at hx
    split at hx <;> cases hx
theorem leave_ok {ρ ρ' : Rho} {H H' : Hp} {S S' : Store} {v : PV} {u : V} {Q : VK} (hR : Rel G.w G.K ρ S H) (e : Ext ρ H ρ' H') (q : Rel G.w G.K ρ' S' H') (r : Rep G.K ρ' H' v u) (h : Aft G E ρ H (leave S.length v S') (kV G Q)) : Q u H' := by
  unfold leave at h
  split at h
  · exact h ρ' H' e q u r
  · split at h
    · rename_i hlow
      obtain ⟨m, em, hm⟩ := e.more
      have hl : Less S.length ρ ρ' := ⟨hR.len, ⟨m, em⟩, e.hid⟩
      have e2 : Ext ρ H ρ H' := ⟨⟨[], by simp⟩, rfl, e.keep, e.dom⟩
      have hn : S.length ≤ S'.length := by
        have h1 := q.len
        have h2 := hR.len
        rw [em, List.length_append] at h1
        omega
      have q2 := Rel.less hl q hn hlow
      unfold out1 at h
      split at h
      · rename_i w hw
        refine h ρ H' e2 q2 u ?_
        cases v with
        | loc l =>
          simp only at hw
          split at hw
          · rename_i hlt
            cases hw
            exact Rep.less hl _ _ (decide_eq_true hlt) r
          · rename_i hge
            split at hw
            · rename_i xs hx
              split at hw
              · rename_i hx2
                cases hw
                unfold Rep at r
                obtain ⟨a, h1, rfl⟩ := r
                obtain ⟨c, hc, ca⟩ := q.cell h1
                rw [hx] at hc
                cases hc
                obtain ⟨vs, g1, g2⟩ := ca
                unfold Rep
                refine ⟨a, vs, rfl, ⟨g1, fun z => ?_, fun z => ?_⟩, Reps.less hl _ _ hx2 g2⟩
                · obtain ⟨i, hi, ei⟩ := List.mem_iff_getElem.mp z
                  have hi2 : i < ρ'.lb.length := by rw [em, List.length_append]; omega
                  have e3 : ρ'.lb[i] = a := by simp only [em]; rw [List.getElem_append_left hi]; exact ei
                  obtain ⟨hl2, el⟩ := List.getElem?_eq_some_iff.mp h1
                  have := (List.getElem_inj q.nd).mp (e3.trans el.symm)
                  rw [hR.len] at hi
                  omega
                · exact (q.hd a (by rw [e.hid]; exact z)).2 (List.mem_of_getElem? h1)
              · cases hw
            · cases hw
        | non => simp only [low, if_true] at hw; cases hw; exact Rep.less hl _ _ (by simp [low]) r
        | bl b => simp only [low, if_true] at hw; cases hw; exact Rep.less hl _ _ (by simp [low]) r
        | int b => simp only [low, if_true] at hw; cases hw; exact Rep.less hl _ _ (by simp [low]) r
        | str b => simp only [low, if_true] at hw; cases hw; exact Rep.less hl _ _ (by simp [low]) r
        | tup b =>
          simp only at hw
          split at hw
          · rename_i hx; cases hw; exact Rep.less hl _ _ hx r
          · cases hw
        | ls b =>
          simp only at hw
          split at hw
          · rename_i hx; cases hw; exact Rep.less hl _ _ hx r
          · cases hw
        | fz b =>
          simp only at hw
          split at hw
          · rename_i hx; cases hw; exact Rep.less hl _ _ hx r
          · cases hw
        | dc k b =>
          simp only at hw
          split at hw
          · rename_i hx; cases hw; exact Rep.less hl _ _ hx r
          · cases hw
      · exact h.elim
    · exact h.elim
variable {P : Program} {w : World} {K : PySem.W.Frag} {mg : Str → Option Value} {base : Heap}
/-- a def of the text does what the small machine does -/
theorem def_P {x qual : Str} {st : Stmt} {f : Addr} {fd : FuncData} {N ps : List Str} {k : Nat} {mb : XS} (F : Fun K x qual st f fd) (sc : FnScope N ps (defScope st))
    (hb : ∀ (cdv : Value) (A : Around) (outer : List PySem.Env) (s : Shared) (H : Hp) (E : XK), Room k (A.deeper (PyProof.Rows.envOfC qual (defScope st) s.heap.objs.size f cdv)) →
      PSs (cxOf (L2.CX P w) P w K mg base N qual (defScope st) f cdv A outer s H E) (defBody st) (tIS G E mb)) : FnOk P w K mg base (L2.CX P w) (k + 1) f fd ps (spI G (fnP ps.length N.length mb)) := by
  refine F.okX sc (fun vs H Q E h => ?_) (fun cdv A outer s H vs Q E hr h => ⟨_, hb cdv A outer s H E hr, ?_⟩)
  · obtain ⟨ρ, S, args, hR, ra, h⟩ := h
    unfold fnP at h
    split at h
    · rename_i hl
      rw [← ra.length, hl]
    · exact h.elim
  · obtain ⟨ρ, S, args, hR, ra, h⟩ := h
    unfold fnP at h
    split at h
    · refine ⟨ρ, S, _, hR, envR_start ra, ?_⟩
      cases hm : mb (args.map some ++ List.replicate (N.length - args.length) none) S with
      | bad => rw [hm] at h; exact h
      | exc e S' => rw [hm] at h; exact h
      | ok p S' =>
        rw [hm] at h
        simp only [R.bind_ok] at h
        obtain ⟨fl, env'⟩ := p
        intro ρ' H' e q
        cases fl with
        | rt v => exact fun u ru => leave_ok hR e q ru h
        | nx => exact fun σ' hE' => leave_ok hR e q Rep.non h
        | bk => exact h.elim
        | ct => exact h.elim
    · exact h.elim
theorem def_K {x qual : Str} {st : Stmt} {f : Addr} {fd : FuncData} {N ps : List Str} {k : Nat} {mb : XS} (F : Fun K x qual st f fd) (sc : FnScope N ps (defScope st))
    (hb : ∀ (cdv : Value) (A : Around) (outer : List PySem.Env) (s : Shared) (H : Hp) (E : XK), Room k (A.deeper (PyProof.Rows.envOfC qual (defScope st) s.heap.objs.size f cdv)) →
      PSs (cxOf (L2.CX P w) P w K mg base N qual (defScope st) f cdv A outer s H E) (defBody st) (tIS G E mb)) : FnOk P w K mg base (L2.CX P w) (k + 1) f fd ps (spI G (fnK ps.length N.length mb)) := by
  refine F.okX sc (fun vs H Q E h => ?_) (fun cdv A outer s H vs Q E hr h => ⟨_, hb cdv A outer s H E hr, ?_⟩)
  · obtain ⟨ρ, S, args, hR, ra, h⟩ := h
    unfold fnK at h
    split at h
    · rename_i hl
      rw [← ra.length, hl]
    · exact h.elim
  · obtain ⟨ρ, S, args, hR, ra, h⟩ := h
    unfold fnK at h
    split at h
    · refine ⟨ρ, S, _, hR, envR_start ra, ?_⟩
      cases hm : mb (args.map some ++ List.replicate (N.length - args.length) none) S with
      | bad => rw [hm] at h; exact h
      | exc e S' => rw [hm] at h; exact h
      | ok p S' =>
        rw [hm] at h
        simp only [R.bind_ok] at h
        obtain ⟨fl, env'⟩ := p
        intro ρ' H' e q
        cases fl with
        | rt v => exact fun u ru => h ρ' H' e q u ru
        | nx => exact fun σ' hE' => h ρ' H' e q _ Rep.non
        | bk => exact h.elim
        | ct => exact h.elim
    · exact h.elim
end
/-! ### calls -/
section
variable {G : Gx} {E : XK} {X : Cx} {e o : Expr} {es : List Expr} {x m : Str} {p pos apos : Pos} {ms : XA} {mo : XE} {CX : CXT} {k : Nat} {f C : Addr} {fd : FuncData} {ps : List Str} {mf : XF}
theorem i_call (F : FnOk X.prog X.w X.K X.mg X.base CX k f fd ps (spI G mf)) (hr : Room k X.A) (hg : Gl X x) (hm : X.mg x = some (.ref f)) (hk : PySem.W.keepIn X.K (.ref f) = true) (hb : Binds X.K fd ps []) (hx : Passes CX X E) (ha : PA X (e :: es) (tIA G E ms)) (hdb : (x == ("__debug__" : Str)) = false := by decide)
    (hst : starEach (e :: es) X.env = (false, eval e X.env) :: starEach es X.env := by rfl) (hpl : (backTo pos (starEach es X.env)).any (·.1) = false := by rfl) : PE X (.Call (.Name x p) (e :: es) [] pos) (tI G E (eCall mf ms)) :=
  (pe_call F hr hg hm hk hb .nil hx ha hdb hst hpl).imp fun σ H Q h => by
    obtain ⟨ρ, S, env, hR, hE, h⟩ := h
    refine ⟨ρ, S, env, hR, hE, h.step fun ρ1 S1 H1 xs e1 hR1 h1 vs rvs => ?_⟩
    simp only [List.append_nil]
    exact ⟨ρ1, S1, xs, hR1, rvs, h1⟩
theorem i_meth {pl : Sem Bool} {C : Nat} (ho : PE X o (tI G E mo)) (c : Cls X.K C) (hm : Meth X.K C m f) (F : FnOk X.prog X.w X.K X.mg X.base CX k f fd ps (spI G mf)) (hr : Room k X.A) (hb : Binds X.K fd ps []) (hx : Passes CX X E) (ha : PA X (e :: es) (tIA G E ms))
    (hst : starEach (e :: es) X.env = (false, eval e X.env) :: starEach es X.env := by rfl) (hpl : (backTo pos (starEach es X.env)).any (·.1) = false := by rfl)
    (ht : eval (.Call (.Attribute o m apos) (e :: es) [] pos) X.env = (do
      let ov ← eval o X.env
      standAt apos.atName
      let (f, first) ← holding [ov] (getMethod ov m pl)
      callWith pos f first (backTo pos (starEach (e :: es) X.env)) (backToKw pos (keywordEach [] X.env))) := by rfl) : PE X (.Call (.Attribute o m apos) (e :: es) [] pos) (tI G E (eMe C m mf mo ms)) :=
  (pe_meth (pl := pl) ho c hm F hr hb .nil hx ha hst hpl ht).imp fun σ H Q h => by
    obtain ⟨ρ, S, env, hR, hE, h⟩ := h
    refine ⟨ρ, S, env, hR, hE, Aft.step (f := fun x S => _) h fun ρ1 S1 H1 x e1 hR1 h1 v rv => ?_⟩
    cases x with
    | loc l =>
      simp only at h1
      split at h1
      · rename_i C' fs hx
        split at h1
        · rename_i hc
          obtain ⟨hC, hno⟩ := hc
          subst hC
          have rv' := rv
          obtain ⟨a, dx, gs, rfl, hp, g2, g3, g4, g5⟩ := loc_ins hR1 rv hx
          have q := flds_look (f := m) g5
          rw [hno] at q
          refine ⟨a, dx, gs, rfl, g2, q, ρ1, S1, env, hR1, hE.ext e1, h1.step fun ρ2 S2 H2 xs e2 hR2 h2 vs rvs => ?_⟩
          simp only [List.append_nil]
          exact ⟨ρ2, S2, _, hR2, .cons (Rep.ext e2 _ _ rv') rvs, h2⟩
        · exact h1.elim
      · exact h1.elim
    | _ => exact h1.elim
theorem i_meth0 {pl : Sem Bool} {C : Nat} (ho : PE X o (tI G E mo)) (c : Cls X.K C) (hm : Meth X.K C m f) (F : FnOk X.prog X.w X.K X.mg X.base CX k f fd ps (spI G mf)) (hr : Room k X.A) (hb : Binds X.K fd ps []) (hx : Passes CX X E)
    (ht : eval (.Call (.Attribute o m apos) [] [] pos) X.env = (do
      let ov ← eval o X.env
      standAt apos.atName
      let (f, first) ← holding [ov] (getMethod ov m pl)
      callWith pos f first (backTo pos (starEach [] X.env)) (backToKw pos (keywordEach [] X.env))) := by rfl) : PE X (.Call (.Attribute o m apos) [] [] pos) (tI G E (eMe C m mf mo aNil)) :=
  (pe_meth0 (pl := pl) ho c hm F hr hb .nil hx ht).imp fun σ H Q h => by
    obtain ⟨ρ, S, env, hR, hE, h⟩ := h
    refine ⟨ρ, S, env, hR, hE, Aft.step (f := fun x S => _) h fun ρ1 S1 H1 x e1 hR1 h1 v rv => ?_⟩
    cases x with
    | loc l =>
      simp only at h1
      split at h1
      · rename_i C' fs hx
        split at h1
        · rename_i hc
          obtain ⟨hC, hno⟩ := hc
          subst hC
          have rv' := rv
          obtain ⟨a, dx, gs, rfl, hp, g2, g3, g4, g5⟩ := loc_ins hR1 rv hx
          have q := flds_look (f := m) g5
          rw [hno] at q
          refine ⟨a, dx, gs, rfl, g2, q, ?_⟩
          exact ⟨ρ1, S1, [.loc l], hR1, .cons rv' .nil, h1⟩
        · exact h1.elim
      · exact h1.elim
    | _ => exact h1.elim
theorem i_make {C : Nat} (M : Mk X.K C f) (F : FnOk X.prog X.w X.K X.mg X.base CX k f fd ps (spI G mf)) (hr : Room (k + 1) X.A) (hg : Gl X x) (hm : X.mg x = some (.ref C)) (hb : Binds X.K fd ps []) (hx : Passes CX X E) (ha : PA X (e :: es) (tIA G E ms)) (hdb : (x == ("__debug__" : Str)) = false := by decide)
    (hst : starEach (e :: es) X.env = (false, eval e X.env) :: starEach es X.env := by rfl) (hpl : (backTo pos (starEach es X.env)).any (·.1) = false := by rfl) : PE X (.Call (.Name x p) (e :: es) [] pos) (tI G E (eMake C mf ms)) :=
  (pe_make M F hr hg hm hb .nil hx ha hdb hst hpl).imp fun σ H Q h => by
    obtain ⟨ρ, S, env, hR, hE, h⟩ := h
    refine ⟨ρ, S, env, hR, hE, h.step fun ρ1 S1 H1 xs e1 hR1 h1 vs rvs a dx ha hdx ne => ?_⟩
    simp only [List.append_nil]
    have e2 : Ext ρ1 H1 ρ1 (upd H1 dx (.own a)) := Ext.new hdx
    have ha2 : (upd H1 dx (.own a)) a = none := by rw [upd_ne (Ne.symm ne)]; exact ha
    have e3 : Ext ρ1 (upd H1 dx (.own a)) (ρ1.add a) (upd (upd H1 dx (.own a)) a (.ins C dx [])) := Ext.grow ha2
    have out : (ρ1.add a).Out dx := by
      have o := hR1.out hdx
      refine ⟨fun z => ?_, o.2⟩
      rcases List.mem_append.mp (show dx ∈ ρ1.lb ++ [a] from z) with z | z
      · exact o.1 z
      · exact ne (List.mem_singleton.mp z)
    have q3 : Rel G.w G.K (ρ1.add a) (S1 ++ [.ins C []]) (upd (upd H1 dx (.own a)) a (.ins C dx [])) := (hR1.new hdx).grow ha2 ⟨dx, [], upd_same, by rw [upd_ne ne, upd_same], out, rfl⟩
    have e4 := e2.trans e3
    have ra : Rep G.K (ρ1.add a) (upd (upd H1 dx (.own a)) a (.ins C dx [])) (.loc S1.length) (.ref a) := by
      unfold Rep
      refine ⟨a, ?_, rfl⟩
      have := hR1.len
      show (ρ1.lb ++ [a])[S1.length]? = some a
      rw [← this]
      simp
    refine ⟨ρ1.add a, S1 ++ [.ins C []], _, q3, .cons ra (Reps.ext e4 _ _ rvs), (h1.shift e4).step fun ρ5 S5 H5 r e5 hR5 h5 v rv => ?_⟩
    split at h5
    · exact ⟨rv.non_of, h5.ok hR5 _ (Rep.ext e5 _ _ ra)⟩
    · exact h5.elim
end
end

/-! Mini9 -/
/-! Mini9: words in short for a text's own terms; what the first eight lack. -/
section
open PySem L2
section
variable {G : Gx} {E : XK} {X : Cx} {a b c e o : Expr} {ma mb mc me mo : XE} {pos : Pos}
theorem iv (i : Nat) {x : Str} (hN : X.N[i]? = some x := by rfl) (hv : Vis X.env.scope x := by first | exact Or.inl rfl | exact Or.inr (Or.inl rfl) | exact Or.inr (Or.inr rfl)) (hd : (x == ("__debug__" : Str)) = false := by decide) (hcd : (x == ("__classdict__" : Str)) = false := by decide) :
    PE X (.Name x pos) (tI G E (eVar i)) := i_var hN hv hd hcd
theorem gn {i : Nat} {x : Str} (hN : X.N.Nodup) (hi : X.N[i]? = some x := by rfl) (hx : Loc X.env.scope x := by first | exact Or.inl rfl | exact Or.inr rfl) (hf : X.fn x = true ∨ X.env.scope.names.lookup x = some .local := by first | exact .inl rfl | exact .inr rfl | assumption) :
    PG X (.Name x pos) (tIG G E [i] (gNm i)) := g_name hN hi hx hf
theorem i_gi {x : Str} {i : Int} (h : ∃ t, X.mg x = some (.int i t)) (hg : Gl X x := by rfl) (hd : (x == ("__debug__" : Str)) = false := by decide) : PE X (.Name x pos) (tI G E (eC (.int i))) := by
  obtain ⟨t, h⟩ := h
  exact i_c (pe_glob hg h (v := .int i) ⟨t, rfl⟩ hd) fun _ _ => Rep.int
theorem hu64 {A : Around} {k : Nat} (hr : Room k A) : A.units + 64 < cLine := Nat.lt_of_le_of_lt (Nat.add_le_add_left (by decide : 64 ≤ 64) _) hr.units
theorem m1_of {m : Str} {apos cpos : Pos} (h1 : attributeBase o m X.env (eval o X.env) = eval o X.env := by rfl)
    (h2 : ((backTo cpos (starEach [e] X.env)).all (fun x => !x.1) && (backToKw cpos (keywordEach [] X.env)).all (fun x => x.1.isSome) && decide (([e] : List Expr).length + ([] : List Keyword).length + (if ([] : List Keyword).isEmpty then 0 else 1) < 30)) = true := by rfl)
    (h3 : (apos.endLine == cpos.line) = true := by rfl) (h4 : backTo cpos (starEach [e] X.env) = [(false, eval e X.env)] := by rfl) : M1 X o m apos e cpos := ⟨h1, h2, h3, h4⟩
theorem m2_of {m : Str} {f : Expr} {apos cpos : Pos} (h1 : attributeBase o m X.env (eval o X.env) = eval o X.env := by rfl)
    (h2 : ((backTo cpos (starEach [e, f] X.env)).all (fun x => !x.1) && (backToKw cpos (keywordEach [] X.env)).all (fun x => x.1.isSome) && decide (([e, f] : List Expr).length + ([] : List Keyword).length + (if ([] : List Keyword).isEmpty then 0 else 1) < 30)) = true := by rfl)
    (h3 : (apos.endLine == cpos.line) = true := by rfl) (h4 : backTo cpos (starEach [e, f] X.env) = [(false, eval e X.env), (false, eval f X.env)] := by rfl) : M2 X o m apos e f cpos := ⟨h1, h2, h3, h4⟩
/-! a op1 b op2 c -/
theorem chain_read {o1 o2 : Op2} {r1 r2 : R2} (s1 : Sd2 G E r1 o1) (s2 : Sd2 G E r2 o2) {σ : L2.St} {H : Hp} {Q : VK} (h : tI G E (eChain o1 o2 ma mb mc) σ H Q) : tChain r1 r2 (tI G E ma) (tI G E mb) (tI G E mc) σ H Q := by
  obtain ⟨ρ, S, env, hR, hE, h⟩ := h
  refine ⟨ρ, S, env, hR, hE, h.step fun ρ1 S1 H1 x e1 hR1 h1 v rv => ?_⟩
  refine ⟨ρ1, S1, env, hR1, hE.ext e1, h1.step fun ρ2 S2 H2 y e2 hR2 h2 u ru => ?_⟩
  refine s1 ρ2 S2 H2 x y v u _ hR2 (Rep.ext e2 _ _ rv) ru (h2.step fun ρ3 S3 H3 z e3 hR3 h3 w rw' => ?_)
  split at h3
  · refine ⟨true, rw'.bl_of, ?_⟩
    rw [if_pos rfl]
    refine ⟨ρ3, S3, env, hR3, ((hE.ext e1).ext e2).ext e3, h3.step fun ρ4 S4 H4 z' e4 hR4 h4 w2 rw2 => ?_⟩
    exact s2 ρ4 S4 H4 y z' u w2 _ hR4 (Rep.ext e4 _ _ (Rep.ext e3 _ _ ru)) rw2 h4
  · refine ⟨false, rw'.bl_of, ?_⟩
    rw [if_neg Bool.false_ne_true]
    exact h3.ok hR3 _ Rep.bl
  · exact h3.elim
theorem i_chain {p q : CmpOp} {r1 r2 : R2} {o1 o2 : Op2} (h1 : OpR X (compareOp p) r1) (s1 : Sd2 G E r1 o1) (h2 : OpR X (compareOp q) r2) (s2 : Sd2 G E r2 o2) (ha : PE X a (tI G E ma)) (hb : PE X b (tI G E mb)) (hc : PE X c (tI G E mc))
    (hm : lastMarks [p, q] [b, c] = false := by with_unfolding_all rfl) : PE X (.Compare a [p, q] [b, c] pos) (tI G E (eChain o1 o2 ma mb mc)) :=
  (pe_chain h1 h2 ha hb hc hm).imp fun σ H Q h => chain_read s1 s2 h
theorem j_chain {p q : CmpOp} {r1 r2 : R2} {o1 o2 : Op2} (h1 : OpR X (compareOp p) r1) (s1 : Sd2 G E r1 o1) (h2 : OpR X (compareOp q) r2) (s2 : Sd2 G E r2 o2) (ha : PE X a (tI G E ma)) (hb : PE X b (tI G E mb)) (hc : PE X c (tI G E mc))
    (hm : lastMarks [p, q] [b, c] = false := by with_unfolding_all rfl) : PT X (.Compare a [p, q] [b, c] pos) (tIB G E (bVal (eChain o1 o2 ma mb mc))) :=
  (pt_chain h1 h2 ha hb hc hm).imp fun σ H Q h => chain_read s1 s2 (Q := fun x H' => ∃ k, x = .bl k ∧ Q k H') (by
    obtain ⟨ρ, S, env, hR, hE, h⟩ := h
    refine ⟨ρ, S, env, hR, hE, h.step fun ρ1 S1 H1 x e1 hR1 h1 v rv => ?_⟩
    split at h1
    · rw [rv.bl_of]
      exact ⟨_, rfl, h1.ok hR1⟩
    · exact h1.elim)
/-! reversed -/
theorem i_rev {tg : Expr} {p : Pos} (hg : Gl X "reversed") (hm : X.mg "reversed" = none) (hl : PE X e (tI G E me)) (hK : X.K = G.K := by rfl) (hs : starEach [e] X.env = [(false, eval e X.env)] := by rfl) :
    PI X tg (.Call (.Name "reversed" p) [e] [] pos) (tII G E (iRev me)) :=
  (pi_reversed hg hm (pa_cons hl pa_nil hs) hs).imp fun σ H R h => by
    obtain ⟨ρ, S, env, hR, hE, h⟩ := h
    refine ⟨ρ, S, env, hR, hE, h.step fun ρ1 S1 H1 x e1 hR1 h1 v rv => ?_⟩
    obtain ⟨⟨all, ha⟩, k⟩ := h1.ok hR1
    simp only [It.items] at ha
    cases x with
    | ls zs =>
      have r1 := rv
      unfold Rep at r1
      obtain ⟨a, vs, rfl, ⟨h2, h3⟩, h4⟩ := r1
      have sq : SqL X.K H1 a vs := .inl (.inl h2)
      refine ⟨a, vs, rfl, sq, ?_⟩
      rw [hK]
      refine k _ (src_rev fun ρ2 ρh S2 H2 ys e2 hd q h => ?_)
      cases h
      have r2 := Rep.extH e2 hd rv
      unfold Rep at r2
      obtain ⟨a', vs', e', ⟨g1, g2⟩, g3⟩ := r2
      cases e'
      exact ⟨h4.length, vs', .inl (.inl g1), g3⟩
    | _ => simp [lsOf] at ha
/-! new lists of the store -/
theorem sd_mulN : Sd2 G E (rMulU G.K) oMulN := fun ρ S H x y v u Q q rx ry h => by
  unfold oMulN at h
  split at h
  · rename_i j
    split at h
    · rename_i a h1
      split at h
      · rename_i hl
        rw [ry.int_of]
        obtain ⟨p, vs, rfl, t1, r1⟩ := lst_of q rx h1
        refine .inr (.inr (.inr ⟨p, j, vs, rfl, rfl, t1, by omega, by omega, ?_, put_new q (r1.rep _) h⟩))
        rw [← r1.length]
        exact Nat.le_trans (Nat.mul_le_mul hl.2.2 (by omega : j.toNat ≤ 1000)) (by rw [sizeLine_eq]; decide)
      · exact h.elim
    · exact h.elim
  · exact h.elim
theorem sd_addN : Sd2 G E (rAddU G.K) oAddN := fun ρ S H x y v u Q q rx ry h => by
  unfold oAddN at h
  split at h
  · rename_i a b h1 h2
    split at h
    · rename_i hl
      obtain ⟨p, vs, rfl, t1, r1⟩ := lst_of q rx h1
      obtain ⟨p2, us, rfl, t2, r2⟩ := lst_of q ry h2
      refine .inr (.inr ⟨p, p2, vs, us, rfl, rfl, t1, t2, ?_, put_new q (r1.append r2) h⟩)
      rw [← r1.length, ← r2.length]; exact lim_le hl
    · exact h.elim
  · exact h.elim
theorem fin_new {Q : VK} : Fin G E (fun xs S => R.ok (PV.loc S.length) (S ++ [.lst xs])) Q := by
  intro ρ1 H1 ρ2 S1 S2 H2 D acc vs hD hR1 e2 hR2 hD2 nD ra h2
  have nh : D ∉ ρ2.hid := fun z => by
    rw [e2.hid] at z
    obtain ⟨⟨o, ho, _⟩, _⟩ := hR1.hd D z
    rw [hD] at ho; cases ho
  refine h2 (ρ2.add D) H2 (e2.adopt hD) (hR2.adopt nh ⟨vs, hD2, Reps.adopt _ _ ra⟩) _ ?_
  unfold Rep
  refine ⟨D, ?_, rfl⟩
  have ql : ρ2.lb.length = S2.length := hR2.len
  show (ρ2.lb ++ [D])[S2.length]? = some D
  rw [← ql]
  simp
variable {iter tg : Expr} {mi : XI} {is : List Nat} {g : XG}
theorem lc_readN {wi : TI} {tt : TT} {te : TE} {tg' : TG} {own : List Nat} {mt : XB} {me : XE} {σ : L2.St} {H : Hp} {Q : VK} (hw : ∀ σ H R, tII G E mi σ H R → wi σ H R) (hg : ∀ v σ H Q, tIG G E0 is g v σ H Q → tg' v σ H Q) (ht : ∀ σ H Q, tIB G E0 mt σ H Q → tt σ H Q) (he : ∀ σ H Q, tI G E0 me σ H Q → te σ H Q) (hown : ∀ i ∈ is, i ∈ own)
    (h : tI G E (eLcN mi g mt me own) σ H Q) : tLc wi tg' tt te own σ H Q := lc_readF fin_new hw hg ht he hown h
theorem i_lcN {elt tg iter : Expr} {ifs : List Expr} {scope : Scope} {own : List (Str × Nat)} {pos : Pos} {mt : XB} {me : XE} (hc : X.calm = true) (hN : X.N.Nodup) (hi : PI X tg iter (tII G E mi)) (ok : BlkOk X.N X.env.scope scope own)
    (hg : ∀ (s : Shared) (H : Hp) (C : Addr) (cl : List (Str × Addr)) (fp : List Addr), PG (X.blk s H scope (compEnvC scope cl C X.env) fp) tg (tIG G E0 is g)) (ht : ∀ (s : Shared) (H : Hp) (C : Addr) (cl : List (Str × Addr)) (fp : List Addr), PTs (X.blk s H scope (compEnvC scope cl C X.env) fp) ifs (tIB G E0 mt))
    (he : ∀ (s : Shared) (H : Hp) (C : Addr) (cl : List (Str × Addr)) (fp : List Addr), PE (X.blk s H scope (compEnvC scope cl C X.env) fp) elt (tI G E0 me)) (hown : ∀ i ∈ is, i ∈ own.map (·.2) := by decide) (hs : ∀ x, foldedSetIterable iter X.env x = pure x := by intro _; rfl) :
    PE X (.ListComp elt [⟨tg, iter, ifs, 0⟩] scope pos) (tI G E (eLcN mi g mt me (own.map (·.2)))) :=
  (pe_lc hc hN hi ok hg ht he hs).imp fun σ H Q h => lc_readF fin_new (fun _ _ _ q => q) (fun _ _ _ _ q => q) (fun _ _ _ q => q) (fun _ _ _ q => q) hown h
theorem s_setLcN {i : Nat} {y : Str} {py : Pos} {elt tg iter : Expr} {ifs : List Expr} {scope : Scope} {own : List (Str × Nat)} {pos spos : Pos} {mt : XB} {me : XE} (hc : X.calm = true) (hN : X.N.Nodup) (hy : X.N[i]? = some y) (hyl : X.env.scope.names.lookup y = some .local)
    (hsw : swapsWith (.ListComp elt [⟨tg, iter, ifs, 0⟩] scope pos) (some (.Name y py)) spos.line X.env = pure true) (hi : PI X tg iter (tII G E mi)) (ok : BlkOk X.N X.env.scope scope own)
    (hg : ∀ (s : Shared) (H : Hp) (C : Addr) (cl : List (Str × Addr)) (fp : List Addr), PG (X.blk s H scope (compEnvC scope cl C X.env) fp) tg (tIG G E0 is g)) (ht : ∀ (s : Shared) (H : Hp) (C : Addr) (cl : List (Str × Addr)) (fp : List Addr), PTs (X.blk s H scope (compEnvC scope cl C X.env) fp) ifs (tIB G E0 mt))
    (he : ∀ (s : Shared) (H : Hp) (C : Addr) (cl : List (Str × Addr)) (fp : List Addr), PE (X.blk s H scope (compEnvC scope cl C X.env) fp) elt (tI G E0 me)) (hown : ∀ i ∈ is, i ∈ own.map (·.2) := by decide) (hs : ∀ x, foldedSetIterable iter X.env x = pure x := by intro _; rfl) :
    PS X (.Assign [.Name y py] (.ListComp elt [⟨tg, iter, ifs, 0⟩] scope pos) spos) (tIS G E (sAsg (eLcN mi g mt me (own.map (·.2))) (gNm i))) :=
  (ps_setLc hc hN hy hyl hsw hi ok hg ht he hs).imp fun D σ H h => by
    obtain ⟨ρ, S, env, hR, hE, h⟩ := h
    refine lc_readN (Q := fun x H1 => gName i x σ H1 D.nx) (fun _ _ _ q => q) (fun _ _ _ _ q => q) (fun _ _ _ q => q) (fun _ _ _ q => q) hown ⟨ρ, S, env, hR, hE, h.step fun ρ1 S1 H1 x e1 hR1 h1 v rv => ?_⟩
    exact h1.ok hR1 _ ((hE.ext e1).set i rv)
/-! a, b = x, y -/
theorem s_par {i j : Nat} {x y : Str} {ms : XA} {px py pt : Pos} {kt k2 pt2} (hc : X.calm = true) (hN : X.N.Nodup) (hi : X.N[i]? = some x) (hj : X.N[j]? = some y) (hij : i ≠ j)
    (hx : X.env.scope.names.lookup x = some .local) (hy : X.env.scope.names.lookup y = some .local) (ha : PA X [a, b] (tIA G E ms))
    (hw : swappedStores [.Tuple [.Name x px, .Name y py] kt pt] (.Tuple [a, b] k2 pt2) X.env = pure (some [x, y]))
    (hs : swapsWithSole [.Tuple [.Name x px, .Name y py] kt pt] (.Tuple [a, b] k2 pt2) pos.line X.env = pure false := by rfl) :
    PS X (.Assign [.Tuple [.Name x px, .Name y py] kt pt] (.Tuple [a, b] k2 pt2) pos) (tIS G E (sPar i j ms)) :=
  (ps_par hc hN hi hj hij hx hy ha hw hs).imp fun D σ H h => by
    obtain ⟨ρ, S, env, hR, hE, h⟩ := h
    refine ⟨ρ, S, env, hR, hE, h.step fun ρ1 S1 H1 xs e1 hR1 h1 vs rvs => ?_⟩
    split at h1
    · obtain ⟨v, u, rfl, rv, ru⟩ := two_of rvs
      exact ⟨v, u, rfl, h1.ok hR1 _ (((hE.ext e1).set i rv).set j ru)⟩
    · exact h1.elim
end
/-! ### defs by their data, calls -/
section
variable {G : Gx} {P : Program} {w : World} {K : PySem.W.Frag} {mg : Str → Option Value} {base : Heap} {xc : Str → Option Value}
theorem def_PD {x qual : Str} {params : Arguments} {body : List Stmt} {scope : Scope} {dvs : List V} {kws : List (Str × V)} {f : Addr} {fd : FuncData} {N ps : List Str} {k : Nat} {mb : XS} (F : FunD K x qual params body scope dvs kws f fd) (sc : FnScope N ps scope)
    (hb : ∀ (cdv : Value) (A : Around) (outer : List PySem.Env) (s : Shared) (H : Hp) (E : XK), Room k (A.deeper (PyProof.Rows.envOfC qual scope s.heap.objs.size f cdv)) →
      PSs (cxOf (L2.CX P w) P w K mg base N qual scope f cdv A outer s H E) body (tIS G E mb)) : FnOk P w K mg base (L2.CX P w) (k + 1) f fd ps (spI G (fnP ps.length N.length mb)) := by
  refine F.ok sc (fun vs H Q E h => ?_) (fun cdv A outer s H vs Q E hr h => ⟨_, hb cdv A outer s H E hr, ?_⟩)
  · obtain ⟨ρ, S, args, hR, ra, h⟩ := h
    unfold fnP at h
    split at h
    · rename_i hl
      rw [← ra.length, hl]
    · exact h.elim
  · obtain ⟨ρ, S, args, hR, ra, h⟩ := h
    unfold fnP at h
    split at h
    · refine ⟨ρ, S, _, hR, envR_start ra, ?_⟩
      cases hm : mb (args.map some ++ List.replicate (N.length - args.length) none) S with
      | bad => rw [hm] at h; exact h
      | exc e S' => rw [hm] at h; exact h
      | ok p S' =>
        rw [hm] at h
        simp only [R.bind_ok] at h
        obtain ⟨fl, env'⟩ := p
        intro ρ' H' e q
        cases fl with
        | rt v => exact fun u ru => leave_ok hR e q ru h
        | nx => exact fun σ' hE' => leave_ok hR e q Rep.non h
        | bk => exact h.elim
        | ct => exact h.elim
    · exact h.elim
theorem def_KD {x qual : Str} {params : Arguments} {body : List Stmt} {scope : Scope} {dvs : List V} {kws : List (Str × V)} {f : Addr} {fd : FuncData} {N ps : List Str} {k : Nat} {mb : XS} (F : FunD K x qual params body scope dvs kws f fd) (sc : FnScope N ps scope)
    (hb : ∀ (cdv : Value) (A : Around) (outer : List PySem.Env) (s : Shared) (H : Hp) (E : XK), Room k (A.deeper (PyProof.Rows.envOfC qual scope s.heap.objs.size f cdv)) →
      PSs (cxOf (L2.CX P w) P w K mg base N qual scope f cdv A outer s H E) body (tIS G E mb)) : FnOk P w K mg base (L2.CX P w) (k + 1) f fd ps (spI G (fnK ps.length N.length mb)) := by
  refine F.ok sc (fun vs H Q E h => ?_) (fun cdv A outer s H vs Q E hr h => ⟨_, hb cdv A outer s H E hr, ?_⟩)
  · obtain ⟨ρ, S, args, hR, ra, h⟩ := h
    unfold fnK at h
    split at h
    · rename_i hl
      rw [← ra.length, hl]
    · exact h.elim
  · obtain ⟨ρ, S, args, hR, ra, h⟩ := h
    unfold fnK at h
    split at h
    · refine ⟨ρ, S, _, hR, envR_start ra, ?_⟩
      cases hm : mb (args.map some ++ List.replicate (N.length - args.length) none) S with
      | bad => rw [hm] at h; exact h
      | exc e S' => rw [hm] at h; exact h
      | ok p S' =>
        rw [hm] at h
        simp only [R.bind_ok] at h
        obtain ⟨fl, env'⟩ := p
        intro ρ' H' e q
        cases fl with
        | rt v => exact fun u ru => h ρ' H' e q u ru
        | nx => exact fun σ' hE' => h ρ' H' e q _ Rep.non
        | bk => exact h.elim
        | ct => exact h.elim
    · exact h.elim
/-- what a caller needs of a def -/
def Cl (P : Program) (w : World) (K : PySem.W.Frag) (mg : Str → Option Value) (base : Heap) (xc : Str → Option Value) (x : Str) (ps : List Str) (k : Nat) (m : XF) : Prop :=
  ∃ fd, FnOk P w K mg base (L2.CX P w) k (He.ga K x) fd ps (spI ⟨K, xc, w⟩ m) ∧ mg x = some (.ref (He.ga K x)) ∧ PySem.W.keepIn K (.ref (He.ga K x)) = true ∧ Binds K fd ps [] ∧ ∃ oc od osl, K.lookup (He.ga K x) = some ⟨oc, od, .func fd, osl⟩
theorem lkF {x qual : Str} {params : Arguments} {body : List Stmt} {scope : Scope} {dvs : List V} {kws : List (Str × V)} {f : Addr} {fd : FuncData} (F : FunD K x qual params body scope dvs kws f fd) : ∃ oc od osl, K.lookup f = some ⟨oc, od, .func fd, osl⟩ := by
  obtain ⟨oc, od, dV, kV, doc, pm, an, cdv, ct, osl, e1, l1, _⟩ := F.ex
  exact ⟨oc, od, osl, l1⟩
def Cm (P : Program) (w : World) (K : PySem.W.Frag) (mg : Str → Option Value) (base : Heap) (xc : Str → Option Value) (C x : Str) (ps : List Str) (k : Nat) (m : XF) : Prop :=
  ∃ fd, FnOk P w K mg base (L2.CX P w) k (He.ma K (He.ga K C) x) fd ps (spI ⟨K, xc, w⟩ m) ∧ Binds K fd ps [] ∧ (x ≠ "__init__" → Meth K (He.ga K C) x (He.ma K (He.ga K C) x))
end
section
variable {E : XK} {X : Cx} {e o : Expr} {es : List Expr} {x m C : Str} {p pos apos : Pos} {ms : XA} {mo : XE} {k : Nat} {ps : List Str} {mf : XF} {xc : Str → Option Value}
theorem i_callC (c : Cl X.prog X.w X.K X.mg X.base xc x ps k mf) (hr : Room k X.A) (hg : Gl X x) (hx : Passes (L2.CX X.prog X.w) X E) (ha : PA X (e :: es) (tIA ⟨X.K, xc, X.w⟩ E ms)) (hdb : (x == ("__debug__" : Str)) = false := by decide)
    (hst : starEach (e :: es) X.env = (false, eval e X.env) :: starEach es X.env := by rfl) (hpl : (backTo pos (starEach es X.env)).any (·.1) = false := by rfl) : PE X (.Call (.Name x p) (e :: es) [] pos) (tI ⟨X.K, xc, X.w⟩ E (eCall mf ms)) := by
  obtain ⟨fd, h1, h2, h3, h4, _⟩ := c
  exact i_call h1 hr hg h2 h3 h4 hx ha hdb hst hpl
theorem i_makeC (M : Mk X.K (He.ga X.K x) (He.ma X.K (He.ga X.K x) "__init__")) (hm : X.mg x = some (.ref (He.ga X.K x))) (c : Cm X.prog X.w X.K X.mg X.base xc x "__init__" ps k mf) (hr : Room (k + 1) X.A) (hg : Gl X x) (hx : Passes (L2.CX X.prog X.w) X E) (ha : PA X (e :: es) (tIA ⟨X.K, xc, X.w⟩ E ms)) (hdb : (x == ("__debug__" : Str)) = false := by decide)
    (hst : starEach (e :: es) X.env = (false, eval e X.env) :: starEach es X.env := by rfl) (hpl : (backTo pos (starEach es X.env)).any (·.1) = false := by rfl) : PE X (.Call (.Name x p) (e :: es) [] pos) (tI ⟨X.K, xc, X.w⟩ E (eMake (He.ga X.K x) mf ms)) := by
  obtain ⟨fd, h1, h4, _⟩ := c
  exact i_make M h1 hr hg hm h4 hx ha hdb hst hpl
theorem i_methC {pl : Sem Bool} (ho : PE X o (tI ⟨X.K, xc, X.w⟩ E mo)) (c : Cls X.K (He.ga X.K C)) (hm : Cm X.prog X.w X.K X.mg X.base xc C m ps k mf) (hr : Room k X.A) (hx : Passes (L2.CX X.prog X.w) X E) (ha : PA X (e :: es) (tIA ⟨X.K, xc, X.w⟩ E ms)) (hni : m ≠ "__init__" := by decide)
    (hst : starEach (e :: es) X.env = (false, eval e X.env) :: starEach es X.env := by rfl) (hpl : (backTo pos (starEach es X.env)).any (·.1) = false := by rfl)
    (ht : eval (.Call (.Attribute o m apos) (e :: es) [] pos) X.env = (do
      let ov ← eval o X.env
      standAt apos.atName
      let (f, first) ← holding [ov] (getMethod ov m pl)
      callWith pos f first (backTo pos (starEach (e :: es) X.env)) (backToKw pos (keywordEach [] X.env))) := by rfl) : PE X (.Call (.Attribute o m apos) (e :: es) [] pos) (tI ⟨X.K, xc, X.w⟩ E (eMe (He.ga X.K C) m mf mo ms)) := by
  obtain ⟨fd, h1, h4, h5⟩ := hm
  exact i_meth (pl := pl) ho c (h5 hni) h1 hr h4 hx ha (hst := hst) (hpl := hpl) (ht := ht)
theorem i_meth0C {pl : Sem Bool} (ho : PE X o (tI ⟨X.K, xc, X.w⟩ E mo)) (c : Cls X.K (He.ga X.K C)) (hm : Cm X.prog X.w X.K X.mg X.base xc C m ps k mf) (hr : Room k X.A) (hx : Passes (L2.CX X.prog X.w) X E) (hni : m ≠ "__init__" := by decide)
    (ht : eval (.Call (.Attribute o m apos) [] [] pos) X.env = (do
      let ov ← eval o X.env
      standAt apos.atName
      let (f, first) ← holding [ov] (getMethod ov m pl)
      callWith pos f first (backTo pos (starEach [] X.env)) (backToKw pos (keywordEach [] X.env))) := by rfl) : PE X (.Call (.Attribute o m apos) [] [] pos) (tI ⟨X.K, xc, X.w⟩ E (eMe (He.ga X.K C) m mf mo aNil)) := by
  obtain ⟨fd, h1, h4, h5⟩ := hm
  exact i_meth0 (pl := pl) ho c (h5 hni) h1 hr h4 hx (ht := ht)
end
end

/-! Mini10 -/
/-! Mini10: dicts of the top by their text; a def of which nothing is asked. -/
section
open PySem L2
def relP (K : PySem.W.Frag) : Nat → PV → Value → Bool
  | _, .int i, .int j _ => decide (i = j)
  | _, .str x, .str y _ => decide (x = y)
  | n + 1, .tup xs, .ref a => (match K.lookup a with
    | some ⟨.type c, _, .seq its _, _⟩ => decide (c = "tuple") && (decide (its.size ≤ sizeLine) && (decide (xs.length = its.toList.length) && (xs.zip its.toList).all fun p => relP K n p.1 p.2))
    | _ => false)
  | _, _, _ => false
theorem relP_ok {K : PySem.W.Frag} : ∀ (n : Nat) (x : PV) (u : Value), relP K n x u = true → ∃ v, RelV v u ∧ ∀ ρ H, Rep K ρ H x v
  | n, .int i, u, h => by
    cases u with
    | int j t =>
      unfold relP at h
      have e : i = j := of_decide_eq_true h
      exact ⟨.int i, ⟨t, by rw [e]⟩, fun _ _ => Rep.int⟩
    | _ => unfold relP at h; cases h
  | n, .str x, u, h => by
    cases u with
    | str y t =>
      unfold relP at h
      have e : x = y := of_decide_eq_true h
      exact ⟨.str x, ⟨t, by rw [e]⟩, fun _ _ => Rep.str⟩
    | _ => unfold relP at h; cases h
  | n + 1, .tup xs, u, h => by
    cases u with
    | ref a =>
      unfold relP at h
      split at h
      · rename_i c o its m sl hl
        simp only [Bool.and_eq_true, decide_eq_true_eq] at h
        obtain ⟨rfl, h2, h3, h4⟩ := h
        have key : ∀ (xs : List PV) (us : List Value), xs.length = us.length → (∀ p ∈ xs.zip us, relP K n p.1 p.2 = true) → ∃ vs, Vals vs us ∧ ∀ ρ H, Reps K ρ H xs vs := by
          intro xs
          induction xs with
          | nil =>
            intro us hl _
            have : us = [] := List.eq_nil_of_length_eq_zero hl.symm
            subst this
            exact ⟨[], .nil, fun _ _ => Reps.nil⟩
          | cons x r ih =>
            intro us hl hz
            cases us with
            | nil => cases hl
            | cons u us =>
              obtain ⟨v, r1, r2⟩ := relP_ok n x u (hz (x, u) (by simp))
              obtain ⟨vs, q1, q2⟩ := ih us (by simpa using hl) fun p hp => hz p (by simp [hp])
              exact ⟨v :: vs, .cons r1 q1, fun ρ H => .cons (r2 ρ H) (q2 ρ H)⟩
        obtain ⟨vs, q1, q2⟩ := key xs its.toList h3 (List.all_eq_true.mp h4)
        refine ⟨.ref a, rfl, fun ρ H => ?_⟩
        unfold Rep
        exact ⟨a, vs, rfl, .inr ⟨_, its, m, hl, rfl, rfl, h2, q1⟩, q2 ρ H⟩
      · cases h
    | _ => unfold relP at h; cases h
  | 0, .tup xs, u, h => by cases u <;> (unfold relP at h; cases h)
  | n, .non, u, h => by cases u <;> (unfold relP at h; cases h)
  | n, .bl _, u, h => by cases u <;> (unfold relP at h; cases h)
  | n, .ls _, u, h => by cases u <;> (unfold relP at h; cases h)
  | n, .fz _, u, h => by cases u <;> (unfold relP at h; cases h)
  | n, .dc _ _, u, h => by cases u <;> (unfold relP at h; cases h)
  | n, .loc _, u, h => by cases u <;> (unfold relP at h; cases h)
def keyStr (e : DictEntry) : Option Str := match e.key with
  | .str x _ => some x
  | _ => none
def dictP (K : PySem.W.Frag) (a : Addr) (ks : List Str) (xs : List PV) : Bool := match K.lookup a with
  | some ⟨_, _, .dict es _, _⟩ => decide (es.toList.map keyStr = ks.map some) && (decide (xs.length = es.toList.length) && (xs.zip es.toList).all fun p => relP K 4 p.1 p.2.val)
  | _ => false
theorem tab_of {K : PySem.W.Frag} {k : Str} : ∀ (es : List DictEntry) (ks : List Str) (xs : List PV), es.map keyStr = ks.map some → xs.length = es.length → (∀ p ∈ xs.zip es, relP K 4 p.1 p.2.val = true) →
    ∃ v, RelV v (((es.find? fun e => Value.isStrOf k e.key).map (·.val)).getD .none) ∧ ∀ ρ H, Rep K ρ H ((lookS ks xs k).getD .non) v
  | [], ks, xs, h1, h2, h3 => by
    have : ks = [] := by cases ks with | nil => rfl | cons a b => cases h1
    subst this
    have : xs = [] := List.eq_nil_of_length_eq_zero h2
    subst this
    exact ⟨.non, rfl, fun ρ H => Rep.non⟩
  | e :: es, ks, xs, h1, h2, h3 => by
    cases ks with
    | nil => cases h1
    | cons y ks =>
      cases xs with
      | nil => cases h2
      | cons x xs =>
        have a1 : keyStr e = some y := (List.cons.inj h1).1
        have a2 := (List.cons.inj h1).2
        obtain ⟨v, ih1, ih2⟩ := tab_of es ks xs a2 (by simpa using h2) fun p hp => h3 p (by simp [hp])
        obtain ⟨v0, r1, r2⟩ := relP_ok 4 x e.val (h3 (x, e) (by simp))
        have ek : ∃ t, e.key = .str y t := by
          unfold keyStr at a1
          split at a1
          · rename_i z t hz
            cases a1
            exact ⟨t, hz⟩
          · cases a1
        obtain ⟨t, ek⟩ := ek
        by_cases hy : y = k
        · refine ⟨v0, ?_, fun ρ H => ?_⟩
          · rw [List.find?_cons_of_pos (by rw [ek]; show (Value.isStrOf k (.str y t)) = true; simp [Value.isStrOf, hy])]
            exact r1
          · unfold lookS
            rw [if_pos hy]
            exact r2 ρ H
        · refine ⟨v, ?_, fun ρ H => ?_⟩
          · rw [List.find?_cons_of_neg (by rw [ek]; show ¬ (Value.isStrOf k (.str y t)) = true; simp [Value.isStrOf, hy])]
            exact ih1
          · unfold lookS
            rw [if_neg hy]
            exact ih2 ρ H
theorem dictP_ok {K : PySem.W.Frag} {w : World} {a : Addr} {ks : List Str} {xs : List PV} {es : Array DictEntry} {n : Nat} (D : KDict K w a es n) (h : dictP K a ks xs = true) : Tab K es ks xs := by
  unfold dictP at h
  rw [D.at_] at h
  simp only [Bool.and_eq_true, decide_eq_true_eq] at h
  obtain ⟨h1, h2, h3⟩ := h
  intro k
  have q := tab_of (k := k) es.toList ks xs h1 h2 (List.all_eq_true.mp h3)
  unfold findBy
  rw [← Array.find?_toList]
  exact q
theorem i_kgetT {E : XK} {X : Cx} {e : Expr} {me : XE} {xc : Str → Option Value} {x : Str} {p apos cpos : Pos} {ks : List Str} {xs : List PV} (h : ∃ a es n, X.mg x = some (.ref a) ∧ KDict X.K X.w a es n ∧ Tab X.K es ks xs) (hg : Gl X x) (he : PE X e (tI ⟨X.K, xc, X.w⟩ E me))
    (m : M1 X (.Name x p) "get" apos e cpos) (hd : (x == ("__debug__" : Str)) = false := by decide) : PE X (.Call (.Attribute (.Name x p) "get" apos) [e] [] cpos) (tI ⟨X.K, xc, X.w⟩ E (eGetS ks xs me)) := by
  obtain ⟨a, es, n, h1, h2, h3⟩ := h
  exact i_kget hg h1 h2.at_ h2.lit h2.low h3 he m hd
theorem def_bad {G : Gx} {P : Program} {w : World} {K : PySem.W.Frag} {mg : Str → Option Value} {base : Heap} {CX : CXT} {x qual : Str} {params : Arguments} {body : List Stmt} {scope : Scope} {dvs : List V} {kws : List (Str × V)} {f : Addr} {fd : FuncData} {N ps : List Str} {k : Nat} (F : FunD K x qual params body scope dvs kws f fd) (sc : FnScope N ps scope) :
    FnOk P w K mg base CX (k + 1) f fd ps (spI G fun _ _ => .bad) := by
  refine F.ok sc (fun vs H Q E h => ?_) (fun cdv A outer s H vs Q E hr h => ?_)
  · obtain ⟨ρ, S, args, hR, ra, h⟩ := h
    exact h.elim
  · obtain ⟨ρ, S, args, hR, ra, h⟩ := h
    exact h.elim
end

/-! MiniU -/
/-! MiniU: d.update(e), e written out, texts the keys. -/
section
open PySem PySem.Spec PyProof.Rows L2
def rUpd : V → List V → Hp → VK → Prop := fun x xs H Q => ∃ a b kvs lvs, x = .ref a ∧ xs = [.ref b] ∧ H a = some (.dK kvs) ∧ Rd H b (.dK lvs) ∧ a ≠ b ∧ kvs.length + lvs.length ≤ sizeLine ∧ Q .non (upd H a (.dK (mergeK kvs lvs)))
theorem mt_upd {X : Cx} : MtR X "dict.update" rUpd := by
  rintro pins s σ H x xs _ us Q I rx rxs ⟨a, b, kvs, lvs, rfl, rfl, ha, hb, hne, hz, q⟩
  cases rx
  cases rxs with
  | cons r1 r2 =>
    cases r1
    cases r2
    obtain ⟨z1, d1, vs, rel1, dd1⟩ := dk_of I.hok ha
    obtain ⟨z2, d2, ws, rel2, dd2⟩ := dk_rd I.hok hb
    refine call_meetsIn F.slot_dict_update dd1.typeIs F.entry_dict_update (F.args_dict_update_2 _ _) (meets_dict_update (mixKind X.prog X.w) a b hne d2) ⟨vs, ws, dd1, dd2, ?_, fun h' m1 m2 hs => ?_⟩
    · rw [← rel1.length, ← rel2.length]; exact hz
    · have hl : (mergeK kvs lvs).length ≤ sizeLine := Nat.le_trans (length_mergeK lvs kvs) hz
      have he : ∃ q, h'.get? a = some q := let ⟨q, _, _, hq, _⟩ := m1; ⟨q, hq⟩
      exact ⟨.non, _, d_write (t' := s.toks) I (by rw [ha]; exact True.intro) hs he (dk_new hl d1 (rel2.merge rel1) m1), rfl, q⟩
theorem merge_put {K : PySem.W.Frag} {ρ : Rho} {H : Hp} : ∀ (js : List Str) (ys : List PV) (us : List V), Reps K ρ H ys us → js.length = ys.length → ∀ (ks : List Str) (xs : List PV) (vs : List V), Reps K ρ H xs vs → ks.length = xs.length → ks.Nodup →
    ∃ ws, mergeK (keysV ks vs) (keysV js us) = keysV (mergeS ks xs js ys).1 ws ∧ Reps K ρ H (mergeS ks xs js ys).2 ws ∧ (mergeS ks xs js ys).1.length = (mergeS ks xs js ys).2.length ∧ (mergeS ks xs js ys).1.Nodup
  | [], ys, us, r, hl, ks, xs, vs, r0, hl0, hn => by
    have : ys = [] := List.eq_nil_of_length_eq_zero hl.symm
    subst this
    unfold Reps at r
    subst r
    exact ⟨vs, rfl, r0, hl0, hn⟩
  | j :: js, [], us, r, hl, ks, xs, vs, r0, hl0, hn => by cases hl
  | j :: js, y :: ys, us, r, hl, ks, xs, vs, r0, hl0, hn => by
    obtain ⟨u, s, rfl, r1, r2⟩ := r.uncons
    obtain ⟨ws, e, h1, h2, h3, _⟩ := putS_put (k := j) r1 r0 hl0 hn
    obtain ⟨zs, e2, g1, g2, g3⟩ := merge_put js ys s r2 (by simpa using hl) _ _ ws h1 h2 h3
    refine ⟨zs, ?_, g1, g2, g3⟩
    show mergeK (putK (keysV ks vs) (.inr j) u) (keysV js s) = _
    rw [e, e2]
    rfl
theorem i_upd {G : Gx} {E : XK} {X : Cx} {o e : Expr} {mo me : XE} {apos cpos : Pos} (ho : PE X o (tI G E mo)) (he : PE X e (tI G E me)) (hbase : attributeBase o "update" X.env (eval o X.env) = eval o X.env := by rfl)
    (hfew : ((backTo cpos (starEach [e] X.env)).all (fun x => !x.1) && (backToKw cpos (keywordEach [] X.env)).all (fun x => x.1.isSome) && decide (([e] : List Expr).length + ([] : List Keyword).length + (if ([] : List Keyword).isEmpty then 0 else 1) < 30)) = true := by rfl)
    (hline : (apos.endLine == cpos.line) = true := by rfl) (hs : starEach (e :: []) X.env = (false, eval e X.env) :: starEach [] X.env := by rfl) (hplain : (backTo cpos (starEach [] X.env)).any (·.1) = false := by rfl) : PE X (.Call (.Attribute o "update" apos) [e] [] cpos) (tI G E (eUpd mo me)) :=
  (pe_bm F.plainAttrs_dict F.slot_dict_update F.type_dict_update mt_upd ho (pa_cons he pa_nil hs) hbase hfew hline hs hplain).imp fun σ H Q h => by
    obtain ⟨ρ, S, env, hR, hE, h⟩ := h
    refine ⟨ρ, S, env, hR, hE, Aft.step (f := fun x S => _) h fun ρ1 S1 H1 x e1 hR1 h1 v rv => ?_⟩
    cases x with
    | loc l =>
      simp only at h1
      split at h1
      · rename_i ks0 xs0 hx0
        have rv' := rv
        unfold Rep at rv'
        obtain ⟨a, ha, rfl⟩ := rv'
        obtain ⟨c, hc, ca⟩ := hR1.cell ha
        rw [hx0] at hc
        cases hc
        obtain ⟨vs0, g1, _⟩ := ca
        refine ⟨.inr (.inr (.inl ⟨rfl, .inl ⟨_, g1⟩⟩)), ?_⟩
        refine ⟨ρ1, S1, env, hR1, hE.ext e1, h1.step fun ρ2 S2 H2 y e2 hR2 h2 u ru => ?_⟩
        split at h2
        · rename_i js ys ks xs hx2
          split at h2
          · rename_i hlen
            have rv2 := Rep.ext e2 _ _ rv
            unfold Rep at rv2
            obtain ⟨a', ha', e'⟩ := rv2
            cases e'
            obtain ⟨c, hc, ca⟩ := hR2.cell ha'
            rw [hx2] at hc
            cases hc
            obtain ⟨vs, k1, k2, k3, k4⟩ := ca
            unfold Rep at ru
            obtain ⟨b, us, rfl, ⟨m1, m2⟩, m3, m4, m5⟩ := ru
            have hab : a ≠ b := fun z => m2.1 (z ▸ List.mem_of_getElem? ha')
            obtain ⟨ws, w1, w2, w3, w4⟩ := merge_put js ys us m5 m3 ks xs vs k4 k2 k3
            refine H2 |> fun _ => ⟨a, b, _, _, rfl, rfl, k1, m1, hab, ?_, ?_⟩
            · rw [keysV_length (by rw [k2, k4.length]), keysV_length (by rw [m3, m5.length])]
              exact Nat.le_trans hlen (by rw [sizeLine_eq]; decide)
            · rw [w1]
              have mem : a ∈ ρ2.lb := List.mem_of_getElem? ha'
              have e3 : Ext ρ2 H2 ρ2 (upd H2 a (.dK (keysV (mergeS ks xs js ys).1 ws))) := Ext.write mem
              exact h2 ρ2 _ e3 (hR2.write ha' ⟨ws, upd_same, w3, w4, Reps.ext e3 _ _ w2⟩) _ Rep.non
          · exact h2.elim
        · exact h2.elim
      · exact h1.elim
    | _ => exact h1.elim
end

/-! Mini11 -/
/-! Mini11: a law's end. -/
section
open PySem L2
/-- a law that is true at every script, by the small machine -/
theorem law_end {l : PySem.W.OpenLaw} {P : Program} {w : World} {K : PySem.W.Frag} {mg : Str → Option Value} {h : Heap} {fa : Addr} {k : Nat} {x : Str} {m : XF} {d : He.DefD} {xc : Str → Option Value}
    (F : ∃ fd, FunD K d.name d.qual d.params d.body d.scope (d.dvs K) (d.kws K) (He.fAd K d.at_) fd) (hmg : mg ("law" : Str) = some (.ref fa)) (hg : mg ("law" : Str) = some (.ref (He.ga K "law")))
    (hT : ∀ p ∈ KD, h.get? (He.cT K p).2 = some { cls := .none, data := .fields #[] } ∧ K.lookup (He.cT K p).2 = none ∧ PySem.W.CodeHd h (He.cT K p).1 (He.cT K p).2)
    (hc : ∀ base, (∀ p ∈ KD, LamX.TabB base mg (He.cT K p).1 (He.cT K p).2) → Cl P w K mg base xc "law" [x] k m) (hm : ∀ ns : List Int, ns.length ≤ 63 → (∀ z ∈ ns, Builtin.Int.intBits z ≤ 1048576) → ∃ S, m [.fz (ns.map .int)] [] = .ok (.bl true) S)
    (hP : l.prog = P := by rfl) (hd0 : He.fAd K d.at_ = He.ga K "law" := by rfl) (hdv : d.dvs K = [] := by rfl) (hkw : d.kws K = [] := by rfl)
    (hbi : ∀ (kV doc pm : Value) (an : Option Addr) (cdv ct : Value) (us : List Value), us.length = 1 → bindArgs (PySem.W.fnOf d.name d.qual d.params d.body d.scope .none kV doc pm an cdv ct) ⟨us, []⟩ = pure ([x].zip us) := by exact fun _ _ _ _ _ _ us hl => match us, hl with | [_], _ => rfl) :
    LamX.LawAtS l w K (L2.CX P w) k 63 x mg fa h := by
  subst hP
  have e : fa = He.ga K "law" := by
    rw [hg] at hmg
    cases hmg
    rfl
  subst e
  obtain ⟨fd, F⟩ := F
  rw [hdv, hkw, hd0] at F
  refine ⟨fd, KD.map (He.cT K), spI ⟨K, xc, w⟩ m, ?_, ?_, ?_, fun s u => F.bindsA (ps := [x]) hbi s [u] rfl, ?_, ?_⟩
  · intro p hp
    obtain ⟨q, hq, rfl⟩ := List.mem_map.mp hp
    exact (hT q hq).1
  · intro p hp
    obtain ⟨q, hq, rfl⟩ := List.mem_map.mp hp
    exact (hT q hq).2.1
  · intro p hp
    obtain ⟨q, hq, rfl⟩ := List.mem_map.mp hp
    exact (hT q hq).2.2
  · intro H a ns hl hb hcs hS
    obtain ⟨S, hm⟩ := hm ns hl hb
    refine ⟨⟨[], []⟩, [], [.fz (ns.map .int)], ⟨rfl, List.nodup_nil, fun l c a h1 h2 => (by cases h1), fun a ha => (by cases ha), fun p hp => ?_⟩, ?_, ?_⟩
    · obtain ⟨q, hq, rfl⟩ := List.mem_map.mp hp
      exact LamX.TabS.nil (hcs _ (List.mem_map_of_mem hq))
    · refine Reps.cons ?_ Reps.nil
      unfold Rep
      refine ⟨a, ns.map V.int, rfl, ?_, ?_⟩
      · rcases hS with hS | hS
        · exact .inl ⟨hS, by simp [Rho.Out]⟩
        · exact .inr hS
      · clear hm hS hl hb
        induction ns with
        | nil => exact Reps.nil
        | cons i r ih => exact .cons Rep.int ih
    · show Aft _ _ _ _ (m [.fz (ns.map .int)] []) _
      rw [hm]
      intro ρ' H' e q v rv
      exact rv.bl_of
  · intro base hB hN hTB
    obtain ⟨fd2, h1, _, _, _, oc2, od2, osl2, l2⟩ := hc base fun p hp => hTB _ (List.mem_map_of_mem hp)
    obtain ⟨oc, od, osl, l1⟩ := lkF F
    rw [l1] at l2
    cases l2
    exact h1
end

/-! Mini12 -/
/-! Mini12: f-strings, raise. -/
section
open PySem L2
/-- {e} -/
def eFmt (m : XE) : XE := fun env S => (m env S).bind fun x S1 => match x with
  | .str y => if y.length ≤ lim then .ok (.str y) S1 else .bad
  | .int i => if i.natAbs.log2 < 1920 then .ok (.str (toString i : String)) S1 else .bad
  | _ => .bad
def jGo : List XE → Str → XE
  | [], acc, _, S => .ok (.str acc) S
  | m :: ms, acc, env, S => (m env S).bind fun x S1 => match x with
    | .str y => if (acc ++ y).length ≤ lim then jGo ms (acc ++ y) env S1 else .bad
    | _ => .bad
/-- f'..' of two parts or more -/
def eJoin (ms : List XE) : XE := jGo ms Str.empty
/-- raise C(m), C an own class without own __init__ -/
def sRaise (c : Str) (m : XE) : XS := fun env S => (m env S).bind fun _ S1 => .exc ⟨c, []⟩ S1
section
variable {G : Gx} {E : XK} {X : Cx} {e : Expr} {me : XE} {pos p pos' : Pos}
theorem i_fmt (he : PE X e (tI G E me)) : PE X (.FormattedValue e (-1) none pos) (tI G E (eFmt me)) :=
  (pe_fmt he).imp fun σ H Q h => by
    obtain ⟨ρ, S, env, hR, hE, h⟩ := h
    refine ⟨ρ, S, env, hR, hE, h.step fun ρ1 S1 H1 x e1 hR1 h1 v rv => ?_⟩
    cases x with
    | str y =>
      simp only at h1
      split at h1
      · rename_i hy
        exact .inl ⟨y, rv.str_of, lim_le hy, h1.ok hR1 _ Rep.str⟩
      · exact h1.elim
    | int i =>
      simp only at h1
      split at h1
      · rename_i hi
        exact .inr ⟨i, rv.int_of, hi, h1.ok hR1 _ Rep.str⟩
      · exact h1.elim
    | _ => exact h1.elim
inductive JS (G : Gx) (E : XK) (X : Cx) : List Expr → List XE → Prop where
  | nil : JS G E X [] []
  | cons {e : Expr} {m : XE} {es : List Expr} {ms : List XE} (h : PE X e (tI G E m)) (r : JS G E X es ms) : JS G E X (e :: es) (m :: ms)
theorem JS.pj {es : List Expr} {ms : List XE} (h : JS G E X es ms) : PJ X es (ms.map (tI G E)) := by
  induction h with
  | nil => exact .nil
  | cons h _ ih => exact .cons h ih
theorem js_read {σ : L2.St} {env : Env} {Q : VK} : ∀ (ms : List XE) (acc : Str) (ρ : Rho) (S : Store) (H : Hp), Rel G.w G.K ρ S H → EnvR G.K ρ H env σ → Aft G E ρ H (jGo ms acc env S) (kV G Q) → tJs (ms.map (tI G E)) acc σ H fun out H1 => Q (.str out) H1
  | [], acc, ρ, S, H, hR, hE, h => h.ok hR _ Rep.str
  | m :: ms, acc, ρ, S, H, hR, hE, h => by
    refine ⟨ρ, S, env, hR, hE, Aft.step h fun ρ1 S1 H1 x e1 hR1 h1 v rv => ?_⟩
    cases x with
    | str y =>
      simp only at h1
      split at h1
      · rename_i hy
        exact ⟨y, rv.str_of, lim_le hy, js_read ms _ ρ1 S1 H1 hR1 (hE.ext e1) h1⟩
      · exact h1.elim
    | _ => exact h1.elim
theorem i_join {v1 v2 : Expr} {rest : List Expr} {ms : List XE} (h : JS G E X (v1 :: v2 :: rest) ms) : PE X (.JoinedStr (v1 :: v2 :: rest) pos) (tI G E (eJoin ms)) :=
  (pe_joined h.pj).imp fun σ H Q q => by
    obtain ⟨ρ, S, env, hR, hE, q⟩ := q
    exact js_read ms _ ρ S H hR hE q
/-- what is known of an own class that is raised -/
structure Own (K : PySem.W.Frag) (xc : Str → Option Value) (x : Str) (C : Addr) : Prop where
  q : PySem.W.excIn K C He.veBase "ValueError.__new__" = true
  kC : PySem.W.keepIn K (.ref C) = true
  h1 : PySem.W.subIn K (.ref C) (.type "BaseException") = some true
  h2 : PySem.W.typeIn K (.ref C) = some (.type "type")
  hx : xc x = some (.ref C)
theorem s_raise {x : Str} {C : Addr} (o : Own X.K G.xc x C) (hK : X.K = G.K) (hc : X.calm = true) (tk : Takes X fun cls d _ H => E cls d H) (gC : X.mg x = some (.ref C)) (hg : Gl X x) (he : PE X e (tI G E me))
    (hs : starEach [e] X.env = (false, eval e X.env) :: starEach [] X.env := by rfl) (hdb : (x == ("__debug__" : Str)) = false := by decide) : PS X (.Raise (some (.Call (.Name x p) [e] [] pos)) none pos') (tIS G E (sRaise x me)) :=
  (ps_raise hc tk (SkE.pmk_own1 PySem.F.excBase_ValueError o.q gC o.kC (raises_own o.h1 o.h2) hg he hs hdb)).imp fun D σ H h => by
    obtain ⟨ρ, S, env, hR, hE, h⟩ := h
    refine ⟨ρ, S, env, hR, hE, h.step fun ρ1 S1 H1 y e1 hR1 h1 v rv => ?_⟩
    exact h1 ρ1 H1 _ none (Ext.refl _ _) hR1 ⟨o.hx, .inl ⟨rfl, rfl⟩⟩
end
end

/-! Mini13 -/
/-! Mini13: list.count of truth values; a def that tells the class of what its lambda lets out. -/
section
open PySem L2
section
variable {X : Cx}
def eqkB (k : Bool) (v : Value) : Bool := match v with
  | .bool b => b == k
  | _ => false
theorem blsVals {us : List Value} {bs : List Bool} (r : Vals (bs.map V.bl) us) : us = bs.map Value.bool := by
  induction bs generalizing us with
  | nil => cases r; rfl
  | cons b bs ih =>
    cases r with
    | cons h t =>
      cases h
      rw [ih t]
      rfl
def rCntB (K : PySem.W.Frag) : V → List V → Hp → VK → Prop := fun x xs H Q => ∃ (p : Addr) (bs : List Bool) (k : Bool), x = .ref p ∧ xs = [.bl k] ∧ SqL K H p (bs.map V.bl) ∧ Q (.int (bs.count k : Nat)) H
theorem mt_bcount : MtR X "list.count" (rCntB X.K) := by
  intro pins s σ H x xs v us Q I rx rxs h
  obtain ⟨p, bs, k, rfl, rfl, hs, q⟩ := h
  cases rx
  obtain ⟨u, rfl, ru⟩ := rxs.one
  cases ru
  obtain ⟨its, rv, ⟨⟨cls, dd, data, sl⟩, n, ho, hc, hdn, hd⟩, hlen⟩ := I.list hs
  simp only at hc hd
  subst hc hd
  have hi := blsVals rv
  refine call_meets PySem.F.slot_list_count ⟨_, ho, rfl⟩ PySem.F.entry_list_count (PySem.F.args_list_count_2 _ _)
    (SeqAt.list_countAt p its.toArray n dd sl (.bool k) (eqkB k)) ⟨ho, fun y hy => ?_, ?_⟩
  · have hy : y ∈ its := by simpa using hy
    rw [hi] at hy
    obtain ⟨b, _, rfl⟩ := List.mem_map.mp hy
    exact SeqAt.EqAt.bool_bool b k
  · have ec : its.toArray.toList.countP (eqkB k) = bs.count k := by
      rw [hi]
      show (bs.map Value.bool).countP (eqkB k) = bs.count k
      rw [List.countP_map]
      rfl
    refine ⟨.int (bs.count k : Nat), H, I.tok _, ⟨s.toks, ?_⟩, q⟩
    show Value.int ((its.toArray.toList.countP (eqkB k) : Nat) : Int) s.toks = Value.int ((bs.count k : Nat) : Int) s.toks
    rw [ec]
end
end

/-! Mini14 -/
/-! Mini14: a def that tells, by a word, which own error its argument lets out. -/
section
open PySem PySem.Spec PyProof.Rows L2
section
variable {X : Cx} {a C D : Addr} {oe : Obj} {pn : List (Addr × Obj)} {ie ik : Nat} {e k c : Str} {b : Bool} {bs : List Bool} {x : Expr} {es : List Expr} {p p1 p2 p3 p4 pos : Pos}
/-- as long as slot ie holds the error at a -/
def tIsE (a : Addr) (ie : Nat) (b : Bool) : TE := fun σ H Q => σ[ie]? = some (some (.ref a)) ∧ Q (.bl b) H
def tIsA (a : Addr) (ie : Nat) (bs : List Bool) : TA := fun σ H Q => σ[ie]? = some (some (.ref a)) ∧ Q (bs.map V.bl) H
theorem pe_isE (hC : ExcC X.K C) (hz : Zc (.ref C) none oe) (hf : ∃ vs, oe.data = .fields vs) (hi : Gl X "isinstance") (hm : X.mg "isinstance" = none) (hN : X.N[ie]? = some e) (hv : Vis X.env.scope e) (hgc : Gl X c) (hmc : X.mg c = some (.ref D)) (hk : PySem.W.kitOne X.K (.ref C) (.ref D) = some b)
    (hd : (e == ("__debug__" : Str)) = false := by decide) (hcd : (e == ("__classdict__" : Str)) = false := by decide) (hdc : (c == ("__debug__" : Str)) = false := by decide) :
    PE (X.suite a ((a, oe) :: pn)) (.Call (.Name "isinstance" p) [.Name e p1, .Name c p2] [] pos) (tIsE a ie b) :=
  (pe_callB (X := X.suite a ((a, oe) :: pn)) (call_isE hC hz hf) hi hm (by decide +kernel) (pa_cons (pe_var (i := ie) hN hv hd hcd) (pa_cons (pe_glob (v := .ref D) hgc hmc rfl hdc) pa_nil rfl) rfl) (by decide) (by decide)).imp fun σ H Q h =>
    ⟨.ref a, h.1, .ref D, .ref D, b, rfl, fun u ru => ru, hk, h.2⟩
theorem pe_isV (hC : ExcC X.K C) (hz : Zc (.ref C) none oe) (hf : ∃ vs, oe.data = .fields vs) (hi : Gl X "isinstance") (hm : X.mg "isinstance" = none) (hN : X.N[ie]? = some e) (hv : Vis X.env.scope e) (hgc : Gl X "ValueError") (hmc : X.mg "ValueError" = none) (hk : PySem.W.kitOne X.K (.ref C) (.type "ValueError") = some b)
    (hd : (e == ("__debug__" : Str)) = false := by decide) (hcd : (e == ("__classdict__" : Str)) = false := by decide) :
    PE (X.suite a ((a, oe) :: pn)) (.Call (.Name "isinstance" p) [.Name e p1, .Name "ValueError" p2] [] pos) (tIsE a ie b) :=
  (pe_callB (X := X.suite a ((a, oe) :: pn)) (call_isE hC hz hf) hi hm (by decide +kernel) (pa_cons (pe_var (i := ie) hN hv hd hcd) (pa_cons (pe_bltn (v := .ty "ValueError") hgc hmc (by decide +kernel) rfl (by decide) (by decide)) pa_nil rfl) rfl) (by decide) (by decide)).imp fun σ H Q h =>
    ⟨.ref a, h.1, .ty "ValueError", .type "ValueError", b, rfl, fun u ru => ru, hk, h.2⟩
variable {Y : Cx}
theorem isa_nil : PA Y [] (tIsA a ie []) := pa_nil.imp fun σ H Q h => h.2
theorem isa_cons (h : PE Y x (tIsE a ie b)) (r : PA Y es (tIsA a ie bs)) (hs : starEach (x :: es) Y.env = (false, eval x Y.env) :: starEach es Y.env := by rfl) : PA Y (x :: es) (tIsA a ie (b :: bs)) :=
  (pa_cons h r hs).imp fun σ H Q h => ⟨h.1, h.1, h.2⟩
/-- k = [..] -/
def tNewL (a : Addr) (ie ik : Nat) (bs : List Bool) : TS := fun D σ H => σ[ie]? = some (some (.ref a)) ∧ ∀ p, H p = none → D.nx (σ.set ik (some (.ref p))) (upd H p (.lst (bs.map V.bl)))
theorem st_newL (h : PA Y es (tIsA a ie bs)) (hl : bs.length ≤ 1000) (hN : Y.N.Nodup) (hk : Y.N[ik]? = some k) (hx : Loc Y.env.scope k) (hf : Y.fn k = true ∨ Y.env.scope.names.lookup k = some .local) (hs : swapsWithSole [.Name k p] (.List es p2) pos.line Y.env = pure false := by rfl) (hw : swappedStores [.Name k p] (.List es p2) Y.env = pure none := by rfl)
    (h1 : (assignEach [.Name k p] Y.env).map (·.2) = [assign (.Name k p) Y.env] := by rfl) : PS Y (.Assign [.Name k p] (.List es p2) pos) (tNewL a ie ik bs) :=
  (ps_asg (pe_lst h) (pg_name (i := ik) hN hk hx hf) hs hw h1).imp fun D σ H h => ⟨h.1, by rw [List.length_map, sizeLine_eq]; omega, h.2⟩
/-- k = k + [..] -/
def tMoreL (a : Addr) (ie ik : Nat) (bs : List Bool) : TS := fun D σ H => σ[ie]? = some (some (.ref a)) ∧ ∃ l cs, σ[ik]? = some (some (.ref l)) ∧ H l = some (.lst (cs.map V.bl)) ∧ cs.length ≤ 1000 ∧
  ∀ q p, H q = none → upd H q (.lst (bs.map V.bl)) p = none → D.nx (σ.set ik (some (.ref p))) (upd (upd H q (.lst (bs.map V.bl))) p (.lst ((cs ++ bs).map V.bl)))
theorem st_moreL (h : PA Y es (tIsA a ie bs)) (hl : bs.length ≤ 1000) (hN : Y.N.Nodup) (hk : Y.N[ik]? = some k) (hx : Loc Y.env.scope k) (hv : Vis Y.env.scope k) (hf : Y.fn k = true ∨ Y.env.scope.names.lookup k = some .local) (hs : swapsWithSole [.Name k p] (.BinOp (.Name k p1) .Add (.List es p2) p3) pos.line Y.env = pure false := by rfl) (hw : swappedStores [.Name k p] (.BinOp (.Name k p1) .Add (.List es p2) p3) Y.env = pure none := by rfl)
    (h1 : (assignEach [.Name k p] Y.env).map (·.2) = [assign (.Name k p) Y.env] := by rfl) (hd : (k == ("__debug__" : Str)) = false := by decide) (hcd : (k == ("__classdict__" : Str)) = false := by decide) : PS Y (.Assign [.Name k p] (.BinOp (.Name k p1) .Add (.List es p2) p3) pos) (tMoreL a ie ik bs) :=
  (ps_asg (pe_op op_cat (pe_var (i := ik) hk hv hd hcd) (pe_lst h)) (pg_name (i := ik) hN hk hx hf) hs hw h1).imp fun D σ H h => by
    obtain ⟨h0, l, cs, h2, h3, h4, h5⟩ := h
    refine ⟨.ref l, h2, h0, by rw [List.length_map, sizeLine_eq]; omega, fun q hq => ⟨l, q, _, _, rfl, rfl, by rw [upd_ne (ne_of_none h3 hq)]; exact h3, upd_same, by rw [List.length_map, List.length_map, sizeLine_eq]; omega, fun p hp => ?_⟩⟩
    rw [← List.map_append]
    exact h5 q p hq hp
/-- k.count(True) != 1 or not y -/
theorem pt_kinds {j : Nat} {p5 p7 p8 p9 : Pos} {j2 : Nat} {y : Expr} (hv : Vis Y.env.scope k) (hk : Y.N[ik]? = some k) (h : PT Y y (tB (tIsE a ie b)))
    (hbase : attributeBase (.Name k p1) "count" Y.env (eval (.Name k p1) Y.env) = eval (.Name k p1) Y.env := by rfl) (hline : (p2.endLine == p4.line) = true := by rfl) (hd : (k == ("__debug__" : Str)) = false := by decide) (hcd : (k == ("__classdict__" : Str)) = false := by decide) :
    PT Y (.BoolOp .Or [.Compare (.Call (.Attribute (.Name k p1) "count" p2) [.Constant (.bool true) j p3] [] p4) [.NotEq] [.Constant (.int 1) j2 p5] p7, .UnaryOp .Not y p8] p9)
      (fun σ H Q => ∃ (l : Addr) (cs : List Bool), σ[ik]? = some (some (.ref l)) ∧ H l = some (.lst (cs.map V.bl)) ∧ σ[ie]? = some (some (.ref a)) ∧ Q (!decide (cs.count true = 1) || !b) H) :=
  ((pw_or (pt_cmpR op_ne (pe_bm PySem.F.plainAttrs_list PySem.F.slot_list_count PySem.F.type_list_count mt_bcount (pe_var (i := ik) hk hv hd hcd) (pa_cons pe_bl pa_nil) hbase rfl hline) pe_int (nobehind _ (by decide) (by decide))) (pw_or1 (pt_not h))).pt).imp fun σ H Q h => by
    obtain ⟨l, cs, h1, h2, h3, h4⟩ := h
    refine ⟨.ref l, h1, .inl ⟨rfl, _, .inl (.inl h2)⟩, l, cs, true, rfl, rfl, .inl (.inl h2), rfl, _, rfl, ?_⟩
    have e : decide (V.int ((cs.count true : Nat) : Int) = V.int 1) = decide (cs.count true = 1) := by
      rw [Bool.eq_iff_iff, decide_eq_true_iff, decide_eq_true_iff]
      exact ⟨fun z => by have z := V.int.inj z; omega, fun z => by rw [z]; rfl⟩
    rw [e]
    by_cases hc : cs.count true = 1
    · rw [decide_eq_true hc]
      refine ⟨h3, b, rfl, ?_⟩
      rw [decide_eq_true hc] at h4
      exact h4
    · rw [decide_eq_false hc]
      rw [decide_eq_false hc] at h4
      exact h4
theorem atI_nat {α : Type} {xs : List α} {m : Nat} {v : α} (h : xs[m]? = some v) : atI xs (m : Int) = some v := by
  have hm := (List.getElem?_eq_some_iff.mp h).1
  unfold atI ixN
  rw [if_pos (by omega), if_pos (by omega)]
  exact h
/-- if k[i]: .. that isn't done -/
theorem ps_no {i : Int} {j : Nat} {st : List Stmt} (hu : Y.A.units + 1 < cLine) (hv : Vis Y.env.scope k) (hk : Y.N[ik]? = some k) (hd : (k == ("__debug__" : Str)) = false := by decide) (hcd : (k == ("__classdict__" : Str)) = false := by decide) :
    PS Y (.If (.Subscript (.Name k p1) (.Constant (.int i) j p2) p3) st [] pos) (fun D σ H => ∃ (l : Addr) (cs : List Bool) (m : Nat), σ[ik]? = some (some (.ref l)) ∧ H l = some (.lst (cs.map V.bl)) ∧ i = (m : Int) ∧ cs[m]? = some false ∧ D.nx σ H) :=
  (ps_if (t := fun _ _ _ => False) (pt_val (pe_ix ix_list (pe_var (i := ik) hk hv hd hcd) pe_int (fun _ _ => rfl))) ⟨fun _ _ _ _ _ _ z => z.elim⟩ pss_nil).imp fun D σ H h => by
    obtain ⟨l, cs, m, h1, h2, rfl, h3, h4⟩ := h
    refine ⟨.ref l, h1, l, cs.map V.bl, m, .bl false, rfl, rfl, .inl (.inl h2), ?_, false, rfl, ?_⟩
    · exact atI_nat (by rw [List.getElem?_map, h3]; rfl)
    · exact h4
/-- k = ['..', ..] -/
theorem st_words {iw : Nat} {w : Str} {ws : List Str} (h : PA Y es fun σ H Q => Q (ws.map V.str) H) (hl : ws.length ≤ 1000) (hN : Y.N.Nodup) (hk : Y.N[iw]? = some w) (hx : Loc Y.env.scope w) (hf : Y.fn w = true ∨ Y.env.scope.names.lookup w = some .local) (hs : swapsWithSole [.Name w p] (.List es p2) pos.line Y.env = pure false := by rfl) (hw : swappedStores [.Name w p] (.List es p2) Y.env = pure none := by rfl)
    (h1 : (assignEach [.Name w p] Y.env).map (·.2) = [assign (.Name w p) Y.env] := by rfl) : PS Y (.Assign [.Name w p] (.List es p2) pos) (fun D σ H => ∀ p, H p = none → D.nx (σ.set iw (some (.ref p))) (upd H p (.lst (ws.map V.str)))) :=
  (ps_asg (pe_lst h) (pg_name (i := iw) hN hk hx hf) hs hw h1).imp fun D σ H h => ⟨by rw [List.length_map, sizeLine_eq]; omega, h⟩
theorem ws_nil : PA Y [] (fun σ H Q => Q (([] : List Str).map V.str) H) := pa_nil
theorem ws_cons {z : Str} {ws : List Str} {j : Nat} (r : PA Y es fun σ H Q => Q (ws.map V.str) H) (hs : starEach (.Constant (.str z) j p :: es) Y.env = (false, eval (.Constant (.str z) j p) Y.env) :: starEach es Y.env := by rfl) : PA Y (.Constant (.str z) j p :: es) (fun σ H Q => Q ((z :: ws).map V.str) H) := pa_cons pe_str r hs
/-- return w[k.index(True)] -/
theorem ps_word {iw : Nat} {w : Str} {j : Nat} {p5 p6 : Pos} (hv : Vis Y.env.scope k) (hk : Y.N[ik]? = some k) (hv2 : Vis Y.env.scope w) (hk2 : Y.N[iw]? = some w)
    (hbase : attributeBase (.Name k p2) "index" Y.env (eval (.Name k p2) Y.env) = eval (.Name k p2) Y.env := by rfl) (hline : (p3.endLine == p5.line) = true := by rfl) (hd : (k == ("__debug__" : Str)) = false := by decide) (hcd : (k == ("__classdict__" : Str)) = false := by decide) (hd2 : (w == ("__debug__" : Str)) = false := by decide) (hcd2 : (w == ("__classdict__" : Str)) = false := by decide) :
    PS Y (.Return (some (.Subscript (.Name w p1) (.Call (.Attribute (.Name k p2) "index" p3) [.Constant (.bool true) j p4] [] p5) p6)) pos)
      (fun D σ H => ∃ (l q : Addr) (cs : List Bool) (ws : List Str) (m : Nat) (z : Str), σ[ik]? = some (some (.ref l)) ∧ H l = some (.lst (cs.map V.bl)) ∧ σ[iw]? = some (some (.ref q)) ∧ H q = some (.lst (ws.map V.str)) ∧ cs[m]? = some true ∧ (∀ n, n < m → cs[n]? = some false) ∧ ws[m]? = some z ∧ D.rt (.str z) H) :=
  (ps_ret (pe_ix ix_list (pe_var (i := iw) hk2 hv2 hd2 hcd2) (pe_bm PySem.F.plainAttrs_list PySem.F.slot_list_index PySem.F.type_list_index mt_index (pe_var (i := ik) hk hv hd hcd) (pa_cons pe_bl pa_nil) hbase rfl hline) (fun _ _ => rfl))).imp fun D σ H h => by
    obtain ⟨l, q, cs, ws, m, z, h1, h2, h3, h4, h5, h6, h7, h8⟩ := h
    refine ⟨.ref q, h3, .ref l, h1, .inl ⟨rfl, _, .inl (.inl h2)⟩, l, cs.map V.bl, .bl true, m, .bl true, rfl, rfl, .inl (.inl h2), rfl, ?_, ?_, rfl, ?_, q, ws.map V.str, m, .str z, rfl, rfl, .inl (.inl h4), atI_nat (by rw [List.getElem?_map, h7]; rfl), h8⟩
    · rw [List.all_map]; exact List.all_eq_true.mpr fun _ _ => rfl
    · rw [List.getElem?_map, h5]; rfl
    · intro n z' hn hz
      rw [List.getElem?_map, h6 n hn] at hz
      cases hz
      rfl
end
def kindNames : List Str := ["BadProgram", "BadNumber", "TooMany", "NotLet", "BadStates", "BadGiven", "BadFuel", "BadNoise", "BadSaves", "BadText"]
def kindWords : List Str := ["", "BadNumber", "TooMany", "NotLet", "BadStates", "BadGiven", "BadFuel", "BadNoise", "BadSaves"]
/-- C is the class number j -/
structure KindC (K : PySem.W.Frag) (C : Addr) (j : Nat) : Prop where
  ex : ExcC K C
  is_ : ∀ (m : Nat) (c : Str), kindNames[m]? = some c → PySem.W.kitOne K (.ref C) (.ref (He.ga K c)) = some (decide (m = j))
  ve : PySem.W.kitOne K (.ref C) (.type "ValueError") = some true
  pa : PySem.W.exmOne K (.ref C) (.ref (He.ga K "PactError")) = some true
def Keeps (H H' : Hp) : Prop := ∀ b o, H b = some o → H' b = some o
theorem Keeps.new {H H' : Hp} {p : Addr} {o : HO} (k : Keeps H H') (h : H' p = none) : Keeps H (upd H' p o) := fun b u e => by rw [upd_ne (ne_of_none (k b u e) h)]; exact k b u e
/-- what the error's class makes of it -/
def wKind (K : PySem.W.Frag) (Q : VK) : XK := fun cls d H => ∃ C j w, cls = .ref C ∧ d = none ∧ kindWords[j]? = some w ∧ j ≠ 0 ∧ KindC K C j ∧ ∀ H', Keeps H H' → Q (.str w) H'
def TKind (K : PySem.W.Frag) : (XK → Hp → VK → Prop) → Hp → VK → Prop := fun tl H Q => tl (wKind K Q) H fun _ H' => Q (.str "") H'
end

/-! Mini15 -/
/-! Mini15: the class, by its word, of what a lambda lets out. -/
section
open PySem PySem.Spec PyProof.Rows L2
/-- kind(lambda: m) -/
def eKind (m : XE) : XE := fun env S => match m env S with
  | .ok _ S1 => .ok (.str "") S1
  | .exc e S1 => if e.cls ∈ kindWords ∧ e.cls ≠ ("" : Str) ∧ e.fs = [] then .ok (.str e.cls) S1 else .bad
  | .bad => .bad
section
variable {w : World} {K : PySem.W.Frag} {ρ : Rho} {S : Store} {H H' : Hp} {G : Gx} {E : XK} {mb : XE}
theorem Rel.over (q : Rel w K ρ S H) (e : Ext ρ H ρ H') (kp : ∀ a o, H a = some o → Plain o → H' a = some o) (t : LamX.Tabs (KT K) H') : Rel w K ρ S H' :=
  ⟨q.len, q.nd, fun l c a h1 h2 => let ⟨o, ho, po⟩ := (q.at_ l c a h1 h2).thereP; (q.at_ l c a h1 h2).ext e (by rw [ho]; exact kp a o ho po), fun a ha => let ⟨⟨o, ho, po⟩, n⟩ := q.hd a ha; ⟨⟨o, kp a o ho po, po⟩, n⟩, t⟩
theorem Ext.ofN (k : LamX.ExtN H H') : Ext ρ H ρ H' := ⟨⟨[], by simp⟩, rfl, fun a o h nt _ => k a o h nt, fun a f o h => by
  by_cases q : ∃ ps, o = .tbl ps
  · exact q
  · exact f o (k a o h fun ps z => q ⟨ps, z⟩)⟩
theorem kind_read {σ : L2.St} {Q : VK} (hxc : ∀ (j : Nat) (w : Str), kindWords[j]? = some w → j ≠ 0 → G.xc w = some (.ref (He.ga G.K w)) ∧ KindC G.K (He.ga G.K w) j) (h : tI G E (eKind mb) σ H Q) : LamX.tLam (KT G.K) (TKind G.K) (fun E => tI G E mb) σ H Q := by
  obtain ⟨ρ, S, env, hR, hE, h⟩ := h
  refine ⟨hR.tabs, fun H1 eN T1 => ?_⟩
  have e1 : Ext ρ H ρ H1 := Ext.ofN eN
  refine ⟨ρ, S, env, hR.over e1 (fun a o ho po => eN a o ho po.1) T1, hE.ext e1, ?_⟩
  unfold eKind at h
  cases hm : mb env S with
  | bad => rw [hm] at h; exact h
  | ok x S1 =>
    rw [hm] at h
    exact fun ρ' H' e q v _ => h ρ' H' (e1.trans e) q _ Rep.str
  | exc x S1 =>
    rw [hm] at h
    simp only at h
    split at h
    · rename_i hc
      obtain ⟨c1, c2, c3⟩ := hc
      intro ρ' H' cls d e q xr
      obtain ⟨j, hj⟩ := List.mem_iff_getElem?.mp c1
      have j0 : j ≠ 0 := fun z => by
        rw [z] at hj
        exact c2 (Option.some.inj hj).symm
      obtain ⟨k1, k2⟩ := hxc j _ hj j0
      obtain ⟨x1, x2⟩ := xr
      rw [k1] at x1
      cases x1
      rcases x2 with ⟨_, rfl⟩ | ⟨_, _, _, z, _⟩
      · refine ⟨_, j, x.cls, rfl, rfl, hj, j0, k2, fun H2 k => ?_⟩
        have e2 : Ext ρ' H' ρ' H2 := Ext.ofN fun a o ho _ => k a o ho
        exact h ρ' H2 (e1.trans (e.trans e2)) (q.over e2 (fun a o ho _ => k a o ho) (q.tabs.ext k)) _ Rep.str
      · exact absurd c3 z
    · exact h.elim
end
/-! ### what is known of the classes, as a look into the written part -/
def excCB (K : PySem.W.Frag) (D : Addr) : Bool :=
  He.eqO (PySem.W.findIn K (.ref D) "__getattribute__") (some (some (.builtin "BaseException.__getattribute__"))) && (He.eqO (PySem.W.findIn K (.ref D) "__getattr__") (some none) && (decide (PySem.W.subIn K (.ref D) (.type "BaseException") = some true) && (PySem.W.hasDictIn K D &&
    (He.eqO (PySem.W.findIn K (.ref D) "__class__") (some (some (.builtin "object.__class__"))) && (He.eqO (PySem.W.specialIn K (.builtin "object.__class__") "__get__") (some (some (.builtin "getset_descriptor.__get__"))) &&
      (decide (PySem.W.takesIn K (.builtin "object.__class__") = some true) && decide (PySem.W.mroIn K D (.type "object") = some true)))))))
theorem excCB_ok {K : PySem.W.Frag} {D : Addr} (h : excCB K D = true) : ExcC K D := by
  obtain ⟨h1, h⟩ := He.ba h
  obtain ⟨h2, h⟩ := He.ba h
  obtain ⟨h3, h⟩ := He.ba h
  obtain ⟨h4, h⟩ := He.ba h
  obtain ⟨h5, h⟩ := He.ba h
  obtain ⟨h6, h⟩ := He.ba h
  obtain ⟨h7, h8⟩ := He.ba h
  exact ⟨He.eqO_ok h1, He.eqO_ok h2, of_decide_eq_true h3, h4, He.eqO_ok h5, He.eqO_ok h6, of_decide_eq_true h7, of_decide_eq_true h8⟩
def kindB (K : PySem.W.Frag) (C : Addr) (j : Nat) : Bool :=
  excCB K C && ((List.range 10).all (fun m => decide (PySem.W.kitOne K (.ref C) (.ref (He.ga K (kindNames.getD m ""))) = some (decide (m = j)))) && (decide (PySem.W.kitOne K (.ref C) (.type "ValueError") = some true) && decide (PySem.W.exmOne K (.ref C) (.ref (He.ga K "PactError")) = some true)))
theorem kindB_ok {K : PySem.W.Frag} {C : Addr} {j : Nat} (h : kindB K C j = true) : KindC K C j := by
  obtain ⟨h1, h⟩ := He.ba h
  obtain ⟨h2, h⟩ := He.ba h
  obtain ⟨h3, h4⟩ := He.ba h
  refine ⟨excCB_ok h1, fun m c hc => ?_, of_decide_eq_true h3, of_decide_eq_true h4⟩
  have hm : m < 10 := (List.getElem?_eq_some_iff.mp hc).1
  have q := of_decide_eq_true (List.all_eq_true.mp h2 m (List.mem_range.mpr hm))
  rw [List.getD_eq_getElem?_getD, hc] at q
  exact q
/-- the eight words' classes -/
def kindsB (K : PySem.W.Frag) : Bool := (List.range 8).all fun j => kindB K (He.ga K (kindWords.getD (j + 1) "")) (j + 1)
/-- an error's word is its class -/
def xcK (K : PySem.W.Frag) : Str → Option Value := fun w => some (.ref (He.ga K w))
theorem kindsB_ok {K : PySem.W.Frag} (h : kindsB K = true) (j : Nat) (w : Str) (hw : kindWords[j]? = some w) (h0 : j ≠ 0) : xcK K w = some (.ref (He.ga K w)) ∧ KindC K (He.ga K w) j := by
  have hj : j < 9 := (List.getElem?_eq_some_iff.mp hw).1
  have q := kindB_ok (List.all_eq_true.mp h (j - 1) (List.mem_range.mpr (by omega)))
  rw [show j - 1 + 1 = j by omega, List.getD_eq_getElem?_getD, hw] at q
  exact ⟨rfl, q⟩
/-- .. the code object being the one that the table speaks of -/
theorem def_KC {P : Program} {w : World} {K : PySem.W.Frag} {mg : Str → Option Value} {base : Heap} {G : Gx} {pd : Str × Option Str} {x qual : Str} {params : Arguments} {body : List Stmt} {scope : Scope} {dvs : List V} {kws : List (Str × V)} {fd : FuncData} {N ps : List Str} {k : Nat} {mb : XS} (F : FunD K x qual params body scope dvs kws (He.fAd K pd) fd) (sc : FnScope N ps scope)
    (hb : ∀ (A : Around) (outer : List PySem.Env) (s : Shared) (H : Hp) (E : XK), Room k (A.deeper (PyProof.Rows.envOfC qual scope s.heap.objs.size (He.fAd K pd) (.ref (He.codeOf K pd)))) →
      PSs (cxOf (L2.CX P w) P w K mg base N qual scope (He.fAd K pd) (.ref (He.codeOf K pd)) A outer s H E) body (tIS G E mb)) : FnOk P w K mg base (L2.CX P w) (k + 1) (He.fAd K pd) fd ps (spI G (fnK ps.length N.length mb)) := by
  obtain ⟨oc, od, dV, kV, doc, pm, an, cdv, ct, osl, rfl, lk, hcd, _, _⟩ := F.ex
  obtain ⟨c, rfl⟩ := He.codeIn_ref hcd
  rw [He.codeOf_eq lk rfl] at hb
  refine fn_of lk hcd sc (fun vs H Q E h => ?_) (fun A outer s H vs Q E hr h => ⟨_, hb A outer s H E hr, ?_⟩)
  · obtain ⟨ρ, S, args, hR, ra, h⟩ := h
    unfold fnK at h
    split at h
    · rename_i hl
      rw [← ra.length, hl]
    · exact h.elim
  · obtain ⟨ρ, S, args, hR, ra, h⟩ := h
    unfold fnK at h
    split at h
    · refine ⟨ρ, S, _, hR, envR_start ra, ?_⟩
      cases hm : mb (args.map some ++ List.replicate (N.length - args.length) none) S with
      | bad => rw [hm] at h; exact h
      | exc e S' => rw [hm] at h; exact h
      | ok p S' =>
        rw [hm] at h
        simp only [R.bind_ok] at h
        obtain ⟨fl, env'⟩ := p
        intro ρ' H' e q
        cases fl with
        | rt v => exact fun u ru => h ρ' H' e q u ru
        | nx => exact fun σ' hE' => h ρ' H' e q _ Rep.non
        | bk => exact h.elim
        | ct => exact h.elim
    · exact h.elim
end

/-! MiniD -/
/-! MiniD: dicts of the store whose keys are tuples of any depth. -/
section
open PySem PySem.Spec PyProof.Rows L2
/-! ### the machine -/
def isKey : PV → Bool
  | .tup xs => keyD 8 (.tup xs)
  | _ => false
def lookN : List PV → List PV → PV → Option PV
  | k :: ks, v :: vs, x => if k = x then some v else lookN ks vs x
  | _, _, _ => none
def replN : List PV → List PV → PV → PV → List PV
  | k :: ks, v :: vs, x, y => (if k = x then y else v) :: replN ks vs x y
  | _, _, _, _ => []
def putN (ks vs : List PV) (x y : PV) : List PV × List PV := if (lookN ks vs x).isSome = true then (ks, replN ks vs x y) else (ks ++ [x], vs ++ [y])
def dnOf (S : Store) : PV → Option (List PV × List PV)
  | .loc l => match S[l]? with
    | some (.dkn ks vs) => some (ks, vs)
    | _ => none
  | _ => none
def oInD : Op2 := fun x y S => match dnOf S y with
  | some (ks, vs) => if isKey x = true then .ok (.bl (lookN ks vs x).isSome) S else .bad
  | none => .bad
def oNotInD : Op2 := fun x y S => match dnOf S y with
  | some (ks, vs) => if isKey x = true then .ok (.bl (!(lookN ks vs x).isSome)) S else .bad
  | none => .bad
def oIxD : Op2 := fun o i S => match dnOf S o with
  | some (ks, vs) => if isKey i = true then match lookN ks vs i with
      | some v => .ok v S
      | none => .bad
    else .bad
  | none => .bad
def oSetD (o i v : PV) (S : Store) : R Unit := match o with
  | .loc l => match S[l]? with
    | some (.dkn ks vs) => if isKey i = true ∧ ks.length < lim then .ok () (S.set l (.dkn (putN ks vs i v).1 (putN ks vs i v).2)) else .bad
    | _ => .bad
  | _ => .bad
def gSbD (o i : XE) : XG := fun x env S => (o env S).bind fun ov S => (i env S).bind fun iv S => (oSetD ov iv x S).bind fun _ S => .ok env S
def bLenD : Bf := fun xs S => match xs with
  | [x] => match dnOf S x with
    | some (ks, _) => if ks.length ≤ lim then .ok (.int ks.length) S else .bad
    | none => .bad
  | _ => .bad
/-- {k: v} -/
def eDn (k v : XE) : XE := fun env S => (k env S).bind fun x S => (v env S).bind fun y S => if isKey x = true then .ok (.loc S.length) (S ++ [.dkn [x] [y]]) else .bad
/-! ### keys in the heap -/
section
variable {X : Cx} {pins : List (Addr × Obj)} {σ : L2.St} {H : Hp} {s : Shared} {ρ : Rho}
theorem isKey_of {x : PV} (h : isKey x = true) : keyD 8 x = true := by
  cases x with
  | tup xs => exact h
  | _ => cases h
mutual
theorem nk_is (I : Inv X pins σ H s) : ∀ (x : PV) (d : Nat) (v : V) (u : Value), keyD d x = true → Rep X.K ρ H x v → RelV v u → NestedIs s.heap (nk x) u ∧ (nk x).depth ≤ d
  | .non, d, v, u, _, r, q => by
    rw [r.non_of] at q
    cases q
    exact ⟨.none, Nat.zero_le _⟩
  | .int i, d, v, u, _, r, q => by
    rw [r.int_of] at q
    obtain ⟨t, rfl⟩ := q
    exact ⟨.int i t, Nat.zero_le _⟩
  | .str x, d, v, u, _, r, q => by
    rw [r.str_of] at q
    obtain ⟨t, rfl⟩ := q
    exact ⟨.text x t, Nat.zero_le _⟩
  | .tup xs, 0, v, u, h, _, _ => by unfold keyD at h; cases h
  | .tup xs, d + 1, v, u, h, r, q => by
    unfold keyD at h
    unfold Rep at r
    obtain ⟨a, vs, rfl, h1, h2⟩ := r
    cases q
    obtain ⟨its, rv, ⟨o, ho, hc, n, hd⟩, _⟩ := I.tuple h1.sq
    obtain ⟨k1, k2⟩ := nks_is I xs d vs its h h2 rv
    refine ⟨.tup ho hc hd (by simpa using k1), ?_⟩
    show NestedKey.depthAll (nks xs) + 1 ≤ d + 1
    omega
  | .bl _, d, v, u, h, _, _ => by cases d <;> (unfold keyD at h; cases h)
  | .ls _, d, v, u, h, _, _ => by cases d <;> (unfold keyD at h; cases h)
  | .fz _, d, v, u, h, _, _ => by cases d <;> (unfold keyD at h; cases h)
  | .dc _ _, d, v, u, h, _, _ => by cases d <;> (unfold keyD at h; cases h)
  | .loc _, d, v, u, h, _, _ => by cases d <;> (unfold keyD at h; cases h)
theorem nks_is (I : Inv X pins σ H s) : ∀ (xs : List PV) (d : Nat) (vs : List V) (us : List Value), xs.all (keyD d) = true → Reps X.K ρ H xs vs → Vals vs us → NestedAll s.heap (nks xs) us ∧ NestedKey.depthAll (nks xs) ≤ d
  | [], d, vs, us, _, r, q => by
    unfold Reps at r
    subst r
    cases q
    exact ⟨.nil, Nat.zero_le _⟩
  | x :: xs, d, vs, us, h, r, q => by
    rw [List.all_cons, Bool.and_eq_true] at h
    obtain ⟨v, t, rfl, r1, r2⟩ := r.uncons
    cases q with
    | cons q1 q2 =>
      obtain ⟨a1, a2⟩ := nk_is I x d v _ h.1 r1 q1
      obtain ⟨b1, b2⟩ := nks_is I xs d t _ h.2 r2 q2
      exact ⟨.cons a1 b1, Nat.max_le.mpr ⟨a2, b2⟩⟩
end
mutual
theorem nk_inj : ∀ (x y : PV) (d e : Nat), keyD d x = true → keyD e y = true → nk x = nk y → x = y
  | .non, y, d, e, _, hy, h => by
    cases y with
    | non => rfl
    | int j => unfold nk at h; cases h
    | str t => unfold nk at h; cases h
    | tup ys => unfold nk at h; cases h
    | _ => cases e <;> (unfold keyD at hy; cases hy)
  | .int i, y, d, e, _, hy, h => by
    cases y with
    | int j => unfold nk at h; injection h with h; rw [h]
    | non => unfold nk at h; cases h
    | str t => unfold nk at h; cases h
    | tup ys => unfold nk at h; cases h
    | _ => cases e <;> (unfold keyD at hy; cases hy)
  | .str i, y, d, e, _, hy, h => by
    cases y with
    | str j => unfold nk at h; injection h with h; rw [h]
    | non => unfold nk at h; cases h
    | int t => unfold nk at h; cases h
    | tup ys => unfold nk at h; cases h
    | _ => cases e <;> (unfold keyD at hy; cases hy)
  | .tup xs, y, d, e, hx, hy, h => by
    cases y with
    | tup ys =>
      cases d with
      | zero => unfold keyD at hx; cases hx
      | succ d =>
        cases e with
        | zero => unfold keyD at hy; cases hy
        | succ e =>
          unfold keyD at hx hy
          unfold nk at h
          injection h with h
          rw [nks_inj xs ys d e hx hy h]
    | non => unfold nk at h; cases h
    | int j => unfold nk at h; cases h
    | str t => unfold nk at h; cases h
    | _ => cases e <;> (unfold keyD at hy; cases hy)
  | .bl _, y, d, e, h, _, _ => by cases d <;> (unfold keyD at h; cases h)
  | .ls _, y, d, e, h, _, _ => by cases d <;> (unfold keyD at h; cases h)
  | .fz _, y, d, e, h, _, _ => by cases d <;> (unfold keyD at h; cases h)
  | .dc _ _, y, d, e, h, _, _ => by cases d <;> (unfold keyD at h; cases h)
  | .loc _, y, d, e, h, _, _ => by cases d <;> (unfold keyD at h; cases h)
theorem nks_inj : ∀ (xs ys : List PV) (d e : Nat), xs.all (keyD d) = true → ys.all (keyD e) = true → nks xs = nks ys → xs = ys
  | [], [], _, _, _, _, _ => rfl
  | [], y :: ys, _, _, _, _, h => by unfold nks at h; cases h
  | x :: xs, [], _, _, _, _, h => by unfold nks at h; cases h
  | x :: xs, y :: ys, d, e, hx, hy, h => by
    rw [List.all_cons, Bool.and_eq_true] at hx hy
    unfold nks at h
    injection h with h1 h2
    rw [nk_inj x y d e hx.1 hy.1 h1, nks_inj xs ys d e hx.2 hy.2 h2]
end
/-- the entries as they stand, behind the ones that are known -/
abbrev EnR : List (NestedKey × Addr × V) → List (NestedKey × Addr × Value) → Prop := Paired fun p q => p.1 = q.1 ∧ p.2.1 = q.2.1 ∧ RelV p.2.2 q.2.2
theorem dk_all (I : Inv X pins σ H s) : ∀ {ks xs : List PV} {kvs : List (NestedKey × Addr × V)} {es : List (NestedKey × Addr × Value)}, DkAt X.K ρ H ks xs kvs → EnR kvs es → ∀ x ∈ es, (nestedKind X.prog X.w).is s.heap x.1 x.2.1
  | [], [], _, es, k, e, x, hx => by
    have k : _ = [] := k
    rw [k] at e
    cases e
    cases hx
  | k0 :: ks, x0 :: xs, _, es, k, e, x, hx => by
    obtain ⟨b, v, r, rfl, h1, h2, h3, h4⟩ := k
    cases e with
    | @cons p q ps qs e1 e2 =>
      rcases List.mem_cons.mp hx with rfl | hx
      · have := nk_is I k0 8 (.ref b) (.ref b) h1 h2 rfl
        obtain ⟨e3, e4, _⟩ := e1
        show NestedIs s.heap x.1 (.ref x.2.1) ∧ x.1.depth ≤ 8
        rw [← e3, ← e4]
        exact this
      · exact dk_all I h4 e2 x hx
  | [], _ :: _, _, _, k, _, _, _ => k.elim
  | _ :: _, [], _, _, k, _, _, _ => k.elim
theorem dn_of (I : Inv X pins σ H s) {a : Addr} {ks xs : List PV} {kvs : List (NestedKey × Addr × V)} (h : H a = some (DnO X.w a kvs)) (k : DkAt X.K ρ H ks xs kvs) : (a == sysModules) = false ∧ ∃ es, EnR kvs es ∧ s.heap.DictOfH (nestedKind X.prog X.w) a es := by
  obtain ⟨⟨es, e1, e2, o, en, ep, e3, e4, e5, e6, e7⟩, _, _⟩ := I.hok a _ h
  exact ⟨e2, es, e1, o, en, ep, e3, e4, e5, e6, dk_all I k e1, e7⟩
theorem dk_len : ∀ {K : PySem.W.Frag} {ks xs : List PV} {kvs : List (NestedKey × Addr × V)}, DkAt K ρ H ks xs kvs → kvs.length = ks.length ∧ xs.length = ks.length
  | K, [], [], _, k => by
    have k : _ = [] := k
    rw [k]
    exact ⟨rfl, rfl⟩
  | K, k0 :: ks, x0 :: xs, _, k => by
    obtain ⟨b, v, r, rfl, h1, h2, h3, h4⟩ := k
    obtain ⟨a1, a2⟩ := dk_len h4
    exact ⟨congrArg Nat.succ a1, congrArg Nat.succ a2⟩
  | K, [], _ :: _, _, k => k.elim
  | K, _ :: _, [], _, k => k.elim
theorem dk_look {x : PV} (hx : keyD 8 x = true) : ∀ {K : PySem.W.Frag} {ks xs : List PV} {kvs : List (NestedKey × Addr × V)} {es : List (NestedKey × Addr × Value)}, DkAt K ρ H ks xs kvs → EnR kvs es →
    match lookN ks xs x with
    | some y => ∃ b v u, atKey es (nk x) = some (b, u) ∧ RelV v u ∧ Rep K ρ H y v
    | none => atKey es (nk x) = none
  | K, [], [], _, es, k, e => by
    have k : _ = [] := k
    rw [k] at e
    cases e
    exact rfl
  | K, k0 :: ks, x0 :: xs, _, es, k, e => by
    obtain ⟨b, v, r, rfl, h1, h2, h3, h4⟩ := k
    cases e with
    | @cons p q ps qs e1 e2 =>
      obtain ⟨e3, e4, e5⟩ := e1
      by_cases hk : k0 = x
      · subst hk
        have e3 : nk k0 = q.1 := e3
        unfold lookN
        rw [if_pos rfl]
        refine ⟨q.2.1, v, q.2.2, ?_, e5, h3⟩
        unfold atKey
        rw [List.find?_cons, decide_eq_true e3.symm]
        rfl
      · have e3 : nk k0 = q.1 := e3
        have hne : ¬ q.1 = nk x := fun z => hk (nk_inj k0 x 8 8 h1 hx (by rw [e3, z]))
        unfold lookN
        rw [if_neg hk]
        have ih := dk_look hx h4 e2
        have ea : atKey (q :: qs) (nk x) = atKey qs (nk x) := by
          unfold atKey
          rw [List.find?_cons, decide_eq_false hne]
        rw [ea]
        exact ih
  | K, [], _ :: _, _, _, k, _ => k.elim
  | K, _ :: _, [], _, _, k, _ => k.elim
theorem dk_app {x y : PV} {b : Addr} {v : V} (hx : keyD 8 x = true) : ∀ {K : PySem.W.Frag} {ks xs : List PV} {kvs : List (NestedKey × Addr × V)}, Rep K ρ H x (.ref b) → Rep K ρ H y v → DkAt K ρ H ks xs kvs → DkAt K ρ H (ks ++ [x]) (xs ++ [y]) (kvs ++ [(nk x, b, v)])
  | K, [], [], _, rx, ry, k => by
    have k : _ = [] := k
    rw [k]
    exact ⟨b, v, [], rfl, hx, rx, ry, rfl⟩
  | K, k0 :: ks, x0 :: xs, _, rx, ry, k => by
    obtain ⟨b, v, r, rfl, h1, h2, h3, h4⟩ := k
    exact ⟨b, v, _, rfl, h1, h2, h3, dk_app hx rx ry h4⟩
  | K, [], _ :: _, _, _, _, k => k.elim
  | K, _ :: _, [], _, _, _, k => k.elim
theorem dk_repl {x y : PV} {v : V} {u : Value} (hx : keyD 8 x = true) : ∀ {K : PySem.W.Frag} {ks xs : List PV} {kvs : List (NestedKey × Addr × V)} {es : List (NestedKey × Addr × Value)}, Rep K ρ H y v → RelV v u → DkAt K ρ H ks xs kvs → EnR kvs es →
    ∃ kvs', DkAt K ρ H ks (replN ks xs x y) kvs' ∧ EnR kvs' (es.map (putAt (nk x) u))
  | K, [], [], _, es, ry, rv, k, e => by
    have k : _ = [] := k
    rw [k] at e
    cases e
    exact ⟨[], rfl, .nil⟩
  | K, k0 :: ks, x0 :: xs, _, es, ry, rv, k, e => by
    obtain ⟨b, v0, r, rfl, h1, h2, h3, h4⟩ := k
    cases e with
    | @cons p q ps qs e1 e2 =>
      obtain ⟨e3, e4, e5⟩ := e1
      have e3 : nk k0 = q.1 := e3
      have e4 : b = q.2.1 := e4
      obtain ⟨kvs', g1, g2⟩ := dk_repl hx ry rv h4 e2
      by_cases hk : k0 = x
      · subst hk
        refine ⟨(nk k0, b, v) :: kvs', ⟨b, v, _, rfl, h1, h2, ?_, g1⟩, ?_⟩
        · rw [if_pos rfl]
          exact ry
        · rw [List.map_cons]
          refine .cons ?_ g2
          unfold putAt
          rw [if_pos e3.symm]
          exact ⟨e3, e4, rv⟩
      · have hne : ¬ q.1 = nk x := fun z => hk (nk_inj k0 x 8 8 h1 hx (by rw [e3, z]))
        refine ⟨(nk k0, b, v0) :: kvs', ⟨b, v0, _, rfl, h1, h2, ?_, g1⟩, ?_⟩
        · rw [if_neg hk]
          exact h3
        · rw [List.map_cons]
          refine .cons ?_ g2
          unfold putAt
          rw [if_neg hne]
          exact ⟨e3, e4, e5⟩
  | K, [], _ :: _, _, _, _, _, k, _ => k.elim
  | K, _ :: _, [], _, _, _, _, k, _ => k.elim
theorem dk_put {x y : PV} {b : Addr} {v : V} {u : Value} (hx : keyD 8 x = true) {K : PySem.W.Frag} {ks xs : List PV} {kvs : List (NestedKey × Addr × V)} {es : List (NestedKey × Addr × Value)} (rx : Rep K ρ H x (.ref b)) (ry : Rep K ρ H y v) (rv : RelV v u) (k : DkAt K ρ H ks xs kvs) (e : EnR kvs es) :
    ∃ kvs', DkAt K ρ H (putN ks xs x y).1 (putN ks xs x y).2 kvs' ∧ EnR kvs' (storedH es (nk x) b u) := by
  have q := dk_look hx k e
  unfold putN
  cases hl : lookN ks xs x with
  | some z =>
    rw [hl] at q
    obtain ⟨b', v', u', q1, _, _⟩ := q
    rw [if_pos (show (some z).isSome = true from rfl), storedH_old q1]
    exact dk_repl hx ry rv k e
  | none =>
    rw [hl] at q
    rw [if_neg (by decide), storedH_new q]
    exact ⟨_, dk_app hx rx ry k, Paired.snoc e ⟨rfl, rfl, rv⟩⟩
end

/-! ### readings -/
section
variable {X : Cx}
/-- a dict of the store and a key -/
def AtD (w : World) (K : PySem.W.Frag) (H : Hp) (d k : V) (P : Rho → List PV → List PV → PV → Addr → Prop) : Prop := ∃ ρ a b ks xs kvs x, d = .ref a ∧ k = .ref b ∧ H a = some (DnO w a kvs) ∧ DkAt K ρ H ks xs kvs ∧ keyD 8 x = true ∧ Rep K ρ H x (.ref b) ∧ P ρ ks xs x a
def rInD (w : World) (K : PySem.W.Frag) : R2 := fun x y H Q => AtD w K H y x fun _ ks xs k _ => Q (.bl (lookN ks xs k).isSome) H
def rNotInD (w : World) (K : PySem.W.Frag) : R2 := fun x y H Q => AtD w K H y x fun _ ks xs k _ => Q (.bl (!(lookN ks xs k).isSome)) H
def rIxDn (w : World) (K : PySem.W.Frag) : R2 := fun x y H Q => AtD w K H x y fun ρ ks xs k _ => ∃ z, lookN ks xs k = some z ∧ ∀ v, Rep K ρ H z v → Q v H
def rSetDn (w : World) (K : PySem.W.Frag) : TSet := fun o i v H Q => AtD w K H o i fun ρ ks xs k a => ks.length < lim ∧ ∃ z, Rep K ρ H z v ∧ ∀ kvs, DkAt K ρ H (putN ks xs k z).1 (putN ks xs k z).2 kvs → Q (upd H a (DnO w a kvs))
theorem look_some {w : World} {P : Program} {H : Hp} {h : Heap} {ρ : Rho} {K : PySem.W.Frag} {ks xs : List PV} {kvs : List (NestedKey × Addr × V)} {es : List (NestedKey × Addr × Value)} {x : PV} (hx : keyD 8 x = true) (k : DkAt K ρ H ks xs kvs) (e : EnR kvs es) : (atKey es (nk x)).isSome = (lookN ks xs x).isSome := by
  have q := dk_look hx k e
  cases hl : lookN ks xs x with
  | some z =>
    rw [hl] at q
    obtain ⟨b', v', u', q1, _, _⟩ := q
    rw [q1]
    rfl
  | none =>
    rw [hl] at q
    rw [q]
    rfl
theorem op_inD (hu : X.A.units + 10 < cLine) : OpR X (compareOp .In) (rInD X.w X.K) := by
  intro pins s σ H x y v u Q I rx ry h
  obtain ⟨ρ, a, b, ks, xs, kvs, k, rfl, rfl, ha, hk, hd, hr, q⟩ := h
  cases rx
  cases ry
  obtain ⟨hs, es, e1, dd⟩ := dn_of I ha hk
  refine wpAny_in_heap (knd := nestedKind X.prog X.w) (show X.A.units + 1 + 8 < cLine by omega) (nk_is I k 8 _ _ hd hr rfl) hs dd ?_
  rw [look_some (w := X.w) (P := X.prog) (h := s.heap) hd hk e1]
  exact ⟨.bl _, H, I.tok _, rfl, q⟩
theorem op_notInD (hu : X.A.units + 10 < cLine) : OpR X (compareOp .NotIn) (rNotInD X.w X.K) := by
  intro pins s σ H x y v u Q I rx ry h
  obtain ⟨ρ, a, b, ks, xs, kvs, k, rfl, rfl, ha, hk, hd, hr, q⟩ := h
  cases rx
  cases ry
  obtain ⟨hs, es, e1, dd⟩ := dn_of I ha hk
  refine wpAny_notIn_heap (knd := nestedKind X.prog X.w) (show X.A.units + 1 + 8 < cLine by omega) (nk_is I k 8 _ _ hd hr rfl) hs dd ?_
  rw [look_some (w := X.w) (P := X.prog) (h := s.heap) hd hk e1]
  exact ⟨.bl _, H, I.tok _, rfl, q⟩
theorem ix_Dn (hu : X.A.units + 10 < cLine) : IxR X (rIxDn X.w X.K) := by
  intro value slice pins s σ H x y v u Q I rx ry h hs
  obtain ⟨ρ, a, b, ks, xs, kvs, k, rfl, rfl, ha, hk, hd, hr, z, hz, q⟩ := h
  cases rx
  cases ry
  obtain ⟨_, es, e1, dd⟩ := dn_of I ha hk
  have hl := dk_look hd hk e1
  rw [hz] at hl
  obtain ⟨b', v', u', q1, q2, q3⟩ := hl
  exact PyProof.Rows.tail_any dd.typeIs PySem.F.slot_dict_getitem.lookup (wpAny_getItem_heap (knd := nestedKind X.prog X.w) (show X.A.units + 1 + 8 < cLine by omega) (nk_is I k 8 _ _ hd hr rfl) dd q1 ⟨v', H, I.tok _, q2, q v' q3⟩) hs
theorem set_Dn (hu : X.A.units + 10 < cLine) : PSet X (rSetDn X.w X.K) := by
  intro pins s σ H o i v ov iv u Q I ro ri rv h
  obtain ⟨ρ, a, b, ks, xs, kvs, k, rfl, rfl, ha, hk, hd, hr, hl, z, rz, q⟩ := h
  cases ro
  cases ri
  obtain ⟨hs, es, e1, dd⟩ := dn_of I ha hk
  obtain ⟨kvs', g1, g2⟩ := dk_put hd hr rz rv hk e1
  have hz : es.length ≤ sizeLine := by
    have z1 := Paired.length e1
    have z2 := (dk_len hk).1
    have := lim_line
    omega
  refine wpAny_setItem_heap (knd := nestedKind X.prog X.w) (show X.A.units + 1 + 8 < cLine by omega) (nk_is I k 8 _ _ hd hr rfl) dd (fun h' dd' sb => ?_) hz
  obtain ⟨ob, en, ep, h1, h2, h3, h4, _, h5⟩ := dd'
  refine ⟨_, d_write I (by rw [ha]; exact True.intro) sb ⟨ob, h1⟩ ?_, q kvs' g1⟩
  refine ⟨⟨_, g2, hs, ob, en, ep, h1, h2, h3, h4, h5⟩, ⟨ob, h1⟩, fun m1 m2 hm st => ?_⟩
  obtain ⟨xs', a1, a2, o', en', ep', a3, a4⟩ := hm
  exact ⟨xs', a1, a2, o', en', ep', st _ a3, a4⟩
def rLenDn (w : World) (K : PySem.W.Frag) : List V → Hp → VK → Prop := fun vs H Q => ∃ ρ a ks xs kvs, vs = [.ref a] ∧ H a = some (DnO w a kvs) ∧ DkAt K ρ H ks xs kvs ∧ ks.length ≤ lim ∧ Q (.int ks.length) H
theorem call_lenDn : CallR X (.builtin "len") (rLenDn X.w X.K) := by
  intro pins s σ H xs us Q I r h
  obtain ⟨ρ, a, ks, ys, kvs, rfl, ha, hk, hl, q⟩ := h
  obtain ⟨u, rfl, rx⟩ := r.one
  cases rx
  obtain ⟨hs, es, e1, dd⟩ := dn_of I ha hk
  have z1 := Paired.length e1
  have z2 := (dk_len hk).1
  have e : es.length = ks.length := by omega
  have lt : lim < 2 ^ 62 := by decide
  refine call_len_dictH (knd := nestedKind X.prog X.w) hs dd (by rw [e]; omega) ?_
  rw [e]
  exact ⟨.int ks.length, H, I.tok _, ⟨_, rfl⟩, q⟩
end
section
variable {G : Gx} {E : XK} {X : Cx} {a b e o i : Expr} {ma mb me mo mi : XE} {pos : Pos}
theorem dn_cell {ρ : Rho} {S : Store} {H : Hp} (q : Rel G.w G.K ρ S H) {y : PV} {u : V} {ks xs : List PV} (r : Rep G.K ρ H y u) (h : dnOf S y = some (ks, xs)) : ∃ l d kvs, y = .loc l ∧ S[l]? = some (.dkn ks xs) ∧ ρ.lb[l]? = some d ∧ u = .ref d ∧ H d = some (DnO G.w d kvs) ∧ DkAt G.K ρ H ks xs kvs := by
  cases y with
  | loc l =>
    unfold Rep at r
    obtain ⟨d, h1, rfl⟩ := r
    obtain ⟨c, hc, ca⟩ := q.cell h1
    simp only [dnOf, hc] at h
    cases c with
    | dkn js ys =>
      cases h
      obtain ⟨kvs, h3, h4⟩ := ca
      exact ⟨l, d, kvs, rfl, hc, h1, rfl, h3, h4⟩
    | _ => cases h
  | _ => cases h
theorem key_ref {ρ : Rho} {H : Hp} {x : PV} {v : V} (h : isKey x = true) (r : Rep G.K ρ H x v) : ∃ b, v = .ref b := by
  cases x with
  | tup xs => unfold Rep at r; obtain ⟨a, _, rfl, _⟩ := r; exact ⟨a, rfl⟩
  | _ => cases h
theorem sd_inD : Sd2 G E (rInD G.w G.K) oInD := fun ρ S H x y v u Q q rx ry h => by
  unfold oInD at h
  split at h
  · rename_i ks xs hd
    split at h
    · rename_i hk
      obtain ⟨b, rfl⟩ := key_ref hk rx
      obtain ⟨l, d, kvs, _, _, _, rfl, h3, h4⟩ := dn_cell q ry hd
      exact ⟨ρ, d, b, ks, xs, kvs, x, rfl, rfl, h3, h4, isKey_of hk, rx, h.ok q _ Rep.bl⟩
    · exact h.elim
  · exact h.elim
theorem sd_notInD : Sd2 G E (rNotInD G.w G.K) oNotInD := fun ρ S H x y v u Q q rx ry h => by
  unfold oNotInD at h
  split at h
  · rename_i ks xs hd
    split at h
    · rename_i hk
      obtain ⟨b, rfl⟩ := key_ref hk rx
      obtain ⟨l, d, kvs, _, _, _, rfl, h3, h4⟩ := dn_cell q ry hd
      exact ⟨ρ, d, b, ks, xs, kvs, x, rfl, rfl, h3, h4, isKey_of hk, rx, h.ok q _ Rep.bl⟩
    · exact h.elim
  · exact h.elim
theorem sd_ixD : Sd2 G E (rIxDn G.w G.K) oIxD := fun ρ S H x y v u Q q rx ry h => by
  unfold oIxD at h
  split at h
  · rename_i ks xs hd
    split at h
    · rename_i hk
      split at h
      · rename_i z hz
        obtain ⟨b, rfl⟩ := key_ref hk ry
        obtain ⟨l, d, kvs, _, _, _, rfl, h3, h4⟩ := dn_cell q rx hd
        exact ⟨ρ, d, b, ks, xs, kvs, y, rfl, rfl, h3, h4, isKey_of hk, ry, z, hz, fun v' rv => h.ok q v' rv⟩
      · exact h.elim
    · exact h.elim
  · exact h.elim
theorem sd_lenD : SdB G E (rLenDn G.w G.K) bLenD := fun ρ S H xs vs Q q r h => by
  unfold bLenD at h
  split at h
  · split at h
    · rename_i ks ys hd
      split at h
      · rename_i hl
        obtain ⟨v, rfl, r1⟩ := one_of r
        obtain ⟨l, d, kvs, _, _, _, rfl, h3, h4⟩ := dn_cell q r1 hd
        exact ⟨ρ, d, ks, ys, kvs, rfl, h3, h4, hl, h.ok q _ Rep.int⟩
      · exact h.elim
    · exact h.elim
  · exact h.elim
theorem i_ixD (hu : X.A.units + 10 < cLine) (ha : PE X a (tI G E ma)) (hb : PE X b (tI G E mb)) (hs : PlainIx b := by intro _ _; rfl) (hK : X.K = G.K := by rfl) (hw : X.w = G.w := by rfl) : PE X (.Subscript a b pos) (tI G E (eOp oIxD ma mb)) :=
  (pe_ix (ix_Dn hu) ha hb hs).imp fun σ H Q h => by
    obtain ⟨ρ, S, env, hR, hE, h⟩ := h
    rw [hK, hw]
    exact two hR hE h fun ρ' S' H' x y v u e' hR' rv ru h' => sd_ixD ρ' S' H' x y v u Q hR' rv ru h'
theorem sd_setD {ρ : Rho} {S : Store} {H : Hp} {o i x : PV} {vo vi v : V} {k : Rho → Store → Hp → Unit → Prop} {Q : Hp → Prop} (q : Rel G.w G.K ρ S H) (ro : Rep G.K ρ H o vo) (ri : Rep G.K ρ H i vi) (rx : Rep G.K ρ H x v) (h : Aft G E ρ H (oSetD o i x S) k)
    (m : ∀ ρ' S' H', Ext ρ H ρ' H' → Rel G.w G.K ρ' S' H' → k ρ' S' H' () → Q H') : rSetDn G.w G.K vo vi v H Q := by
  unfold oSetD at h
  split at h
  · rename_i l
    split at h
    · rename_i ks xs hd
      split at h
      · rename_i hk
        obtain ⟨b, rfl⟩ := key_ref hk.1 ri
        obtain ⟨l', d, kvs, hl, hc, hlb, rfl, h3, h4⟩ := dn_cell (ks := ks) (xs := xs) q ro (by unfold dnOf; simp only [hd])
        cases hl
        refine ⟨ρ, d, b, ks, xs, kvs, i, rfl, rfl, h3, h4, isKey_of hk.1, ri, hk.2, x, rx, fun kvs' g => ?_⟩
        have md : d ∈ ρ.lb := List.mem_of_getElem? hlb
        have ew : Ext ρ H ρ (upd H d (DnO G.w d kvs')) := Ext.write md fun ps z => DnO.plain.1 ps z
        have qw := q.write hlb (o := DnO G.w d kvs') (c := .dkn (putN ks xs i x).1 (putN ks xs i x).2) ⟨kvs', upd_same, g.imp (fun x v _ _ => Rep.ext ew x v) fun x v _ => Rep.ext ew x v⟩
        exact m ρ _ _ ew qw (h ρ _ ew qw)
      · exact h.elim
    · exact h.elim
  · exact h.elim
theorem g_subD (hu : X.A.units + 10 < cLine) (ho : PE X o (tI G E mo)) (hi : PE X i (tI G E mi))
    (ha : ∀ v, assign (.Subscript o i pos) X.env v = (do
      let ov ← holding [v] (eval o X.env)
      let iv ← holding [v, ov] (eval i X.env)
      standAt pos
      holding [v, ov, iv] (setItem ov iv v)
      release [v, ov, iv] []) := by intro _; rfl) (hK : X.K = G.K := by rfl) (hw : X.w = G.w := by rfl) : PG X (.Subscript o i pos) (tIG G E [] (gSbD mo mi)) :=
  (pg_sub ho hi (set_Dn hu) ha).imp fun v σ H Q h => by
    obtain ⟨ρ, S, env, x, hR, hE, hx, h⟩ := h
    rw [hK, hw]
    have h : Aft G E ρ H ((mo env S).bind fun ov S => (mi env S).bind fun iv S => (oSetD ov iv x S).bind fun _ S => R.ok env S) (fun ρ' S' H' env' => ∀ σ', EnvR G.K ρ' H' env' σ' → Wp [] σ σ' → Q σ' H') := h
    refine ⟨ρ, S, env, hR, hE, h.step fun ρ1 S1 H1 ov e1 hR1 h1 vo ro => ?_⟩
    refine ⟨ρ1, S1, env, hR1, hE.ext e1, h1.step fun ρ2 S2 H2 iv e2 hR2 h2 vi ri => ?_⟩
    refine sd_setD hR2 (Rep.ext e2 _ _ ro) ri (Rep.ext e2 _ _ (Rep.ext e1 _ _ hx)) (Aft.bind h2) fun ρ3 S3 H3 e3 hR3 h3 => ?_
    exact h3.ok hR3 σ (((hE.ext e1).ext e2).ext e3) fun _ _ => rfl
end

/-! ### {k: v} -/
section
variable {X : Cx}
def tDn1 (w : World) (K : PySem.W.Frag) (tk tv : TE) : TE := fun σ H Q => ∀ p, H p = none → tPairs [(tk, tv)] σ (upd H p (DnO w p [])) fun ps H2 => H2 p = some (DnO w p []) ∧ ∃ ρ kp b y, ps = [(.ref b, y)] ∧ keyD 8 kp = true ∧ Rep K ρ H2 kp (.ref b) ∧ Q (.ref p) (upd H2 p (DnO w p [(nk kp, b, y)]))
theorem dn_ok {P : Program} {w : World} {H : Hp} {h : Heap} {a : Addr} {kvs : List (NestedKey × Addr × V)} {es : List (NestedKey × Addr × Value)} (e : EnR kvs es) (hs : (a == sysModules) = false) (d : h.DictOfH (nestedKind P w) a es) : ObjOk P w H h a (DnO w a kvs) := by
  obtain ⟨ob, en, ep, h1, h2, h3, h4, _, h5⟩ := d
  refine ⟨⟨es, e, hs, ob, en, ep, h1, h2, h3, h4, h5⟩, ⟨ob, h1⟩, fun m1 m2 hm st => ?_⟩
  obtain ⟨xs', a1, a2, o', en', ep', a3, a4⟩ := hm
  exact ⟨xs', a1, a2, o', en', ep', st _ a3, a4⟩
theorem disp_subDict {prog : Program} {w : World} {A : Around} {E : Value → Shared → Prop} {s : Shared} {env : PySem.Env} {keys : List (Option Expr)} {values : List Expr} {pos : Pos} {Q : Value → Shared → Prop} (hall : keys.all (·.isSome) = true) (hl : keys.length = values.length) (h0 : pairTrees keys values env pos ≠ []) (h15 : (pairTrees keys values env pos).length ≤ 15)
    (h : wpAny (model prog w) A (subDict (pairTrees keys values env pos)) (fun d s' => Q (.ref d) s') E s) : wpAny (model prog w) A (eval (.Dict keys values pos) env) Q E s := by
  rw [arm_eval_Dict, zip_pairTrees keys values env pos hall hl, dictDisplay_pairs _ h0 (by omega)]
  refine wpAny_bind (wpAny_standAt ?_)
  refine wpAny_bind (wpAny_mono h (fun d s' q => ?_) fun _ _ z => z)
  exact wpAny_pure q
theorem pe_dn1 {ke ve : Expr} {tk tv : TE} {pos : Pos} (h : PPs X pos [some ke] [ve] [(tk, tv)]) (hu : X.A.units + 10 < cLine) : PE X (.Dict [some ke] [ve] pos) (tDn1 X.w X.K tk tv) := by
  refine ⟨fun pins s σ H Q I q => ?_⟩
  have hn := I.hok.fresh (Nat.le_refl s.heap.objs.size)
  have hne : (s.heap.objs.size == sysModules) = false := beq_eq_false_iff_ne.mpr (Ne.symm (Nat.ne_of_lt I.big))
  have I1 := I.laid (a := s.heap.objs.size) (o := DnO X.w s.heap.objs.size []) (h' := s.heap.push { cls := .type "dict", data := .dict #[] }) (t' := s.toks) (fun _ _ q => Heap.get?_push_of_some _ q) (Nat.le_refl _) (dn_ok (P := X.prog) .nil hne (Heap.DictOfH.new s.heap))
  have hlen : (pairTrees [some ke] [ve] X.env pos).length = 1 := pairTrees_length _ _ _ _ rfl rfl
  refine disp_subDict rfl rfl (fun z => by rw [z] at hlen; cases hlen) (by omega) ?_
  refine wpAny_subDictH (knd := nestedKind X.prog X.w) (show X.A.units + 8 < cLine by omega) (by omega) (thn (h.run pins _ σ _ _ I1 (q _ hn)) fun ws s2 ⟨ps, H2, I2, rel, e, q2⟩ => ?_)
  obtain ⟨ρ, kp, b, y, rfl, hd, hr, q3⟩ := q2
  cases rel with
  | @cons p0 w0 ps0 ws0 e1 e2 =>
    cases e2
    obtain ⟨ku, vu⟩ := w0
    obtain ⟨r1, r2⟩ := e1
    have r1 : ku = .ref b := r1
    have r2 : RelV y vu := r2
    subst r1
    obtain ⟨_, z0, e0, dd⟩ := dn_of (ρ := ρ) (ks := []) (xs := []) I2 e rfl
    cases e0
    refine ⟨[(nk kp, b, vu)], ⟨rfl, rfl, nk_is I2 kp 8 _ _ hd hr rfl, True.intro⟩, dd, fun h' tk dd' sb => ⟨.ref s.heap.objs.size, _, ?_, rfl, q3⟩⟩
    have hx : ∃ o, h'.get? s.heap.objs.size = some o := let ⟨o, _, _, z, _⟩ := dd'; ⟨o, z⟩
    refine d_write I2 (by rw [e]; exact True.intro) sb hx (dn_ok (P := X.prog) (es := [(nk kp, b, vu)]) (.cons ⟨rfl, rfl, r2⟩ .nil) hne ?_)
    exact dd'
end
section
variable {G : Gx} {E : XK} {X : Cx} {ke ve : Expr} {mk mv : XE} {pos : Pos}
/-- a dict of one pair: a name, something constant -/
theorem i_dn {i : Nat} {c : PV} (hk : PE X ke (tI G E (eVar i))) (hv : PE X ve (tI G E (eC c))) (hu : X.A.units + 10 < cLine) (hK : X.K = G.K := by rfl) (hw : X.w = G.w := by rfl) : PE X (.Dict [some ke] [ve] pos) (tI G E (eDn (eVar i) (eC c))) :=
  (pe_dn1 (pps_cons hk hv pps_nil) hu).imp fun σ H Q h => by
    obtain ⟨ρ, S, env, hR, hE, h⟩ := h
    rw [hK, hw]
    intro p hp
    have hidE : EnvR G.K (ρ.hide p) (upd H p (DnO G.w p [])) env σ := ⟨hE.len, fun i x hx => by
      obtain ⟨v, h1, h2⟩ := hE.at_ i x hx
      exact ⟨v, h1, Rep.hide hp x v h2⟩⟩
    have under : ∀ {ρ' : Rho} {H' : Hp}, Ext (ρ.hide p) (upd H p (DnO G.w p [])) ρ' H' → ∃ ρ2 : Rho, ρ' = ρ2.hide p ∧ Ext ρ H ρ2 H' := fun {ρ' H'} e => by
      obtain ⟨ρ2, rfl, f⟩ := e.ofHide
      refine ⟨ρ2, rfl, ?_⟩
      obtain ⟨m, em, hm⟩ := f.more
      have back : ∀ a, FrA (upd H p (DnO G.w p [])) a → FrA H a := fun a q => by
        by_cases e : a = p
        · rw [e]; exact .of hp
        · exact fun o z => q o (by rw [upd_ne e]; exact z)
      exact ⟨⟨m, em, fun a ha => back a (hm a ha)⟩, f.hid, fun a u ha nt n => f.keep a u (by rw [upd_ne (ne_of_none ha hp)]; exact ha) nt n, fun a ha => back a (f.dom a ha)⟩
    have np : p ∉ ρ.lb := hR.out1 hp
    refine ⟨ρ.hide p, S, env, hR.hide hp DnO.plain, hidE, ?_⟩
    unfold eDn eVar at h
    unfold eVar
    split at h
    · rename_i x hx
      simp only [eC, R.bind_ok] at h
      split at h
      · rename_i hk
        intro ρ1 H1 e1 q1 v rv
        refine ⟨ρ1, S, env, q1, hidE.ext e1, ?_⟩
        intro ρ3 H3 e3 q3 y ry
        have e := e1.trans e3
        obtain ⟨ρ4, rfl, f⟩ := under e
        have rx := Rep.ext e3 _ _ rv
        obtain ⟨b, rfl⟩ := key_ref hk rx
        refine ⟨e.keep p _ upd_same DnO.plain.1 np, ρ4.hide p, x, b, y, rfl, isKey_of hk, rx, ?_⟩
        have mp : p ∈ (ρ4.hide p).hid := List.mem_cons_self ..
        have nh : p ∉ ρ4.hid := fun z => by
          rw [f.hid] at z
          obtain ⟨⟨o, ho, _⟩, _⟩ := hR.hd p z
          rw [hp] at ho; cases ho
        refine h (ρ4.add p) _ ((f.wr hp).adopt hp) ((q3.hw mp DnO.plain).adopt nh ⟨_, upd_same, b, y, [], rfl, isKey_of hk, Rep.adopt _ _ (Rep.hw mp _ _ rx), Rep.adopt _ _ (Rep.hw mp _ _ ry), rfl⟩) _ ?_
        unfold Rep
        refine ⟨p, ?_, rfl⟩
        have ql : ρ4.lb.length = S.length := q3.len
        show (ρ4.lb ++ [p])[S.length]? = some p
        rw [← ql]
        simp
      · exact h.elim
    · exact h.elim
end
end

/-! MiniS -/
/-! MiniS: starred items, [::-1], sorted ints, pop(i), x += e, tuples compared. -/
section
open PySem PySem.Spec PyProof.Rows L2
def aStar (m : XE) (r : XA) : XA := fun env S => (m env S).bind fun x S1 => match seqOf S1 x with
  | some ys => (r env S1).bind fun zs S2 => .ok (ys ++ zs) S2
  | none => .bad
def oRev : Op1 := fun x S => match lstOf S x with
  | some xs => .ok (.ls xs.reverse) S
  | none => .bad
def oRevN : Op1 := fun x S => match lstOf S x with
  | some xs => .ok (.loc S.length) (S ++ [.lst xs.reverse])
  | none => .bad
def insI (x : Int) : List Int → List Int
  | [] => [x]
  | y :: r => if x ≤ y then x :: y :: r else y :: insI x r
def sortI : List Int → List Int
  | [] => []
  | x :: r => insI x (sortI r)
def toInts : List PV → Option (List Int)
  | [] => some []
  | .int i :: r => (toInts r).map (i :: ·)
  | _ => none
def bSorted : Bf := fun xs S => match xs with
  | [x] => match (lstOf S x).bind toInts with
    | some ns => .ok (.ls ((sortI ns).map .int)) S
    | none => .bad
  | _ => .bad
def mPopAt (l : Nat) (y : PV) (S : Store) : R PV := match y, S[l]? with
  | .int i, some (.lst xs) => if 0 ≤ i ∧ i < 1000000 then match xs[i.toNat]? with
      | some z => .ok z (S.set l (.lst (xs.eraseIdx i.toNat)))
      | none => .bad
    else .bad
  | _, _ => .bad
/-- x op= e, x a name -/
def sAug (i : Nat) (op : Op2) (e : XE) : XS := fun env S => match env[i]? with
  | some (some x) => (e env S).bind fun y S => (op x y S).bind fun z S => .ok (.nx, env.set i (some z)) S
  | _ => .bad
def lexI : List Int → List Int → Bool
  | [], [] => false
  | [], _ :: _ => true
  | _ :: _, [] => false
  | x :: xs, y :: ys => if x = y then lexI xs ys else decide (x < y)
/-- tuples of ints -/
def oLtT : Op2 := fun x y S => match x, y with
  | .tup a, .tup b => match toInts a, toInts b with
    | some ns, some ms => .ok (.bl (lexI ns ms)) S
    | _, _ => .bad
  | _, _ => .bad
theorem insI_perm (x : Int) : ∀ l, (insI x l).Perm (x :: l)
  | [] => .refl _
  | y :: r => by
    unfold insI
    split
    · exact .refl _
    · exact ((insI_perm x r).cons y).trans (.swap x y r)
theorem sortI_perm : ∀ l, (sortI l).Perm l
  | [] => .refl _
  | x :: r => (insI_perm x (sortI r)).trans ((sortI_perm r).cons x)
theorem insI_sorted (x : Int) : ∀ l, l.Pairwise (· ≤ ·) → (insI x l).Pairwise (· ≤ ·)
  | [], _ => by unfold insI; exact List.pairwise_singleton _ _
  | y :: r, h => by
    obtain ⟨h1, h2⟩ := List.pairwise_cons.mp h
    unfold insI
    split
    · rename_i hx
      refine List.pairwise_cons.mpr ⟨fun z hz => ?_, h⟩
      rcases List.mem_cons.mp hz with rfl | hz
      · exact hx
      · exact Int.le_trans hx (h1 z hz)
    · rename_i hx
      refine List.pairwise_cons.mpr ⟨fun z hz => ?_, insI_sorted x r h2⟩
      rcases List.mem_cons.mp ((insI_perm x r).mem_iff.mp hz) with rfl | hz
      · omega
      · exact h1 z hz
theorem sortI_sorted : ∀ l, (sortI l).Pairwise (· ≤ ·)
  | [] => .nil
  | x :: r => insI_sorted x _ (sortI_sorted r)
theorem sorted_uniq : ∀ {l m : List Int}, l.Perm m → l.Pairwise (· ≤ ·) → m.Pairwise (· ≤ ·) → l = m := fun p h1 h2 =>
  p.eq_of_pairwise (fun a b _ _ h h' => Int.le_antisymm h h') h1 h2
section
variable {G : Gx} {E : XK} {X : Cx} {a b e o : Expr} {es : List Expr} {me ma mo : XE} {ms : XA} {pos p : Pos}
theorem i_star (he : PE X e (tI G E me)) (hr : PA X es (tIA G E ms)) (hK : X.K = G.K := by rfl) (hs : starEach (.Starred e p :: es) X.env = (true, eval e X.env) :: starEach es X.env := by rfl) : PA X (.Starred e p :: es) (tIA G E (aStar me ms)) :=
  (StX.pa_star he hr hs).imp fun σ H Q h => by
    obtain ⟨ρ, S, env, hR, hE, h⟩ := h
    rw [hK]
    refine ⟨ρ, S, env, hR, hE, h.step fun ρ1 S1 H1 x e1 hR1 h1 v rv => ?_⟩
    split at h1
    · rename_i ys hy
      obtain ⟨d, vs, rfl, h2, h3⟩ := seq_of hR1 rv hy
      refine ⟨d, vs, rfl, h2.elim .inr .inl, ρ1, S1, env, hR1, hE.ext e1, h1.step fun ρ2 S2 H2 zs e2 hR2 h4 us rus => ?_⟩
      exact h4.ok hR2 _ ((Reps.ext e2 _ _ h3).append rus)
    · exact h1.elim
theorem i_revS {k : Nat} {p1 p2 p3 : Pos} (he : PE X e (tI G E me)) (hK : X.K = G.K := by rfl) : PE X (.Subscript e (.Slice none none (some (.UnaryOp .USub (.Constant (.int 1) k p1) p2)) p3) pos) (tI G E (eUn oRev me)) :=
  (pe_revL he).imp fun σ H Q h => by
    obtain ⟨ρ, S, env, hR, hE, h⟩ := h
    rw [hK]
    refine ⟨ρ, S, env, hR, hE, h.step fun ρ1 S1 H1 x e1 hR1 h1 v rv => ?_⟩
    unfold oRev at h1
    split at h1
    · rename_i xs hx
      obtain ⟨d, vs, rfl, h2, h3⟩ := lst_of hR1 rv hx
      exact ⟨d, vs, rfl, .of h2, put_ls hR1 h3.reverse h1⟩
    · exact h1.elim
theorem i_revN {k : Nat} {p1 p2 p3 : Pos} (he : PE X e (tI G E me)) (hK : X.K = G.K := by rfl) : PE X (.Subscript e (.Slice none none (some (.UnaryOp .USub (.Constant (.int 1) k p1) p2)) p3) pos) (tI G E (eUn oRevN me)) :=
  (pe_revL he).imp fun σ H Q h => by
    obtain ⟨ρ, S, env, hR, hE, h⟩ := h
    rw [hK]
    refine ⟨ρ, S, env, hR, hE, h.step fun ρ1 S1 H1 x e1 hR1 h1 v rv => ?_⟩
    unfold oRevN at h1
    split at h1
    · rename_i xs hx
      obtain ⟨d, vs, rfl, h2, h3⟩ := lst_of hR1 rv hx
      exact ⟨d, vs, rfl, .of h2, put_new hR1 h3.reverse h1⟩
    · exact h1.elim
theorem ints_rep {K : PySem.W.Frag} {ρ : Rho} {H : Hp} : ∀ {xs : List PV} {ns : List Int} {vs : List V}, toInts xs = some ns → Reps K ρ H xs vs → vs = ns.map V.int ∧ xs = ns.map PV.int
  | [], ns, vs, h, r => by
    cases h
    unfold Reps at r
    exact ⟨r, rfl⟩
  | x :: xs, ns, vs, h, r => by
    obtain ⟨v, t, rfl, r1, r2⟩ := r.uncons
    cases x with
    | int i =>
      have h : (toInts xs).map (i :: ·) = some ns := h
      cases hx : toInts xs with
      | none => rw [hx] at h; cases h
      | some ms =>
        rw [hx] at h
        cases h
        obtain ⟨h1, h2⟩ := ints_rep hx r2
        rw [r1.int_of, h1]
        exact ⟨rfl, by rw [h2]; rfl⟩
    | _ => cases h
theorem reps_ints {K : PySem.W.Frag} {ρ : Rho} {H : Hp} : ∀ ns : List Int, Reps K ρ H (ns.map PV.int) (ns.map V.int)
  | [] => .nil
  | i :: r => .cons Rep.int (reps_ints r)
theorem seqI {i : Int} {n : Nat} (h : 0 ≤ i) (hl : i.toNat < n) : seqIndex? i n = some i.toNat := by
  unfold seqIndex?
  have h1 : ¬ i < 0 := by omega
  rw [if_neg h1]
  have h2 : (decide (0 ≤ i) && decide (i < (n : Int))) = true := by
    rw [decide_eq_true h, decide_eq_true (show i < (n : Int) by omega)]
    rfl
  exact if_pos h2
theorem reps_erase {K : PySem.W.Frag} {ρ : Rho} {H : Hp} : ∀ {xs : List PV} {vs : List V} (_ : Reps K ρ H xs vs) (n : Nat), Reps K ρ H (xs.eraseIdx n) (vs.eraseIdx n)
  | [], _, r, n => by
    unfold Reps at r
    subst r
    exact .nil
  | x :: xs, _, r, 0 => by
    obtain ⟨v, t, rfl, r1, r2⟩ := r.uncons
    exact r2
  | x :: xs, _, r, n + 1 => by
    obtain ⟨v, t, rfl, r1, r2⟩ := r.uncons
    exact .cons r1 (reps_erase r2 n)
theorem call_sortedU : CallR X (.builtin "sorted") (rSortedI X.K) := cr_sortedI
theorem sd_sorted : SdB G E (rSortedI G.K) bSorted := fun ρ S H xs vs Q q r h => by
  unfold bSorted at h
  split at h
  · rename_i x
    split at h
    · rename_i ns hn
      cases hx : lstOf S x with
      | none => rw [hx] at hn; cases hn
      | some ys =>
        rw [hx] at hn
        have hn : toInts ys = some ns := hn
        obtain ⟨v, rfl, r1⟩ := one_of r
        obtain ⟨d, us, rfl, h2, h3⟩ := lst_of q r1 hx
        obtain ⟨rfl, _⟩ := ints_rep hn h3
        refine ⟨d, ns, rfl, .of h2, fun ns' p hp hs hf => ?_⟩
        rw [sorted_uniq (hp.trans (sortI_perm ns).symm) hs (sortI_sorted ns)]
        exact put_ls q (reps_ints _) h p hf
    · exact h.elim
  · exact h.elim
def rPopU : V → List V → Hp → VK → Prop := rPopAt
section
variable {apos cpos : Pos}
theorem i_popAt (ho : PE X o (tI G E mo)) (ha : PE X a (tI G E ma)) (hK : X.K = G.K := by rfl) (hs : starEach (a :: []) X.env = (false, eval a X.env) :: starEach [] X.env := by rfl)
    (hbase : attributeBase o "pop" X.env (eval o X.env) = eval o X.env := by rfl)
    (hfew : ((backTo cpos (starEach (a :: []) X.env)).all (fun x => !x.1) && (backToKw cpos (keywordEach [] X.env)).all (fun x => x.1.isSome)
      && decide ((a :: []).length + ([] : List Keyword).length + (if ([] : List Keyword).isEmpty then 0 else 1) < 30)) = true := by rfl)
    (hline : (apos.endLine == cpos.line) = true := by rfl) (hplain : (backTo cpos (starEach [] X.env)).any (·.1) = false := by rfl) :
    PE X (.Call (.Attribute o "pop" apos) [a] [] cpos) (tI G E (eMeth1 mPopAt mo ma)) :=
  (pe_bm PySem.F.plainAttrs_list PySem.F.slot_list_pop PySem.F.type_list_pop mt_popAt ho (pa_cons ha pa_nil hs) hbase hfew hline hs hplain).imp fun σ H Q h => by
    obtain ⟨ρ, S, env, hR, hE, h⟩ := h
    refine ⟨ρ, S, env, hR, hE, Aft.step (f := fun x S => _) h fun ρ1 S1 H1 x e1 hR1 h1 v rv => ?_⟩
    cases x with
    | loc l =>
      simp only at h1
      split at h1
      · rename_i xs hx
        obtain ⟨d, vs, rfl, hp, h2, h3⟩ := loc_list hR1 rv hx
        refine ⟨.inl ⟨rfl, vs, SqL.of h2⟩, ρ1, S1, env, hR1, hE.ext e1, h1.step fun ρ2 S2 H2 y e2 hR2 h4 u ru => ?_⟩
        unfold mPopAt at h4
        split at h4
        · rename_i i ys hy
          split at h4
          · rename_i hi
            split at h4
            · rename_i z hz
              obtain ⟨d', us, e', hp', h5, h6⟩ := loc_list hR2 (Rep.ext e2 _ _ rv) hy
              cases e'
              rw [ru.int_of]
              obtain ⟨w, hw1, hw2⟩ := h6.get hz
              obtain ⟨w1, w2⟩ := lst_write hR2 hp' (reps_erase h6 i.toNat)
              have hlt := (List.getElem?_eq_some_iff.mp hw1).1
              exact ⟨d, us, i, i.toNat, w, rfl, rfl, h5, by omega, by omega, seqI hi.1 hlt, hw1, h4 ρ2 _ w1 w2 _ (Rep.ext w1 _ _ hw2)⟩
            · exact h4.elim
          · exact h4.elim
        · exact h4.elim
      · exact h1.elim
    | _ => exact h1.elim
end
theorem s_aug {i : Nat} {x : Str} {op : Operator} {r : R2} {o : Op2} {pos' : Pos} (hN : X.N.Nodup) (hi : X.N[i]? = some x) (hx : Loc X.env.scope x) (he : PE X e (tI G E me)) (ho : PIp X op r) (so : Sd2 G E r o) (hf : X.fn x = true ∨ X.env.scope.names.lookup x = some .local := by first | exact .inl rfl | exact .inr rfl) :
    PS X (.AugAssign (.Name x pos') op e pos) (tIS G E (sAug i o me)) :=
  (ps_aug hN hi hx he ho hf).imp fun D σ H h => by
    obtain ⟨ρ, S, env, hR, hE, h⟩ := h
    unfold sAug at h
    split at h
    · rename_i y hy
      obtain ⟨v, hv, rv⟩ := hE.at_ i y hy
      refine ⟨v, hv, ρ, S, env, hR, hE, Aft.step (f := fun z S => _) h fun ρ1 S1 H1 z e1 hR1 h1 u ru => ?_⟩
      refine so ρ1 S1 H1 y z v u _ hR1 (Rep.ext e1 _ _ rv) ru (h1.step fun ρ2 S2 H2 t e2 hR2 h2 w rw' => ?_)
      exact h2.ok hR2 _ (((hE.ext e1).ext e2).set i rw')
    · exact h.elim
theorem lexI_eq : ∀ a b : List Int, HT.lexLt a b = lexI a b
  | [], [] => rfl
  | [], _ :: _ => rfl
  | _ :: _, [] => rfl
  | x :: xs, y :: ys => by
    unfold HT.lexLt lexI
    rw [lexI_eq xs ys]
theorem sd_ltT : Sd2 G E (rLtT G.K) oLtT := fun ρ S H x y v u Q q rx ry h => by
  unfold oLtT at h
  split at h
  · rename_i a b
    split at h
    · rename_i ns ms h1 h2
      unfold Rep at rx ry
      obtain ⟨d, vs, rfl, t1, r1⟩ := rx
      obtain ⟨d2, us, rfl, t2, r2⟩ := ry
      obtain ⟨rfl, _⟩ := ints_rep h1 r1
      obtain ⟨rfl, _⟩ := ints_rep h2 r2
      refine ⟨d, d2, ns, ms, rfl, rfl, t1.sq, t2.sq, ?_⟩
      rw [lexI_eq]
      exact h.ok q _ Rep.bl
    · exact h.elim
  · exact h.elim
end
end

/-! MiniZ -/
/-! MiniZ: sets of ints that are sorted at once. -/
section
open PySem PySem.Spec PyProof.Rows L2
/-- the ints of a list, rising, each once -/
def dedI : List Int → List Int
  | [] => []
  | x :: r => if x ∈ dedI r then dedI r else x :: dedI r
def setI (l : List Int) : List Int := sortI (dedI l)
/-- sorted({a, b}) -/
def eSet2 (a b : XE) : XE := fun env S => (a env S).bind fun x S1 => (b env S1).bind fun y S2 => match x, y with
  | .int i, .int j => .ok (.ls ((setI [i, j]).map .int)) S2
  | _, _ => .bad
theorem mem_ded (k : Int) : ∀ l, k ∈ dedI l ↔ k ∈ l
  | [] => Iff.rfl
  | x :: r => by
    have ih := mem_ded k r
    unfold dedI
    split
    · rename_i h
      rw [ih, List.mem_cons]
      exact ⟨.inr, fun z => z.elim (fun e => by rw [e]; exact (mem_ded x r).mp h) id⟩
    · rw [List.mem_cons, List.mem_cons, ih]
theorem nodup_ded : ∀ l, (dedI l).Nodup
  | [] => List.nodup_nil
  | x :: r => by
    unfold dedI
    split
    · exact nodup_ded r
    · rename_i h
      exact List.nodup_cons.mpr ⟨h, nodup_ded r⟩
theorem setI_uniq {l ns : List Int} (h : ns.Pairwise (· < ·)) (m : ∀ k, k ∈ ns ↔ k ∈ l) : ns = setI l := by
  have nd : ns.Nodup := h.imp fun hab => Int.ne_of_lt hab
  have p : ns.Perm (dedI l) := (List.perm_ext_iff_of_nodup nd (nodup_ded l)).mpr fun k => by rw [m k, mem_ded]
  exact sorted_uniq (p.trans (sortI_perm _).symm) (h.imp fun hab => Int.le_of_lt hab) (sortI_sorted _)
section
variable {P : Program} {w : World} {A : Around} {E : Value → Shared → Prop} {s : Shared}
theorem new_set {Q : Value → Shared → Prop} (h : ∀ h', (∀ b o, s.heap.get? b = some o → h'.get? b = some o) → SetR w h' s.heap.objs.size (fun _ => false) 0 → Q (.ref s.heap.objs.size) { s with heap := h' }) : wpAny (model P w) A (newSet (.type "set")) Q E s := by
  unfold newSet
  refine wpAny_bind (wpAny_byText ?_)
  simp only [newObj]
  refine wpAny_bind (wpAny_alloc (wpAny_pure (h _ (fun b o e => Heap.get?_push_of_some _ e) (setR_fresh w))))
theorem add_int {a : Addr} {S : Int → Bool} {n : Nat} {k : Int} {tk : Tok} {Q : Bool → Shared → Prop} (R : SetR w s.heap a S n) (room : n + 1 < scanBound)
    (h : ∀ b h', Heap.SameBut a s.heap h' → SetR w h' a (fun j => S j || decide (j = k)) (if S k = true then n else n + 1) → Q b { s with heap := h', toks := s.toks + 1 }) : wpAny (model P w) A (setAdd a (.int k tk)) Q E s := by
  unfold setAdd
  refine wpAny_holding (wpAny_bind ((intKind P w).pyHash (k := k) (intKind_is _ _ _ _) ?_))
  exact setR_add_hashed (s := { s with toks := s.toks + 1 }) R room fun h' sb R' => h _ h' sb R'
end

section
variable {X : Cx} {a b : Expr} {ta tb : TE} {pos : Pos}
def two2 (i j : Int) : Int → Bool := fun k => (false || decide (k = i)) || decide (k = j)
def num2 (i j : Int) : Nat := if (false || decide (j = i)) = true then 1 else 2
def tSet2 (w : World) (ta tb : TE) : TE := fun σ H Q => ∀ p, H p = none → ta σ (upd H p (SetO w p (fun _ => false) 0)) fun x H1 => tb σ H1 fun y H2 => ∃ i j, x = .int i ∧ y = .int j ∧ H2 p = some (SetO w p (fun _ => false) 0) ∧ Q (.ref p) (upd H2 p (SetO w p (two2 i j) (num2 i j)))
theorem pe_set2 (ha : PE X a ta) (hb : PE X b tb) (hcd : PySem.W.kdsCode X.K X.env.code = true) (hs : starEach [a, b] X.env = [(false, eval a X.env), (false, eval b X.env)] := by rfl) : PE X (.Set [a, b] 0 pos) (tSet2 X.w ta tb) := by
  refine ⟨fun pins s σ H Q I q => ?_⟩
  have hn := I.hok.fresh (Nat.le_refl s.heap.objs.size)
  rw [arm_eval_Set, hs]
  refine wpAny_bind (wpAny_standAt (wpAny_bind (PySem.W.kds_main I.kIn hcd fun main => ?_)))
  have road : displayRoad 0 [a, b] = .oneByOne := rfl
  rw [road]
  unfold setDisplay
  dsimp only
  refine wpAny_bind (new_set fun h0 k0 R0 => ?_)
  have I1 := I.laid (a := s.heap.objs.size) (o := SetO X.w s.heap.objs.size (fun _ => false) 0) (h' := h0) (t' := s.toks) k0 (Nat.le_refl _) (setO_new R0)
  have hq := q _ hn
  refine wpAny_bind (wpAny_holding ?_)
  show wpAny _ _ (evalAll [eval a X.env >>= fun v => standAt pos >>= fun _ => pure v, eval b X.env >>= fun v => standAt pos >>= fun _ => pure v] >>= _) _ _ _
  refine wpAny_bind ?_
  unfold evalAll
  refine wpAny_bind (wpAny_bind (thn (ha.run pins _ σ _ _ I1 hq) fun u1 s1 ⟨x, H1, I2, r1, q1⟩ => wpAny_bind (wpAny_standAt (wpAny_pure ?_))))
  unfold evalAll
  refine wpAny_bind (wpAny_holding (wpAny_bind (wpAny_bind (thn (hb.run pins _ σ _ _ I2 q1) fun u2 s2 ⟨y, H2, I3, r2, q2⟩ => wpAny_bind (wpAny_standAt (wpAny_pure ?_))))))
  unfold evalAll
  refine wpAny_bind (wpAny_holding (wpAny_pure (wpAny_pure (wpAny_pure ?_))))
  obtain ⟨i, j, rfl, rfl, hp, q3⟩ := q2
  obtain ⟨t1, rfl⟩ := r1
  obtain ⟨t2, rfl⟩ := r2
  have R1 := setO_get I3 hp
  refine wpAny_bind (wpAny_holding (wpAny_bind ?_))
  rw [List.forIn_cons]
  refine wpAny_bind (wpAny_bind (add_int R1 (by decide) fun _ h1 sb1 R2 => wpAny_pure ?_))
  show wpAny _ _ (forIn [Value.int j t2] PUnit.unit _) _ _ _
  rw [List.forIn_cons]
  refine wpAny_bind (wpAny_bind (add_int R2 (by split <;> decide) fun _ h2 sb2 R3 => wpAny_pure ?_))
  show wpAny _ _ (forIn ([] : List Value) PUnit.unit _) _ _ _
  rw [List.forIn_nil]
  refine wpAny_pure ?_
  rw [if_neg (by decide)]
  refine wpAny_pure ?_
  show wpAny _ _ (forIn ([] : List (Bool × Sem Value)) PUnit.unit _ >>= _) _ _ _
  rw [List.forIn_nil]
  refine wpAny_bind (wpAny_pure (wpAny_pure (wpAny_pure ?_)))
  refine ⟨.ref s.heap.objs.size, _, ?_, rfl, q3⟩
  have hx : ∃ o, h2.get? s.heap.objs.size = some o := let ⟨o, _, _, _, z, _⟩ := R3; ⟨o, z⟩
  exact d_write (s := s2) I3 (by rw [hp]; exact True.intro) (sb1.trans sb2) hx (setO_new R3)
end
section
variable {G : Gx} {E : XK} {X : Cx} {a b : Expr} {ma mb : XE} {pos : Pos}
/-- what is done while something is hidden -/
theorem Ext.under {ρ ρ' : Rho} {H H' : Hp} {p : Addr} {o : HO} (hp : H p = none) (e : Ext (ρ.hide p) (upd H p o) ρ' H') : ∃ ρ2 : Rho, ρ' = ρ2.hide p ∧ Ext ρ H ρ2 H' := by
  obtain ⟨ρ2, rfl, f⟩ := e.ofHide
  refine ⟨ρ2, rfl, ?_⟩
  obtain ⟨m, em, hm⟩ := f.more
  have back : ∀ a, FrA (upd H p o) a → FrA H a := fun a q => by
    by_cases e : a = p
    · rw [e]; exact .of hp
    · exact fun o z => q o (by rw [upd_ne e]; exact z)
  exact ⟨⟨m, em, fun a ha => back a (hm a ha)⟩, f.hid, fun a u ha nt n => f.keep a u (by rw [upd_ne (ne_of_none ha hp)]; exact ha) nt n, fun a ha => back a (f.dom a ha)⟩
theorem exc_hide {α β : Type} {ρ : Rho} {H H' : Hp} {p : Addr} {o : HO} {x : PExc} {S : Store} {ρ' : Rho} {k : Rho → Store → Hp → α → Prop} {k' : Rho → Store → Hp → β → Prop} (hp : H p = none) (e0 : Ext (ρ.hide p) (upd H p o) ρ' H') (h : Aft G E ρ H (.exc x S) k) : Aft G E ρ' H' (.exc x S) k' := by
  intro ρ1 H1 cls d e q z
  obtain ⟨ρ2, rfl, f⟩ := (e0.trans e).under hp
  refine h ρ2 H1 cls d f q.unhide ⟨z.1, ?_⟩
  rcases z.2 with z | ⟨a, gs, z1, z0, z2, z3, z4⟩
  · exact .inl z
  · exact .inr ⟨a, gs, z1, z0, z2, Out.show' z3, Flds.unhide z4⟩
theorem setO_plain {w : World} {a : Addr} {S : Int → Bool} {n : Nat} : Plain (SetO w a S n) := by
  refine ⟨fun _ z => (by unfold SetO at z; cases z), fun f hf c q z => ?_⟩
  rw [← hf] at z
  unfold SetO LamX.CodeO at z
  have z := congrFun (HO.ext.inj z) ⟨Array.replicate (c + 1) { cls := .none, data := .fields #[.none, .str q 0] }, {}⟩
  have hc : Heap.get? ⟨Array.replicate (c + 1) { cls := .none, data := .fields #[.none, .str q 0] }, {}⟩ c = some { cls := .none, data := .fields #[.none, .str q 0] } := by
    unfold Heap.get?
    simp only [Array.getElem?_replicate]
    rw [if_pos (Nat.lt_succ_self c)]
  obtain ⟨o, es, ep, t, h1, _, h2, _⟩ := z.mpr ⟨_, _, 0, hc, rfl, rfl⟩
  unfold Heap.get? at h1
  simp only [Array.getElem?_replicate] at h1
  split at h1
  · cases h1
  · split at h1
    · have e := Option.some.inj h1
      rw [← e] at h2
      cases h2
    · cases h1
/-- sorted({a, b}) -/
theorem i_sortSet2 {p pos' : Pos} (hg : Gl X "sorted") (hm : X.mg "sorted" = none) (hc : X.calm = true) (ha : PE X a (tI G E ma)) (hb : PE X b (tI G E mb)) (hcd : PySem.W.kdsCode X.K X.env.code = true) (hK : X.K = G.K := by rfl) (hw : X.w = G.w := by rfl)
    (hs : starEach [a, b] X.env = [(false, eval a X.env), (false, eval b X.env)] := by rfl) : PE X (.Call (.Name "sorted" p) [.Set [a, b] 0 pos] [] pos') (tI G E (eSet2 ma mb)) :=
  (pe_callB (cr_sortedSet hc) hg hm (by decide +kernel) (pa_cons (pe_set2 ha hb hcd hs) pa_nil rfl) (by decide) (by decide)).imp fun σ H Q h => by
    obtain ⟨ρ, S, env, hR, hE, h⟩ := h
    rw [hw]
    intro p hp
    have hidE : EnvR G.K (ρ.hide p) (upd H p (SetO G.w p (fun _ => false) 0)) env σ := ⟨hE.len, fun i x hx => by
      obtain ⟨v, h1, h2⟩ := hE.at_ i x hx
      exact ⟨v, h1, Rep.hide hp x v h2⟩⟩
    have np : p ∉ ρ.lb := hR.out1 hp
    refine ⟨ρ.hide p, S, env, hR.hide hp setO_plain, hidE, ?_⟩
    unfold eSet2 at h
    cases hma : ma env S with
    | bad => rw [hma] at h; exact h.elim
    | exc x S1 => rw [hma] at h; exact exc_hide hp (Ext.refl _ _) h
    | ok x S1 =>
      rw [hma, R.bind_ok] at h
      intro ρ1 H1 e1 hR1 v rv
      refine ⟨ρ1, S1, env, hR1, hidE.ext e1, ?_⟩
      cases hmb : mb env S1 with
      | bad => rw [hmb] at h; exact h.elim
      | exc y S2 => rw [hmb] at h; exact exc_hide hp e1 h
      | ok y S2 =>
        rw [hmb, R.bind_ok] at h
        intro ρ3 H3 e3 hR3 u ru
        have e := e1.trans e3
        obtain ⟨ρ4, rfl, f⟩ := e.under hp
        have p3 : H3 p = some (SetO G.w p (fun _ => false) 0) := e.keep p _ upd_same setO_plain.1 np
        split at h
        · rename_i i j
          rw [rv.int_of, ru.int_of]
          refine ⟨i, j, rfl, rfl, p3, ?_⟩
          have mp : p ∈ (ρ4.hide p).hid := List.mem_cons_self ..
          have q := (hR3.hw (o := SetO G.w p (two2 i j) (num2 i j)) mp setO_plain).unhide
          refine ⟨p, two2 i j, num2 i j, rfl, upd_same, by unfold num2; split <;> decide, fun ns d hs hm _ hd => ?_⟩
          have e : ns = setI [i, j] := setI_uniq hs fun k => by
            rw [hm k]
            unfold two2
            simp
          rw [e]
          exact put_ls q (reps_ints _) (h.shift (f.wr hp)) d hd
        · exact h.elim
end
end

/-! MiniY -/
/-! MiniY: set(a list of ints). -/
section
open PySem PySem.Spec PyProof.Rows L2
/-- a set that was just made -/
def freshS (w : World) : Obj := { cls := .type "set", dict := none, data := .set #[] 0 (.fresh 0 0 (!w.params.followText "set-order")) }
section
variable {P : Program} {w : World} {A : Around} {E : Value → Shared → Prop} {s : Shared} {l d : Addr} {items : Array Value} {ns : List Int}
theorem init_body (hA : A.handled = none) (hS : s.heap.get? d = some (freshS w)) (hne : l ≠ d) (hl : s.heap.IsList l items) (hi : IntsAre items.toList ns) (hb : ns.length + 1 < scanBound) {R : Value → Shared → Prop}
    (h : ∀ h' tk c, SetR w h' d (fun j => decide (j ∈ ns)) c → c ≤ ns.length → (∀ b o, b ≠ d → s.heap.get? b = some o → h'.get? b = some o) → R .none { s with heap := h', toks := tk }) :
    wpAny (model P w) A (Builtin.«set.__init__» ⟨[.ref d, .ref l], []⟩) (fun f s' => ∃ v, f = .done (.ret v) ∧ R v s') E s := by
  have hT : s.TypeIs (.ref d) "set" := ⟨_, hS, rfl⟩
  obtain ⟨o, ho, hc, n, hd⟩ := id hl
  obtain ⟨cl, di, da, sl⟩ := o
  simp only at hc hd
  subst hc
  subst hd
  have q1 := F.sub_list_set
  have q2 := F.sub_list_frozenset
  have q3 : (Value.type "list" == Value.type "dict") = false := by decide
  unfold freshS at hS
  unfold Builtin.«set.__init__» noKeywords Builtin.Frozenset.updateFrom
  generalize hp : pyIter = PI
  wp_walk
  subst hp
  refine wpAny_pyIter_list hl (wpAny_bind (wpAny_runValue ?_))
  have hsz : items.size = ns.length := by
    have := IntsAre.length hi
    rw [Array.length_toList] at this
    exact this
  have lt1 : l < s.heap.objs.size := Heap.lt_size ho
  have lt2 : d < s.heap.objs.size := Heap.lt_size hS
  have hval : ∀ (i : Nat) (v : Value), items[i]? = some v → ∃ k t, ns[i]? = some k ∧ v = .int k t := fun i v hv => by
    have hi2 : i < ns.length := by rw [← hsz]; exact (Array.getElem?_eq_some_iff.mp hv).1
    obtain ⟨t, e⟩ := PyProof.Rows.IntsAre.int_at hi i v (by rw [Array.getElem?_toList]; exact hv)
    refine ⟨ns[i], t, List.getElem?_eq_getElem hi2, ?_⟩
    rw [e, List.getD_eq_getElem?_getD, List.getElem?_eq_getElem hi2]
    rfl
  have hin : A.in1.handled = none := by simp [hA]
  have nd : d ∉ [s.heap.objs.size, l] := by
    intro z
    rcases List.mem_cons.mp z with z | z
    · exact Nat.ne_of_lt lt2 z
    · exact hne (List.mem_singleton.mp z).symm
  refine set_update_ints (P := P) ((Walks.list (by simp [hA]) s.heap.objs.size l (Nat.ne_of_lt lt1) items).toS) d nd ns hsz hb hval items.size 0 _ (by omega) (Nat.zero_le _)
    ⟨⟨_, Heap.get?_push_size _ rfl, rfl, rfl⟩, hl.push _⟩ ⟨0, Nat.le_refl 0, setR_new_at (Heap.get?_push_of_some _ hS)⟩ fun s' c hm hc hS' => ?_
  obtain ⟨h', g2, d', tk', os'⟩ := s'
  have eg : g2 = s.gens := hm.gens
  have ed : d' = s.drawn := hm.drawn
  have eo : os' = s.os := hm.os
  subst eg ed eo
  show wpAny _ _ _ _ _ _
  refine wpAny_pure (wpAny_pure ?_)
  rw [hsz] at hc
  refine ⟨_, rfl, h h' tk' c hS' hc fun b o hb e => hm.heap b o ?_ (Heap.get?_push_of_some _ e)⟩
  have lt := Heap.lt_size e
  intro z
  rcases List.mem_cons.mp z with z | z
  · exact hb z
  · exact Nat.ne_of_lt lt (List.mem_singleton.mp z)

theorem call_setL (hA : A.handled = none) (hl : s.heap.IsList l items) (hi : IntsAre items.toList ns) (hb : ns.length + 1 < scanBound) {Q : Value → Shared → Prop}
    (h : ∀ h' tk c, SetR w h' s.heap.objs.size (fun j => decide (j ∈ ns)) c → c ≤ ns.length → (∀ b o, s.heap.get? b = some o → h'.get? b = some o) → Q (.ref s.heap.objs.size) { s with heap := h', toks := tk }) :
    wpAny (model P w) A (call (.type "set") [.ref l]) Q E s := by
  have lt1 : l < s.heap.objs.size := let ⟨_, e, _⟩ := hl; Heap.lt_size e
  obtain ⟨cc, tl, m1⟩ := F.called_set.mro
  have m2 := F.called_set.made
  have m3 := F.called_set.sub
  have m4 := F.called_set.notType
  have m5 := F.called_set.canCreate
  have m6 := F.typeCall_set_1 (.ref l)
  refine wpAny_call (codeAny_of_tree (wpAny_pure ⟨Code.quiet_builtin _ (by decide +kernel), codeAny_builtin F.entry_type_call ?_⟩))
  rw [Around.under_plain (weight_type_call_type "set" [.ref l] []) rfl]
  repeat (any_goals (first | assumption | wp_step))
  refine codeAny_mono (code_set_led1 (.ref l) (E := E) (Q₁ := fun v t => v = .ref s.heap.objs.size ∧ t = { s with heap := s.heap.push (freshS w) }) ⟨rfl, rfl⟩) fun r t hr => ?_
  cases r with
  | error e => exact hr
  | ok fl =>
    cases fl with
    | ret v =>
      obtain ⟨rfl, rfl⟩ := hr
      have at0 : (s.heap.push (freshS w)).get? s.heap.objs.size = some (freshS w) := Heap.get?_push_size _ rfl
      have ty0 : Shared.TypeIs { s with heap := s.heap.push (freshS w) } (.ref s.heap.objs.size) "set" := ⟨_, at0, rfl⟩
      have m7 := F.called_set.init.lookup
      have m8 := F.called_set.init.bind (.ref s.heap.objs.size)
      repeat (any_goals (first | assumption | wp_step))
      refine codeAny_mono (codeAny_call_builtin (R := wants (fun v t => v = .none ∧ Q (.ref s.heap.objs.size) t) E) F.called_set.init.plain F.entry_set_init (check_set_init_1 ty0 ?_)) fun r2 t2 h2 => ?_
      · refine wpAny_mono (init_body (R := fun v t => v = .none ∧ Q (.ref s.heap.objs.size) t) (by simp [hA]) at0 (Nat.ne_of_lt lt1) (hl.push _) hi hb fun h' tk c a1 a2 a3 => ⟨rfl, h h' tk c a1 a2 fun b o e => a3 b o (Nat.ne_of_lt (Heap.lt_size e)) (Heap.get?_push_of_some _ e)⟩) (fun f t hf => ?_) fun _ _ z => z
        obtain ⟨v, rfl, hv⟩ := hf
        exact hv
      · cases r2 with
        | error e => exact h2
        | ok fl =>
          cases fl with
          | ret v =>
            obtain ⟨rfl, q⟩ := h2
            repeat (any_goals (first | assumption | wp_step))
          | _ => exact h2.elim
    | _ => exact hr.elim
end

/-- sorted(set(x)), x a list of ints -/
def eSortSet (m : XE) : XE := fun env S => (m env S).bind fun x S1 => match (lstOf S1 x).bind toInts with
  | some ns => if ns.length < 60 then .ok (.ls ((setI ns).map .int)) S1 else .bad
  | none => .bad
section
variable {X : Cx}
def rSetL (w : World) (K : PySem.W.Frag) : List V → Hp → VK → Prop := fun xs H Q => ∃ (l : Addr) (ns : List Int), xs = [.ref l] ∧ SqL K H l (ns.map V.int) ∧ ns.length < 60 ∧ ∀ p c, H p = none → c ≤ ns.length → Q (.ref p) (upd H p (SetO w p (fun j => decide (j ∈ ns)) c))
theorem cr_setL (hc : X.calm = true) : CallR X (.type "set") (rSetL X.w X.K) := by
  intro pins s σ H xs us Q I r h
  obtain ⟨l, ns, rfl, hs, h60, q⟩ := h
  rw [Vals.ref1 r]
  obtain ⟨its, rv, hl, _⟩ := I.list hs
  have hi := rv.ints
  refine call_setL (ns := ns) (I.ok.hd hc) hl.isList hi (by unfold scanBound; omega) fun h' tk c R hcn k => ?_
  exact ⟨.ref s.heap.objs.size, _, I.laid (t' := tk) k (Nat.le_refl _) (setO_new R), rfl, q _ c (I.hok.fresh (Nat.le_refl _)) hcn⟩
variable {G : Gx} {E : XK} {a : Expr} {ma : XE} {p p2 pos pos2 : Pos}
theorem i_sortSet (hg : Gl X "sorted") (hm : X.mg "sorted" = none) (hg2 : Gl X "set") (hm2 : X.mg "set" = none) (hc : X.calm = true) (ha : PE X a (tI G E ma)) (hK : X.K = G.K := by rfl) (hw : X.w = G.w := by rfl)
    (hs : starEach [a] X.env = (false, eval a X.env) :: starEach [] X.env := by rfl) : PE X (.Call (.Name "sorted" p) [.Call (.Name "set" p2) [a] [] pos2] [] pos) (tI G E (eSortSet ma)) :=
  (pe_callB (cr_sortedSet hc) hg hm (by decide +kernel) (pa_cons (pe_callTy (cr_setL hc) hg2 hm2 (by decide +kernel) (pa_cons ha pa_nil hs) (by decide) (by decide) hs) pa_nil rfl) (by decide) (by decide)).imp fun σ H Q h => by
    obtain ⟨ρ, S, env, hR, hE, h⟩ := h
    rw [hw, hK]
    refine ⟨ρ, S, env, hR, hE, h.step fun ρ1 S1 H1 x e1 hR1 h1 v rv => ?_⟩
    split at h1
    · rename_i ns hn
      split at h1
      · rename_i h60
        cases hx : lstOf S1 x with
        | none => rw [hx] at hn; cases hn
        | some ys =>
          rw [hx] at hn
          have hn : toInts ys = some ns := hn
          obtain ⟨d, us, rfl, h2, h3⟩ := lst_of hR1 rv hx
          obtain ⟨rfl, _⟩ := ints_rep hn h3
          refine ⟨d, ns, rfl, .of h2, h60, fun q c hq hcn => ⟨q, _, c, rfl, upd_same, by omega, fun ms t hs hm _ ht => ?_⟩⟩
          rw [setI_uniq (l := ns) hs fun k => by rw [hm k, decide_eq_true_iff]]
          exact put_ls (hR1.new hq) (reps_ints _) (h1.shift (Ext.new hq)) t ht
      · exact h1.elim
    · exact h1.elim
end
end

/-! MiniX -/
/-! MiniX: list(range(..)), a def that makes a set. -/
section
open PySem PySem.Spec PyProof.Rows L2
theorem hu10 {A : Around} {k : Nat} (hr : Room k A) : A.units + 10 < cLine := Nat.lt_of_le_of_lt (Nat.add_le_add_left (by decide : 10 ≤ 64) _) (hu64 hr)
theorem kds_of {K : PySem.W.Frag} {cd : Value} {q : Str} (h : PySem.W.codeIn K cd q = true) : PySem.W.kdsCode K cd = true := by
  unfold PySem.W.codeIn at h
  unfold PySem.W.kdsCode
  split at h
  · rename_i c
    simp only []
    split at h
    · rename_i hk
      rw [hk]
    · cases h
  · cases h
/-- ints alone -/
def oAddI : Op2 := fun x y S => match x, y with
  | .int i, .int j => .ok (.int (i + j)) S
  | _, _ => .bad
/-- list(range(e)) -/
def eRgL (m : XE) : XE := fun env S => (m env S).bind fun x S1 => match x with
  | .int j => if 0 ≤ j ∧ j ≤ 100000 then .ok (.ls (upto 0 j.toNat)) S1 else .bad
  | _ => .bad
def eRgL2 (a b : XE) : XE := fun env S => (a env S).bind fun x S1 => (b env S1).bind fun y S2 => match x, y with
  | .int i, .int j => if 0 ≤ i ∧ i ≤ 100000 ∧ 0 ≤ j ∧ j ≤ 100000 then .ok (.ls (upto i (j - i).toNat)) S2 else .bad
  | _, _ => .bad
def eRgLN (m : XE) : XE := fun env S => (m env S).bind fun x S1 => match x with
  | .int j => if 0 ≤ j ∧ j ≤ 100000 then .ok (.loc S1.length) (S1 ++ [.lst (upto 0 j.toNat)]) else .bad
  | _ => .bad
section
variable {G : Gx} {E : XK} {X : Cx} {a b e : Expr} {me ma mb : XE} {pos pos2 p p2 : Pos}
theorem i_gs {x z : Str} (h : ∃ t, X.mg x = some (.str z t)) (hg : Gl X x := by rfl) (hd : (x == ("__debug__" : Str)) = false := by decide) : PE X (.Name x pos) (tI G E (eC (.str z))) := by
  obtain ⟨t, h⟩ := h
  exact i_c (pe_glob hg h (v := .str z) ⟨t, rfl⟩ hd) fun _ _ => Rep.str
theorem reps_upto {K : PySem.W.Frag} {ρ : Rho} {H : Hp} {a b : Int} : Reps K ρ H (upto a (b - a).toNat) (rgV a b) := by
  unfold upto rgV
  have go : ∀ l : List Nat, Reps K ρ H (l.map fun (i : Nat) => PV.int (a + (i : Int))) (l.map fun i => V.int (a + (i : Nat))) := fun l => by
    induction l with
    | nil => exact .nil
    | cons i r ih => exact .cons Rep.int ih
  exact go _
theorem i_rgL (hg : Gl X "list") (hm : X.mg "list" = none) (hg2 : Gl X "range") (hm2 : X.mg "range" = none) (hc : X.calm = true) (he : PE X e (tI G E me)) (hs : starEach [e] X.env = (false, eval e X.env) :: starEach [] X.env := by rfl) : PE X (.Call (.Name "list" p) [.Call (.Name "range" p2) [e] [] pos2] [] pos) (tI G E (eRgL me)) :=
  (pe_listRg hc hg hm (prg_1 hg2 hm2 he hs)).imp fun σ H Q h => by
    obtain ⟨ρ, S, env, hR, hE, h⟩ := h
    refine ⟨ρ, S, env, hR, hE, h.step fun ρ1 S1 H1 x e1 hR1 h1 v rv => ?_⟩
    split at h1
    · rename_i j
      split at h1
      · rename_i hj
        refine ⟨j, rv.int_of, .of_le (by omega) (by omega) (by omega) hj.1, ?_⟩
        have h1 : Aft G E ρ1 H1 (.ok (.ls (upto 0 (j - 0).toNat)) S1) (kV G Q) := by rw [Int.sub_zero]; exact h1
        exact put_ls hR1 reps_upto h1
      · exact h1.elim
    · exact h1.elim
theorem i_rgLN (hg : Gl X "list") (hm : X.mg "list" = none) (hg2 : Gl X "range") (hm2 : X.mg "range" = none) (hc : X.calm = true) (he : PE X e (tI G E me)) (hs : starEach [e] X.env = (false, eval e X.env) :: starEach [] X.env := by rfl) : PE X (.Call (.Name "list" p) [.Call (.Name "range" p2) [e] [] pos2] [] pos) (tI G E (eRgLN me)) :=
  (pe_listRg hc hg hm (prg_1 hg2 hm2 he hs)).imp fun σ H Q h => by
    obtain ⟨ρ, S, env, hR, hE, h⟩ := h
    refine ⟨ρ, S, env, hR, hE, h.step fun ρ1 S1 H1 x e1 hR1 h1 v rv => ?_⟩
    split at h1
    · rename_i j
      split at h1
      · rename_i hj
        refine ⟨j, rv.int_of, .of_le (by omega) (by omega) (by omega) hj.1, ?_⟩
        have h1 : Aft G E ρ1 H1 (.ok (.loc S1.length) (S1 ++ [.lst (upto 0 (j - 0).toNat)])) (kV G Q) := by rw [Int.sub_zero]; exact h1
        exact put_new hR1 reps_upto h1
      · exact h1.elim
    · exact h1.elim
theorem i_rgL2 (hg : Gl X "list") (hm : X.mg "list" = none) (hg2 : Gl X "range") (hm2 : X.mg "range" = none) (hc : X.calm = true) (ha : PE X a (tI G E ma)) (hb : PE X b (tI G E mb)) (hs : starEach [a, b] X.env = (false, eval a X.env) :: starEach [b] X.env := by rfl) (hs2 : starEach [b] X.env = (false, eval b X.env) :: starEach [] X.env := by rfl) (hs3 : ((backTo pos2 (starEach [b] X.env)).any fun x => x.1) = false := by rfl) : PE X (.Call (.Name "list" p) [.Call (.Name "range" p2) [a, b] [] pos2] [] pos) (tI G E (eRgL2 ma mb)) :=
  (pe_listRg hc hg hm (prg_2 hg2 hm2 ha hb hs hs2 hs3)).imp fun σ H Q h => by
    obtain ⟨ρ, S, env, hR, hE, h⟩ := h
    refine two hR hE h fun ρ' S' H' x y v u e' hR' rv ru h1 => ?_
    split at h1
    · rename_i i j
      split at h1
      · rename_i hj
        exact ⟨i, j, rv.int_of, ru.int_of, ⟨by omega, by omega, by omega, by omega, by omega⟩, put_ls hR' reps_upto h1⟩
      · exact h1.elim
    · exact h1.elim
theorem sd_ipAdd : Sd2 G E (ipI fun i j => i + j) oAddI := fun ρ S H x y v u Q q rx ry h => by
  unfold oAddI at h
  split at h
  · rw [rx.int_of, ry.int_of]
    exact ⟨_, _, rfl, rfl, h.ok q _ Rep.int⟩
  · exact h.elim
end
/-- .. a def that makes a set -/
theorem def_PS {P : Program} {w : World} {K : PySem.W.Frag} {mg : Str → Option Value} {base : Heap} {G : Gx} {x qual : Str} {params : Arguments} {body : List Stmt} {scope : Scope} {dvs : List V} {kws : List (Str × V)} {f : Addr} {fd : FuncData} {N ps : List Str} {k : Nat} {mb : XS} (F : FunD K x qual params body scope dvs kws f fd) (sc : FnScope N ps scope)
    (hb : ∀ (cdv : Value) (A : Around) (outer : List PySem.Env) (s : Shared) (H : Hp) (E : XK), PySem.W.kdsCode K cdv = true → Room k (A.deeper (PyProof.Rows.envOfC qual scope s.heap.objs.size f cdv)) →
      PSs (cxOf (L2.CX P w) P w K mg base N qual scope f cdv A outer s H E) body (tIS G E mb)) : FnOk P w K mg base (L2.CX P w) (k + 1) f fd ps (spI G (fnP ps.length N.length mb)) := by
  obtain ⟨oc, od, dV, kV, doc, pm, an, cdv, ct, osl, rfl, lk, hcd, _, _⟩ := F.ex
  refine fn_of lk hcd sc (fun vs H Q E h => ?_) (fun A outer s H vs Q E hr h => ⟨_, hb cdv A outer s H E (kds_of hcd) hr, ?_⟩)
  · obtain ⟨ρ, S, args, hR, ra, h⟩ := h
    unfold fnP at h
    split at h
    · rename_i hl
      rw [← ra.length, hl]
    · exact h.elim
  · obtain ⟨ρ, S, args, hR, ra, h⟩ := h
    unfold fnP at h
    split at h
    · refine ⟨ρ, S, _, hR, envR_start ra, ?_⟩
      cases hm : mb (args.map some ++ List.replicate (N.length - args.length) none) S with
      | bad => rw [hm] at h; exact h
      | exc e S' => rw [hm] at h; exact h
      | ok p S' =>
        rw [hm] at h
        simp only [R.bind_ok] at h
        obtain ⟨fl, env'⟩ := p
        intro ρ' H' e q
        cases fl with
        | rt v => exact fun u ru => leave_ok hR e q ru h
        | nx => exact fun σ' hE' => leave_ok hR e q Rep.non h
        | bk => exact h.elim
        | ct => exact h.elim
    · exact h.elim
end

/-! MiniN -/
/-! MiniN: sorted(..) of keys that are tuples of any depth: of a dict by such keys, of a list. -/
section
open PySem PySem.Spec PyProof.Rows L2
mutual
def pvD : PV → PyData
  | .int i => .int i
  | .str s => .str s
  | .tup xs => .tuple (pvDs xs)
  | _ => .none
def pvDs : List PV → List PyData
  | [] => []
  | x :: r => pvD x :: pvDs r
end
def sortN (ks : List PV) : List PV := ks.mergeSort (PySem.W.dataLe false pvD)
def isTup1 : PV → Bool
  | .tup (_ :: _) => true
  | _ => false
def srtB (ks : List PV) : Bool := ks.all isKey && ks.all isTup1 && (ks.all fun x => ks.all fun y => PySem.W.alike (pvD x) (pvD y)) && decide (ks.length ≤ lim)
def keysOf (S : Store) (x : PV) : Option (List PV) := match dnOf S x with
  | some (ks, _) => some ks
  | none => lstOf S x
def bSortN : Bf := fun xs S => match xs with
  | [x] => match keysOf S x with
    | some ks => if srtB ks = true then .ok (.loc S.length) (S ++ [.lst (sortN ks)]) else .bad
    | none => .bad
  | _ => .bad
def bSortL : Bf := fun xs S => match xs with
  | [x] => match keysOf S x with
    | some ks => if srtB ks = true then .ok (.ls (sortN ks)) S else .bad
    | none => .bad
  | _ => .bad
theorem srtB_of {ks : List PV} (h1 : ∀ x ∈ ks, isKey x = true) (h2 : ∀ x ∈ ks, isTup1 x = true) (h3 : ∀ x ∈ ks, ∀ y ∈ ks, PySem.W.alike (pvD x) (pvD y) = true) (h4 : ks.length ≤ lim) : srtB ks = true := by
  unfold srtB
  rw [List.all_eq_true.mpr h1, List.all_eq_true.mpr h2, List.all_eq_true.mpr fun x hx => List.all_eq_true.mpr fun y hy => h3 x hx y hy, decide_eq_true h4]
  rfl
theorem of_srtB {ks : List PV} (h : srtB ks = true) : (∀ x ∈ ks, isKey x = true) ∧ (∀ x ∈ ks, isTup1 x = true) ∧ (∀ x ∈ ks, ∀ y ∈ ks, PySem.W.alike (pvD x) (pvD y) = true) ∧ ks.length ≤ lim := by
  unfold srtB at h
  simp only [Bool.and_eq_true, decide_eq_true_eq] at h
  obtain ⟨⟨⟨h1, h2⟩, h3⟩, h4⟩ := h
  exact ⟨List.all_eq_true.mp h1, List.all_eq_true.mp h2, fun x hx y hy => List.all_eq_true.mp (List.all_eq_true.mp h3 x hx) y hy, h4⟩
theorem sortN_perm (ks : List PV) : (sortN ks).Perm ks := List.mergeSort_perm ..
theorem sortN_len (ks : List PV) : (sortN ks).length = ks.length := (sortN_perm ks).length_eq
section
variable {X : Cx} {pins : List (Addr × Obj)} {σ : L2.St} {H : Hp} {s : Shared} {ρ : Rho}
mutual
theorem rd_is (I : Inv X pins σ H s) : ∀ (x : PV) (d : Nat) (v : V) (u : Value), keyD d x = true → Rep X.K ρ H x v → RelV v u → Reads s.heap u (pvD x) [] ∧ (pvD x).depth ≤ d
  | .non, d, v, u, _, r, q => by
    rw [r.non_of] at q
    cases q
    exact ⟨.none, Nat.zero_le _⟩
  | .int i, d, v, u, _, r, q => by
    rw [r.int_of] at q
    obtain ⟨t, rfl⟩ := q
    exact ⟨.int i t, Nat.zero_le _⟩
  | .str x, d, v, u, _, r, q => by
    rw [r.str_of] at q
    obtain ⟨t, rfl⟩ := q
    exact ⟨.str x t, Nat.zero_le _⟩
  | .tup xs, 0, v, u, h, _, _ => by unfold keyD at h; cases h
  | .tup xs, d + 1, v, u, h, r, q => by
    unfold keyD at h
    unfold Rep at r
    obtain ⟨a, vs, rfl, h1, h2⟩ := r
    cases q
    obtain ⟨its, rv, ⟨o, ho, hc, n, hd⟩, _⟩ := I.tuple h1.sq
    obtain ⟨k1, k2⟩ := rds_is I xs d vs its h h2 rv
    refine ⟨.tuple ho hc hd (by simpa using k1), ?_⟩
    show PyData.depth (.tuple (pvDs xs)) ≤ d + 1
    unfold PyData.depth
    omega
  | .bl _, d, v, u, h, _, _ => by cases d <;> (unfold keyD at h; cases h)
  | .ls _, d, v, u, h, _, _ => by cases d <;> (unfold keyD at h; cases h)
  | .fz _, d, v, u, h, _, _ => by cases d <;> (unfold keyD at h; cases h)
  | .dc _ _, d, v, u, h, _, _ => by cases d <;> (unfold keyD at h; cases h)
  | .loc _, d, v, u, h, _, _ => by cases d <;> (unfold keyD at h; cases h)
theorem rds_is (I : Inv X pins σ H s) : ∀ (xs : List PV) (d : Nat) (vs : List V) (us : List Value), xs.all (keyD d) = true → Reps X.K ρ H xs vs → Vals vs us → ReadsAll s.heap us (pvDs xs) [] ∧ PyData.depthAll (pvDs xs) ≤ d
  | [], d, vs, us, _, r, q => by
    unfold Reps at r
    subst r
    cases q
    exact ⟨.nil, Nat.zero_le _⟩
  | x :: xs, d, vs, us, h, r, q => by
    rw [List.all_cons, Bool.and_eq_true] at h
    obtain ⟨v, t, rfl, r1, r2⟩ := r.uncons
    cases q with
    | cons q1 q2 =>
      obtain ⟨a1, a2⟩ := rd_is I x d v _ h.1 r1 q1
      obtain ⟨b1, b2⟩ := rds_is I xs d t _ h.2 r2 q2
      refine ⟨.cons a1 b1, ?_⟩
      unfold pvDs PyData.depthAll
      exact Nat.max_le.mpr ⟨a2, b2⟩
end
/-- v is what x is -/
def Is (K : PySem.W.Frag) (ρ : Rho) (H : Hp) (v : Value) (x : PV) : Prop := ∃ y, RelV y v ∧ Rep K ρ H x y
theorem each_is {K : PySem.W.Frag} : ∀ {xs : List PV} {vs : List V} {us : List Value}, Reps K ρ H xs vs → Vals vs us → PySem.W.EachIs (Is K ρ H) us xs
  | [], vs, us, r, q => by
    unfold Reps at r
    subst r
    cases q
    exact .nil
  | x :: xs, vs, us, r, q => by
    obtain ⟨v, t, rfl, r1, r2⟩ := r.uncons
    cases q with
    | cons q1 q2 => exact .cons ⟨v, q1, r1⟩ (each_is r2 q2)
theorem is_each {K : PySem.W.Frag} : ∀ {xs : List PV} {us : List Value}, PySem.W.EachIs (Is K ρ H) us xs → ∃ vs, Reps K ρ H xs vs ∧ Vals vs us
  | _, _, .nil => ⟨[], .nil, .nil⟩
  | _, _, .cons ⟨y, h1, h2⟩ t => by
    obtain ⟨vs, g1, g2⟩ := is_each t
    exact ⟨y :: vs, .cons h2 g1, .cons h1 g2⟩
theorem each_rd (I : Inv X pins σ H s) {ks : List PV} {us : List Value} (hk : ∀ x ∈ ks, isKey x = true) (e : PySem.W.EachIs (Is X.K ρ H) us ks) : PySem.W.EachIs (fun v x => Reads s.heap v (pvD x) []) us ks :=
  (PySem.W.each_mem e).mono fun v x ⟨⟨y, h1, h2⟩, hm⟩ => (rd_is I x 8 y v (isKey_of (hk x hm)) h2 h1).1
theorem alike_ks {ks : List PV} (h : ∀ x ∈ ks, ∀ y ∈ ks, PySem.W.alike (pvD x) (pvD y) = true) : PySem.W.AllAlike (ks.map pvD) := by
  intro d hd d' hd'
  obtain ⟨b, hb, rfl⟩ := List.mem_map.mp hd
  obtain ⟨b', hb', rfl⟩ := List.mem_map.mp hd'
  exact h b hb b' hb'
theorem sortable_ks {ks : List PV} (h : ∀ x ∈ ks, isTup1 x = true) : PySem.W.Sortable (ks.map pvD) := .inl fun d hd => by
  obtain ⟨b, hb, rfl⟩ := List.mem_map.mp hd
  have := h b hb
  unfold isTup1 at this
  split at this
  · exact ⟨_, _, rfl⟩
  · cases this
mutual
theorem dep_is : ∀ (x : PV) (d : Nat), keyD d x = true → (pvD x).depth ≤ d
  | .non, d, _ => Nat.zero_le _
  | .int i, d, _ => Nat.zero_le _
  | .str x, d, _ => Nat.zero_le _
  | .tup xs, 0, h => by unfold keyD at h; cases h
  | .tup xs, d + 1, h => by
    unfold keyD at h
    have := deps_is xs d h
    show PyData.depth (.tuple (pvDs xs)) ≤ d + 1
    unfold PyData.depth
    omega
  | .bl _, d, h => by cases d <;> (unfold keyD at h; cases h)
  | .ls _, d, h => by cases d <;> (unfold keyD at h; cases h)
  | .fz _, d, h => by cases d <;> (unfold keyD at h; cases h)
  | .dc _ _, d, h => by cases d <;> (unfold keyD at h; cases h)
  | .loc _, d, h => by cases d <;> (unfold keyD at h; cases h)
theorem deps_is : ∀ (xs : List PV) (d : Nat), xs.all (keyD d) = true → PyData.depthAll (pvDs xs) ≤ d
  | [], d, _ => Nat.zero_le _
  | x :: xs, d, h => by
    rw [List.all_cons, Bool.and_eq_true] at h
    unfold pvDs PyData.depthAll
    exact Nat.max_le.mpr ⟨dep_is x d h.1, deps_is xs d h.2⟩
end
theorem kdl_raw {P : Program} {w : World} {d : Addr} {es : Array DictEntry} {ep : Nat} (lo : (d == sysModules) = false) : PySem.W.KdlSrc P w "dict" d d es.size (fun i v => ∃ hi : i < es.size, v = es[i].key) (fun h => h.DictRaw d es ep) where
  type := fun _ hm => hm.typeIs
  there := fun _ hm => let ⟨_, ho, _⟩ := hm; ⟨Heap.lt_size ho, Heap.lt_size ho⟩
  keep := fun _ _ hm hk => hm.at fun o e => hk d (.inl rfl) o e
  notList := by decide
  notTuple := by decide
  hint := fun _ _ _ _ hm hq => PySem.W.kdl_hint_dict hm.typeIs hq
  iter := fun _ _ hh hm => ⟨_, _, (fun _ _ hq => wpAny_pyIter_dict_raw lo hm hq), Walks.rawKeys hh _ d (let ⟨_, ho, _⟩ := hm; Nat.ne_of_lt (Heap.lt_size ho)) es ep, ⟨⟨_, Heap.get?_push_size _ rfl, rfl, rfl⟩, hm.at fun _ e => Heap.get?_push_of_some _ e⟩⟩
/-- the keys as they stand -/
theorem keys_is : ∀ {ks xs : List PV} {kvs : List (NestedKey × Addr × V)} {es : List (NestedKey × Addr × Value)}, DkAt X.K ρ H ks xs kvs → EnR kvs es → PySem.W.EachIs (Is X.K ρ H) (es.map fun e => Value.ref e.2.1) ks
  | [], [], _, es, k, e => by
    have k : _ = [] := k
    rw [k] at e
    cases e
    exact .nil
  | k0 :: ks, x0 :: xs, _, es, k, e => by
    obtain ⟨b, v, r, rfl, h1, h2, h3, h4⟩ := k
    cases e with
    | @cons p q ps qs e1 e2 =>
      obtain ⟨e3, e4, e5⟩ := e1
      have e4 : b = q.2.1 := e4
      refine .cons ⟨.ref b, ?_, h2⟩ (keys_is h4 e2)
      show Value.ref q.2.1 = Value.ref b
      rw [e4]
  | [], _ :: _, _, _, k, _ => k.elim
  | _ :: _, [], _, _, k, _ => k.elim
def rSortN (w : World) (K : PySem.W.Frag) : List V → Hp → VK → Prop := fun vs H Q => ∃ ρ a ks, vs = [.ref a] ∧ ((∃ xs kvs, H a = some (DnO w a kvs) ∧ DkAt K ρ H ks xs kvs) ∨ (∃ us, SqL K H a us ∧ Reps K ρ H ks us)) ∧ srtB ks = true ∧
  ∀ p ys, H p = none → Reps K ρ H (sortN ks) ys → Q (.ref p) (upd H p (.lst ys))
theorem call_sortN (hcalm : X.calm = true) (hu : X.A.units + 10 < cLine) : CallR X (.builtin "sorted") (rSortN X.w X.K) := by
  intro pins s σ H vs us Q I r h
  obtain ⟨ρ, a, ks, rfl, hsrc, hsrt, q⟩ := h
  obtain ⟨g1, g2, g3, g4⟩ := of_srtB hsrt
  have hal := alike_ks g3
  have hso := sortable_ks g2
  have hz : ks.length ≤ sizeLine := by have := lim_line; omega
  have hdep : ∀ x ∈ ks, (pvD x).depth ≤ 8 := fun x hx => dep_is x 8 (isKey_of (g1 x hx))
  rw [Vals.ref1 r]
  rcases hsrc with ⟨xs, kvs, ha, hk⟩ | ⟨ws, hs, hw⟩
  · obtain ⟨lo, es, e1, dd⟩ := dn_of I ha hk
    obtain ⟨des, ep, raw, hsz, hkeys⟩ := dd.raw
    have hlen : es.length = ks.length := by
      have z1 := Paired.length e1
      have z2 := (dk_len hk).1
      omega
    refine Calls.call_function_entry PyProof.Rows.kind_sorted PyProof.Rows.plain_sorted PyProof.Rows.entry_sorted (PyProof.Rows.args_sorted1 _) ?_
    unfold Builtin.«sorted»
    refine wpAny_bind (m := checkCount "sorted" 1 1 _) (wpAny_pure ?_)
    refine wpAny_bind (PySem.W.kdu_collect (A := X.A.in1) (kdl_raw (ep := ep) (es := des) lo) (I.ok.hd hcalm) raw (by rw [hsz, hlen]; exact hz) fun h' tk acc hkk hacc => ?_)
    have hal2 : acc.toList = es.map fun e => Value.ref e.2.1 := by
      refine List.ext_getElem? fun j => ?_
      rw [Array.getElem?_toList, List.getElem?_map]
      rcases Nat.lt_or_ge j des.size with hj | hj
      · have hj2 : j < acc.size := by rw [hacc.1]; exact hj
        obtain ⟨hi, ev⟩ := hacc.2 j acc[j] (by rw [Array.getElem?_eq_getElem hj2])
        obtain ⟨y, y1, y2, _⟩ := hkeys j hi
        rw [Array.getElem?_eq_getElem hj2, ev, y1, y2]
        rfl
      · rw [Array.getElem?_eq_none (by rw [hacc.1]; exact hj), List.getElem?_eq_none (by omega)]
        rfl
    have I1 : Inv X pins σ H { s with heap := h', toks := tk } := I.kept hkk
    have hall : acc.toList.length = ks.length := by rw [hal2, List.length_map, hlen]
    have each := keys_is hk e1
    rw [← hal2] at each
    refine wpAny_bind (wpAny_newList ?_ (by rw [hall]; exact hz))
    have hoL : (h'.push (seqObj "list" acc.toList.toArray 0)).get? h'.objs.size = some (seqObj "list" acc.toList.toArray 0) := Heap.get?_push_size _ rfl
    show wpAny _ _ _ _ _ { s with heap := h'.push (seqObj "list" acc.toList.toArray 0), toks := tk }
    refine wpAny_bind (wpAny_holding (PySem.W.list_sort_data (A := X.A.in1) (enc := pvD) (s := { s with heap := h'.push (seqObj "list" acc.toList.toArray 0), toks := tk }) hoL each ((each_rd I1 g1 each).mono fun v x rx => ⟨[], PyProof.Rows.Reads.keeps (fun _ _ e => Heap.get?_push_of_some _ e) rx, List.not_mem_nil⟩) hal hso hz (fun x hx => ?_) fun out ho eo => ?_))
    · have := hdep x hx
      show X.A.units + 1 + 1 + _ < cLine
      omega
    · obtain ⟨ys, f1, f2⟩ := is_each eo
      obtain ⟨e', he'⟩ := PyProof.Rows.sortedHeap_at (vs := acc.toList) (out := List.toArray out) hoL
      have hlen2 : ys.length ≤ sizeLine := by
        rw [f2.length, ho]
        exact hz
      refine wpAny_pure ⟨_, rfl, .ref h'.objs.size, upd H h'.objs.size (.lst ys), I1.laid (t' := tk) (fun b u e => ?_) (Nat.le_refl _)
        (show ObjOk X.prog X.w _ _ _ (.lst ys) from ⟨hlen2, out, e', f2, he'⟩), rfl, q _ ys (I1.hok.fresh (Nat.le_refl _)) f1⟩
      have hb : b < h'.objs.size := Heap.lt_size e
      rw [PyProof.Rows.sortedHeap_old (Nat.ne_of_lt hb) (by rw [size_push']; exact Nat.lt_succ_of_lt hb)]
      exact Heap.get?_push_of_some _ e
  · obtain ⟨its, rv, hl, hz2⟩ := I.list hs
    have each := each_is hw rv
    refine PySem.W.sorted_data (A := X.A) (enc := pvD) hl.isList each ((each_rd I g1 each).mono fun v x rx => ⟨[], rx⟩) hal hso hz (fun x hx => ?_) fun out ho eo => ?_
    · have := hdep x hx
      omega
    · obtain ⟨ys, f1, f2⟩ := is_each eo
      obtain ⟨ep, he'⟩ := PyProof.Rows.sortedAll_at s.heap its (List.toArray out)
      have hlen2 : ys.length ≤ sizeLine := by
        rw [f2.length, ho]
        exact hz
      exact ⟨.ref _, upd H (s.heap.objs.size + 1) (.lst ys), I.laid (t' := s.toks) (fun _ _ => PyProof.Rows.sortedAll_old) (Nat.le_succ _) ⟨hlen2, out, ep, f2, he'⟩, rfl, q _ ys (I.hok.fresh (Nat.le_succ _)) f1⟩
end
section
variable {G : Gx} {E : XK}
theorem keys_of {ρ : Rho} {S : Store} {H : Hp} {x : PV} {v : V} {ks : List PV} (q : Rel G.w G.K ρ S H) (r : Rep G.K ρ H x v) (h : keysOf S x = some ks) : ∃ a, v = .ref a ∧ ((∃ xs kvs, H a = some (DnO G.w a kvs) ∧ DkAt G.K ρ H ks xs kvs) ∨ (∃ us, SqL G.K H a us ∧ Reps G.K ρ H ks us)) := by
  unfold keysOf at h
  split at h
  · rename_i js ys hd
    cases h
    obtain ⟨l, d, kvs, _, _, _, rfl, h3, h4⟩ := dn_cell q r hd
    exact ⟨d, rfl, .inl ⟨_, kvs, h3, h4⟩⟩
  · obtain ⟨d, us, rfl, h2, h3⟩ := lst_of q r h
    exact ⟨d, rfl, .inr ⟨us, .of h2, h3⟩⟩
theorem sd_sortN : SdB G E (rSortN G.w G.K) bSortN := fun ρ S H xs vs Q q r h => by
  unfold bSortN at h
  split at h
  · split at h
    · rename_i ks hk
      split at h
      · rename_i hs
        obtain ⟨v, rfl, r1⟩ := one_of r
        obtain ⟨a, rfl, src⟩ := keys_of q r1 hk
        refine ⟨ρ, a, ks, rfl, src, hs, fun p ys hp rp => ?_⟩
        exact put_new q rp h p hp
      · exact h.elim
    · exact h.elim
  · exact h.elim
theorem sd_sortL : SdB G E (rSortN G.w G.K) bSortL := fun ρ S H xs vs Q q r h => by
  unfold bSortL at h
  split at h
  · split at h
    · rename_i ks hk
      split at h
      · rename_i hs
        obtain ⟨v, rfl, r1⟩ := one_of r
        obtain ⟨a, rfl, src⟩ := keys_of q r1 hk
        refine ⟨ρ, a, ks, rfl, src, hs, fun p ys hp rp => ?_⟩
        exact put_ls q rp h p hp
      · exact h.elim
    · exact h.elim
  · exact h.elim
end
/-! l.clear(), l.reverse() -/
def mClear (l : Nat) (S : Store) : R PV := .ok .non (S.set l (.lst []))
def mReverse (l : Nat) (S : Store) : R PV := match S[l]? with
  | some (.lst xs) => .ok .non (S.set l (.lst xs.reverse))
  | _ => .bad
section
variable {G : Gx} {E : XK} {X : Cx} {o : Expr} {mo : XE} {apos cpos : Pos}
theorem i_clear (ho : PE X o (tI G E mo)) (hK : X.K = G.K := by rfl) (hbase : attributeBase o "clear" X.env (eval o X.env) = eval o X.env := by rfl) (hline : (apos.endLine == cpos.line) = true := by rfl) :
    PE X (.Call (.Attribute o "clear" apos) [] [] cpos) (tI G E (eMeth0 mClear mo)) :=
  (pe_bm0 PySem.F.plainAttrs_list PySem.F.slot_list_clear PySem.F.type_list_clear mt_clear ho hbase hline).imp fun σ H Q h => by
    obtain ⟨ρ, S, env, hR, hE, h⟩ := h
    refine ⟨ρ, S, env, hR, hE, Aft.step (f := fun x S => _) h fun ρ1 S1 H1 x e1 hR1 h1 v rv => ?_⟩
    cases x with
    | loc l =>
      simp only at h1
      split at h1
      · rename_i xs hx
        obtain ⟨p, vs, rfl, hp, h2, h3⟩ := loc_list hR1 rv hx
        refine ⟨.inl ⟨rfl, vs, SqL.of h2⟩, ?_⟩
        unfold mClear at h1
        obtain ⟨w1, w2⟩ := lst_write hR1 hp (Reps.nil (K := G.K) (ρ := ρ1) (H := H1))
        exact ⟨p, vs, rfl, rfl, h2, h1 ρ1 _ w1 w2 _ Rep.non⟩
      · exact h1.elim
    | _ => exact h1.elim
theorem i_reverse (ho : PE X o (tI G E mo)) (hK : X.K = G.K := by rfl) (hbase : attributeBase o "reverse" X.env (eval o X.env) = eval o X.env := by rfl) (hline : (apos.endLine == cpos.line) = true := by rfl) :
    PE X (.Call (.Attribute o "reverse" apos) [] [] cpos) (tI G E (eMeth0 mReverse mo)) :=
  (pe_bm0 PySem.F.plainAttrs_list PySem.F.slot_list_reverse PySem.F.type_list_reverse mt_reverse ho hbase hline).imp fun σ H Q h => by
    obtain ⟨ρ, S, env, hR, hE, h⟩ := h
    refine ⟨ρ, S, env, hR, hE, Aft.step (f := fun x S => _) h fun ρ1 S1 H1 x e1 hR1 h1 v rv => ?_⟩
    cases x with
    | loc l =>
      simp only at h1
      split at h1
      · rename_i xs hx
        obtain ⟨p, vs, rfl, hp, h2, h3⟩ := loc_list hR1 rv hx
        refine ⟨.inl ⟨rfl, vs, SqL.of h2⟩, ?_⟩
        unfold mReverse at h1
        rw [hx] at h1
        simp only at h1
        obtain ⟨w1, w2⟩ := lst_write hR1 hp h3.reverse
        exact ⟨p, vs, rfl, rfl, h2, h1 ρ1 _ w1 w2 _ Rep.non⟩
      · exact h1.elim
    | _ => exact h1.elim
end
end

/-! MiniP -/
/-! MiniP: sorted(set(..)) of pairs of ints. -/
section
open PySem PySem.Spec PyProof.Rows L2
theorem hu0 {A : Around} {k : Nat} (hr : Room k A) : A.units < cLine := Nat.lt_of_le_of_lt (Nat.le_add_right _ 10) (hu10 hr)
def pvP (p : Int × Int) : PV := .tup [.int p.1, .int p.2]
def prs : List PV → Option (List (Int × Int))
  | [] => some []
  | .tup [.int x, .int y] :: r => (prs r).map ((x, y) :: ·)
  | _ => none
def dedP : List (Int × Int) → List (Int × Int)
  | [] => []
  | x :: r => if x ∈ dedP r then dedP r else x :: dedP r
def leP (p q : Int × Int) : Bool := decide (p.1 < q.1 ∨ (p.1 = q.1 ∧ p.2 ≤ q.2))
def setP (l : List (Int × Int)) : List (Int × Int) := (dedP l).mergeSort leP
theorem leP_iff {p q : Int × Int} : leP p q = true ↔ p.1 < q.1 ∨ (p.1 = q.1 ∧ p.2 ≤ q.2) := decide_eq_true_iff
theorem leP_trans (a b c : Int × Int) (h1 : leP a b = true) (h2 : leP b c = true) : leP a c = true := by
  have h1 := leP_iff.mp h1
  have h2 := leP_iff.mp h2
  refine leP_iff.mpr ?_
  omega
theorem leP_total (a b : Int × Int) : (leP a b || leP b a) = true := by
  rw [Bool.or_eq_true, leP_iff, leP_iff]
  omega
theorem leP_anti {a b : Int × Int} (h1 : leP a b = true) (h2 : leP b a = true) : a = b := by
  have h1 := leP_iff.mp h1
  have h2 := leP_iff.mp h2
  exact Prod.ext (by omega) (by omega)
theorem mem_dedP (k : Int × Int) : ∀ l, k ∈ dedP l ↔ k ∈ l
  | [] => Iff.rfl
  | x :: r => by
    have ih := mem_dedP k r
    unfold dedP
    split
    · rename_i h
      rw [ih, List.mem_cons]
      exact ⟨.inr, fun z => z.elim (fun e => by rw [e]; exact (mem_dedP x r).mp h) id⟩
    · rw [List.mem_cons, List.mem_cons, ih]
theorem nodup_dedP : ∀ l, (dedP l).Nodup
  | [] => List.nodup_nil
  | x :: r => by
    unfold dedP
    split
    · exact nodup_dedP r
    · rename_i h
      exact List.nodup_cons.mpr ⟨h, nodup_dedP r⟩
theorem setP_sorted (l : List (Int × Int)) : (setP l).Pairwise fun a b => leP a b = true := List.pairwise_mergeSort leP_trans leP_total _
theorem mem_setP (k : Int × Int) (l : List (Int × Int)) : k ∈ setP l ↔ k ∈ l := by
  unfold setP
  rw [List.mem_mergeSort, mem_dedP]
theorem nodup_setP (l : List (Int × Int)) : (setP l).Nodup := (List.mergeSort_perm _ _).nodup_iff.mpr (nodup_dedP l)
theorem setP_uniq {l ps : List (Int × Int)} (h : ps.Pairwise fun a b => leP a b = true) (nd : ps.Nodup) (m : ∀ k, k ∈ ps ↔ k ∈ l) : ps = setP l := by
  have p : ps.Perm (setP l) := (List.perm_ext_iff_of_nodup nd (nodup_setP l)).mpr fun k => by rw [m k, mem_setP]
  exact p.eq_of_pairwise (fun a b _ _ h h' => leP_anti h h') h (setP_sorted l)
def prOf (ns : List Int) : Int × Int := (ns.getD 0 0, ns.getD 1 0)
/-- sorted(set(x)), x a list of pairs of ints -/
def eSortSetP (m : XE) : XE := fun env S => (m env S).bind fun x S1 => match (lstOf S1 x).bind prs with
  | some ps => if ps.length < 60 then .ok (.ls ((setP ps).map pvP)) S1 else .bad
  | none => .bad
section
variable {P : Program} {w : World} {A : Around} {E : Value → Shared → Prop} {s : Shared}
theorem sorted_setPD {a : Addr} {L : List (Addr × List Int)} {es : Array (Int × Value)} {ep : Nat} {t : SetTable} {Q : Value → Shared → Prop} (R : SetTR P w s.heap a L es ep t) (hh : A.handled = none) (hu : A.units + 10 < cLine)
    (hB : ∀ p ∈ L, ∃ x y, p.2 = [x, y])
    (hQ : ∀ s' p (out : Array Value) (c : Nat) (L' : List (Addr × List Int)), (∀ b o, s.heap.get? b = some o → s'.heap.get? b = some o) → s'.gens = s.gens → s'.os = s.os → s.heap.objs.size ≤ p →
      s'.heap.get? p = some (seqObj "list" out c) → out.toList = L'.map (fun q => Value.ref q.1) → L'.Perm L → L'.Pairwise (fun q r => leP (prOf q.2) (prOf r.2) = true) → Q (.ref p) s') :
    wpAny (model P w) A (call (.builtin "sorted") [.ref a]) Q E s := by
  obtain ⟨o, ho, hex, hd⟩ := R.ob
  have hsz := R.size
  have hfew := R.few
  refine Calls.call_function_entry kind_sorted plain_sorted entry_sorted (args_sorted1 _) ?_
  unfold Builtin.«sorted»
  refine wpAny_bind (m := checkCount "sorted" 1 1 _) (wpAny_pure ?_)
  refine wpAny_bind (collect_set (A := A.in1) hh ⟨o, ho, hex.1, hd⟩ R.fits (by unfold scanBound; omega) R.tab.ris R.led fun s1 vs k1 hz g1 o1 pm => ?_)
  have hes : es.toList.map (·.2) = L.map fun q => Value.ref q.1 := by
    rw [R.rows]
    unfold rowsOf
    rw [List.map_map] <;> rfl
  rw [hes] at pm
  have one : ∀ q ∈ L, ∀ r ∈ L, q.1 = r.1 → q = r := fun q hq r hr e => by
    have a1 := R.tup q hq
    have a2 := R.tup r hr
    rw [e] at a1
    exact Prod.ext e (a1.inj a2)
  have ord : ∀ vs : List Value, (∀ v ∈ vs, ∃ q ∈ L, v = Value.ref q.1) → ∃ L1 : List (Addr × List Int), vs = L1.map (fun q => Value.ref q.1) ∧ ∀ q ∈ L1, q ∈ L := by
    intro vs
    induction vs with
    | nil => intro _; exact ⟨[], rfl, fun q hq => (by cases hq)⟩
    | cons v vs ih =>
      intro hv
      obtain ⟨q, hq, e⟩ := hv v List.mem_cons_self
      obtain ⟨L1, e1, hs⟩ := ih fun u hu => hv u (List.mem_cons_of_mem _ hu)
      exact ⟨q :: L1, by rw [List.map_cons, e, e1], fun r hr => (List.mem_cons.mp hr).elim (fun z => by rw [z]; exact hq) (hs r)⟩
  obtain ⟨L1, rfl, hs1⟩ := ord vs fun v hv => by
    obtain ⟨q, hq, e⟩ := List.mem_map.mp (pm.mem_iff.mp hv)
    exact ⟨q, hq, e.symm⟩
  have pL1 : L1.Perm L := by
    have nL : L.Nodup := nodup_of_map R.nd
    have nref : (L.map fun q => Value.ref q.1).Nodup := List.pairwise_map.mpr (List.Pairwise.imp_of_mem (fun {q r} hq hr hne e => by
      injection e with e
      exact hne (one q hq r hr e)) nL)
    have n1 : L1.Nodup := nodup_of_map (pm.nodup_iff.mpr nref)
    refine (List.perm_ext_iff_of_nodup n1 nL).mpr fun q => ⟨hs1 q, fun hq => ?_⟩
    obtain ⟨r, hr, e⟩ := List.mem_map.mp (pm.mem_iff.mpr (List.mem_map.mpr ⟨q, hq, rfl⟩))
    injection e with e
    rw [← one r (hs1 r hr) q hq e]
    exact hr
  have hl1 : L1.length < 64 := by rw [pL1.length_eq]; exact hfew
  refine wpAny_bind (wpAny_newList ?_ (by rw [List.length_map, sizeLine_eq]; omega))
  generalize hvs : L1.map (fun q => Value.ref q.1) = vs at *
  have hoL : (s1.heap.push (seqObj "list" vs.toArray 0)).get? s1.heap.objs.size = some (seqObj "list" vs.toArray 0) := Heap.get?_push_size _ rfl
  let enc : Addr × List Int → PyData := fun q => .tuple [.int (q.2.getD 0 0), .int (q.2.getD 1 0)]
  have hrd : ∀ q ∈ L, Reads (s1.heap.push (seqObj "list" vs.toArray 0)) (.ref q.1) (enc q) [] := fun q hq => by
    obtain ⟨a', xs, e, ⟨o', ho', hc', n', hd'⟩, ia⟩ := tupInts_of (P := P) (w := w) (isT_keep (R.tup q hq) fun b u e => Heap.get?_push_of_some (seqObj "list" vs.toArray 0) (k1 b u e))
    cases e
    obtain ⟨x, y, exy⟩ := hB q hq
    rw [exy] at ia
    refine .tuple (as := []) ho' hc' hd' ?_
    show ReadsAll _ xs.toList [.int (q.2.getD 0 0), .int (q.2.getD 1 0)] []
    rw [exy]
    generalize xs.toList = us at ia
    match us, ia with
    | _, .cons _ _ (.cons _ _ .nil) => exact .cons (as := []) (bs := []) (.int _ _) (.cons (as := []) (bs := []) (.int _ _) .nil)
  have each : ∀ L2 : List (Addr × List Int), PySem.W.EachIs (fun v (q : Addr × List Int) => v = Value.ref q.1) (L2.map fun q => Value.ref q.1) L2 := fun L2 => by
    induction L2 with
    | nil => exact .nil
    | cons q L2 ih => exact .cons rfl ih
  have hle : PySem.W.dataLe (β := Addr × List Int) false enc = fun p q => leP (prOf p.2) (prOf q.2) := PySem.W.dataLe_ii (β := Addr × List Int) (fun q => q.2.getD 0 0) (fun q => q.2.getD 1 0)
  have back : ∀ (L2 : List (Addr × List Int)) (us : List Value), PySem.W.EachIs (fun v (q : Addr × List Int) => v = Value.ref q.1) us L2 → us = L2.map fun q => Value.ref q.1 := fun L2 => by
    induction L2 with
    | nil => intro us h; cases h; rfl
    | cons q L2 ih => intro us h; cases h with | cons h1 h2 => rw [h1, ih _ h2]; rfl
  have e1 := each L1
  rw [hvs] at e1
  refine wpAny_bind (wpAny_holding (PySem.W.list_sort_data (A := A.in1) (enc := enc) (s := { s1 with heap := s1.heap.push (seqObj "list" vs.toArray 0) }) hoL e1
    ((PySem.W.each_mem e1).mono fun v q ⟨hv, hq⟩ => ⟨[], by rw [hv]; exact hrd q (hs1 q hq), List.not_mem_nil⟩) (PySem.W.AllAlike.of fun b b' => by simp [enc, PySem.W.alike, PySem.W.alikeAll]) (PySem.W.Sortable.tuples fun b => ⟨_, _, rfl⟩) (by rw [sizeLine_eq]; omega) (fun q hq => ?_) fun out ho2 eo => ?_))
  · have hd1 : (enc q).depth = 1 := by simp [enc, PyData.depth, PyData.depthAll]
    show A.units + 1 + 1 + _ < cLine
    omega
  · have eq2 := back _ _ eo
    rw [hle] at eq2
    obtain ⟨c, hc⟩ := sortedHeap_at (vs := vs) (out := List.toArray out) hoL
    refine wpAny_pure ⟨_, rfl, hQ _ s1.heap.objs.size (List.toArray out) c _ (fun b u e => ?_) g1 o1 hz hc eq2 ((List.mergeSort_perm _ _).trans pL1) ?_⟩
    · have q := k1 b u e
      have hlt := Heap.lt_size q
      show (sortedHeap (s1.heap.push (seqObj "list" vs.toArray 0)) s1.heap.objs.size vs (List.toArray out)).get? b = some u
      rw [sortedHeap_old (Nat.ne_of_lt hlt) (by rw [size_push']; exact Nat.lt_succ_of_lt hlt)]
      exact Heap.get?_push_of_some _ q
    · exact List.pairwise_mergeSort (le := fun p q : Addr × List Int => leP (prOf p.2) (prOf q.2)) (fun a b c => leP_trans _ _ _) (fun a b => leP_total _ _) L1
end
section
variable {X : Cx}
def rSortedPD (K : PySem.W.Frag) (P : Program) (w : World) : List V → Hp → VK → Prop := fun vs H Q => ∃ (a : Addr) (L : List (Addr × List Int)), vs = [V.ref a] ∧ H a = some (SetTO P w a L) ∧ (∀ p ∈ L, SqT K H p.1 (p.2.map V.int)) ∧ (∀ p ∈ L, ∃ x y, p.2 = [x, y]) ∧
  ∀ (L' : List (Addr × List Int)) (p : Addr), L'.Perm L → (L'.map (·.2)).Nodup → L'.Pairwise (fun q r => leP (prOf q.2) (prOf r.2) = true) → H p = none → Q (.ref p) (upd H p (.lst (L'.map fun q => V.ref q.1)))
theorem cr_sortedPD (hc : X.calm = true) (hu : X.A.units + 10 < cLine) : CallR X (.builtin "sorted") (rSortedPD X.K X.prog X.w) := by
  intro pins s σ H vs us Q I r h
  obtain ⟨a, L, rfl, ha, hk, hB, q⟩ := h
  have R0 : SetT0 X.prog X.w s.heap a L := (I.hok a _ ha).1
  obtain ⟨es, ep, t, R⟩ := R0.full fun p hp => I.isT (hk p hp)
  rw [Vals.ref1 r]
  refine sorted_setPD R (I.ok.hd hc) hu hB fun s' p out c L' k g o hp hg hout pm pw => ?_
  have hfew : L'.length < 64 := by rw [pm.length_eq]; exact R.few
  have hlen : (L'.map fun q => V.ref q.1).length ≤ sizeLine := by rw [List.length_map, sizeLine_eq]; omega
  have hn : H p = none := I.hok.fresh hp
  have hv : Vals (L'.map fun q => V.ref q.1) out.toList := by rw [hout]; exact vals_of_refs L'
  have J : Inv X pins σ (upd H p (.lst (L'.map fun q => V.ref q.1))) { s with heap := s'.heap, gens := s'.gens, drawn := s'.drawn, toks := s'.toks } :=
    I.call (ch := []) (Un.laid k hp hn) (I.hok.laid k hp ⟨hlen, out.toList, c, hv, hg⟩) (by rw [g]; exact I.bare) (fun _ z => nomatch z)
  have e : s' = { s with heap := s'.heap, gens := s'.gens, drawn := s'.drawn, toks := s'.toks } := by
    cases s'
    cases s
    cases o
    rfl
  rw [e]
  exact ⟨.ref p, _, J, rfl, q L' p pm ((pm.map (·.2)).nodup_iff.mpr R.nd) pw hn⟩
end
theorem rep_sq {K : PySem.W.Frag} {ρ : Rho} {H : Hp} {p : Int × Int} {a : Addr} (r : Rep K ρ H (pvP p) (.ref a)) : SqT K H a ([p.1, p.2].map V.int) := by
  unfold pvP Rep at r
  obtain ⟨d, us, e, t1, q1⟩ := r
  cases e
  obtain ⟨rfl, _⟩ := ints_rep (xs := [.int p.1, .int p.2]) (ns := [p.1, p.2]) rfl q1
  exact t1.sq
/-- pairs, as they stand -/
theorem prs_rep {K : PySem.W.Frag} {ρ : Rho} {H : Hp} : ∀ {xs : List PV} {ps : List (Int × Int)} {vs : List V}, prs xs = some ps → Reps K ρ H xs vs → ∃ ks : List (Addr × List Int), vs = ks.map (fun p => V.ref p.1) ∧ (∀ p ∈ ks, ∃ q : Int × Int, p.2 = [q.1, q.2] ∧ Rep K ρ H (pvP q) (.ref p.1)) ∧ ks.map (·.2) = ps.map fun p => [p.1, p.2]
  | [], ps, vs, h, r => by
    cases h
    unfold Reps at r
    exact ⟨[], r, fun _ h => absurd h List.not_mem_nil, rfl⟩
  | x :: xs, ps, vs, h, r => by
    obtain ⟨v, t, rfl, r1, r2⟩ := r.uncons
    unfold prs at h
    split at h
    · rename_i hq
      cases hq
    · rename_i a b r' hq
      cases hq
      cases hx : prs xs with
      | none => rw [hx] at h; cases h
      | some ms =>
        rw [hx] at h
        cases h
        obtain ⟨ks, h1, h2, h3⟩ := prs_rep hx r2
        have r0 := r1
        unfold Rep at r0
        obtain ⟨d, us, rfl, _, _⟩ := r0
        refine ⟨(d, [a, b]) :: ks, by rw [h1]; rfl, fun p hp => ?_, by rw [List.map_cons, h3]; rfl⟩
        rcases List.mem_cons.mp hp with rfl | hp
        · exact ⟨(a, b), rfl, r1⟩
        · exact h2 p hp
    · cases h
theorem reps_pairs {K : PySem.W.Frag} {ρ : Rho} {H : Hp} : ∀ (L : List (Addr × List Int)), (∀ p ∈ L, ∃ q : Int × Int, p.2 = [q.1, q.2] ∧ Rep K ρ H (pvP q) (.ref p.1)) → Reps K ρ H ((L.map fun p => prOf p.2).map pvP) (L.map fun p => V.ref p.1)
  | [], _ => .nil
  | p :: L, h => by
    obtain ⟨q, e, r⟩ := h p List.mem_cons_self
    refine .cons ?_ (reps_pairs L fun x hx => h x (List.mem_cons_of_mem _ hx))
    show Rep K ρ H (pvP (prOf p.2)) (V.ref p.1)
    rw [e]
    exact r
theorem map_two {l : List (Int × Int)} {k : List Int} (h : k ∈ l.map fun p => [p.1, p.2]) : ∃ p ∈ l, k = [p.1, p.2] := by
  obtain ⟨p, hp, rfl⟩ := List.mem_map.mp h
  exact ⟨p, hp, rfl⟩
section
variable {G : Gx} {E : XK} {X : Cx} {a : Expr} {ma : XE} {p p2 pos pos2 : Pos}
theorem i_sortSetP (hg : Gl X "sorted") (hm : X.mg "sorted" = none) (hg2 : Gl X "set") (hm2 : X.mg "set" = none) (hc : X.calm = true) (hu : X.A.units + 64 < cLine) (ha : PE X a (tI G E ma)) (hK : X.K = G.K := by rfl) (hw : X.w = G.w := by rfl)
    (hs : starEach [a] X.env = (false, eval a X.env) :: starEach [] X.env := by rfl) : PE X (.Call (.Name "sorted" p) [.Call (.Name "set" p2) [a] [] pos2] [] pos) (tI G E (eSortSetP ma)) :=
  (pe_callB (cr_sortedPD hc (by omega)) hg hm (by decide +kernel) (pa_cons (pe_callTy (cr_setOfT hc hu) hg2 hm2 (by decide +kernel) (pa_cons ha pa_nil hs) (by decide) (by decide) hs) pa_nil rfl) (by decide) (by decide)).imp fun σ H Q h => by
    obtain ⟨ρ, S, env, hR, hE, h⟩ := h
    rw [hw, hK]
    refine ⟨ρ, S, env, hR, hE, h.step fun ρ1 S1 H1 x e1 hR1 h1 v rv => ?_⟩
    split at h1
    · rename_i ps hn
      split at h1
      · rename_i h60
        cases hx : lstOf S1 x with
        | none => rw [hx] at hn; cases hn
        | some ys =>
          rw [hx] at hn
          have hn : prs ys = some ps := hn
          obtain ⟨d, us, rfl, h2, h3⟩ := lst_of hR1 rv hx
          obtain ⟨ks, rfl, k2, k3⟩ := prs_rep hn h3
          have hkl : ks.length = ps.length := by
            have := congrArg List.length k3
            simpa using this
          refine ⟨d, ks, rfl, .of h2, fun r hr => ?_, by omega, fun q L hq hL1 hL2 => ?_⟩
          · obtain ⟨z, e, rz⟩ := k2 r hr
            rw [e]
            exact rep_sq rz
          have en := Ext.new (ρ := ρ1) (o := SetTO X.prog G.w q L) hq
          have k5 : ∀ r ∈ L, ∃ z : Int × Int, r.2 = [z.1, z.2] ∧ Rep G.K ρ1 (upd H1 q (SetTO X.prog G.w q L)) (pvP z) (.ref r.1) := fun r hr => by
            obtain ⟨z, e, rz⟩ := k2 r (hL1 r hr)
            exact ⟨z, e, Rep.ext en _ _ rz⟩
          refine ⟨q, L, rfl, upd_same, fun r hr => ?_, fun r hr => ?_, fun L' t pm nd pw ht => ?_⟩
          · obtain ⟨z, e, rz⟩ := k5 r hr
            rw [e]
            exact rep_sq rz
          · obtain ⟨z, e, _⟩ := k5 r hr
            exact ⟨_, _, e⟩
          · have hu1 : (L'.map fun p => prOf p.2) = setP ps := by
              refine setP_uniq (List.pairwise_map.mpr pw) ?_ fun k => ?_
              · have nd2 := List.pairwise_map.mp nd
                refine List.pairwise_map.mpr (List.Pairwise.imp_of_mem (fun {u v} hu hv hne e => hne ?_) nd2)
                obtain ⟨z, e1, _⟩ := k5 u (pm.mem_iff.mp hu)
                obtain ⟨z', e2, _⟩ := k5 v (pm.mem_iff.mp hv)
                rw [e1, e2] at e ⊢
                have e : (z.1, z.2) = (z'.1, z'.2) := e
                injection e with a1 a2
                rw [a1, a2]
              · have hps : k ∈ ps ↔ [k.1, k.2] ∈ ks.map (·.2) := by
                  rw [k3]
                  refine ⟨fun h => List.mem_map.mpr ⟨k, h, rfl⟩, fun h => ?_⟩
                  obtain ⟨z, hz, e⟩ := map_two h
                  injection e with a1 e
                  injection e with a2 _
                  rw [show k = z from Prod.ext a1 a2]
                  exact hz
                rw [hps]
                refine ⟨fun h => ?_, fun h => ?_⟩
                · obtain ⟨r, hr, e⟩ := List.mem_map.mp h
                  have hrL := pm.mem_iff.mp hr
                  obtain ⟨z, e1, _⟩ := k5 r hrL
                  rw [e1] at e
                  have e : (z.1, z.2) = k := e
                  rw [← e, ← e1]
                  exact List.mem_map.mpr ⟨r, hL1 r hrL, rfl⟩
                · obtain ⟨r, hr, e⟩ := List.mem_map.mp h
                  have := hL2 r hr
                  rw [e] at this
                  obtain ⟨r', hr', e'⟩ := List.mem_map.mp this
                  refine List.mem_map.mpr ⟨r', pm.mem_iff.mpr hr', ?_⟩
                  rw [e']
                  rfl
            have hrep := reps_pairs L' fun r hr => k5 r (pm.mem_iff.mp hr)
            rw [hu1] at hrep
            exact put_ls (hR1.new hq) hrep (h1.shift en) t ht
      · exact h1.elim
    · exact h1.elim
end
end

/-! Gk11_m -/
/-! what the program and the law do, as the small machine's text; written by gen.py -/
section
open PySem PySem.Spec PyProof.Rows L2
def K_PLACES : List Str := ["put", "move", "add", "take", "push", "pop", "say", "zero", "go", "call", "back"]
def V_PLACES : List PV := [PV.tup [PV.str "box", PV.str "number"], PV.tup [PV.str "box", PV.str "box"], PV.tup [PV.str "box", PV.str "box", PV.str "box"], PV.tup [PV.str "box", PV.str "box", PV.str "box"], PV.tup [PV.str "box"], PV.tup [PV.str "box"], PV.tup [PV.str "box"], PV.tup [PV.str "box", PV.str "row"], PV.tup [PV.str "row"], PV.tup [PV.str "routine"], PV.tup []]
def m_is_tuple_of : XF := fnP 3 3 (sRet (eAnd (eIsa .tuple (eVar 0)) (eChain oLe oLe (eVar 1) (eBf bLen (aCons (eVar 0) (aNil))) (eVar 2))))
def m_is_below : XF := fnP 2 2 (sRet (eAnd (eIsa .int (eVar 0)) (eAnd (eNot (eIsa .bool (eVar 0))) (eChain oLe oLt (eC (.int 0)) (eVar 0) (eVar 1)))))
def m_are_rising_boxes : XF := fnP 1 4 (sSeq (sIf (bOr (bNot (bVal (eIsa .tuple (eVar 0)))) (bNot (bVal (eBf bAll (aCons (eLc (iSeq (eVar 0)) (gNm 1) (bYes) (eCall (m_is_below) (aCons (eVar 1) (aCons (eC (.int 6)) (aNil)))) [1]) (aNil)))))) (sRet (eC (.bl false))) (sNil)) (sRet (eBf bAll (aCons (eLc (iZip (eVar 0) (eCut (eVar 0) (some (eC (.int 1))) (none))) (gTp [gNm 2, gNm 3]) (bYes) (eOp oLt (eVar 2) (eVar 3)) [2, 3]) (aNil)))))
def m_is_house : XF := fnP 1 5 (sSeq (sIf (bNot (bVal (eCall (m_is_tuple_of) (aCons (eVar 0) (aCons (eC (.int 3)) (aCons (eC (.int 3)) (aNil))))))) (sRet (eC (.bl false))) (sNil)) (sSeq (sAsg (eVar 0) (gTp [gNm 1, gNm 2, gNm 3])) (sSeq (sIf (bOr (bNot (bVal (eCall (m_are_rising_boxes) (aCons (eVar 1) (aNil))))) (bOr (bNot (bVal (eCall (m_is_below) (aCons (eVar 2) (aCons (eC (.int 6)) (aNil)))))) (bNot (bVal (eCall (m_are_rising_boxes) (aCons (eVar 3) (aNil))))))) (sRet (eC (.bl false))) (sNil)) (sRet (eNot (eBf bAny (aCons (eLc (iSeq (eVar 3)) (gNm 4) (bYes) (eOr (eOp oIn (eVar 4) (eVar 1)) (eOp oEq (eVar 4) (eVar 2))) [4]) (aNil))))))))
def m_check_houses : XF := fnP 1 3 (sSeq (sIf (bNot (bVal (eCall (m_is_tuple_of) (aCons (eVar 0) (aCons (eC (.int 1)) (aCons (eC (.int 3)) (aNil))))))) (sBad) (sNil)) (sFor (iEnum (eVar 0)) (gTp [gNm 1, gNm 2]) (sIf (bNot (bVal (eCall (m_is_house) (aCons (eVar 2) (aNil))))) (sBad) (sNil))))
def m_is_row : XF := fnP 2 5 (sSeq (sIf (bOr (bNot (bVal (eIsa .tuple (eVar 0)))) (bOr (bVal (eOp oEq (eBf bLen (aCons (eVar 0) (aNil))) (eC (.int 0)))) (bNot (bVal (eIsa .str (eOp oIx (eVar 0) (eC (.int 0)))))))) (sRet (eC (.bl false))) (sNil)) (sSeq (sAsg (eGetS K_PLACES V_PLACES (eOp oIx (eVar 0) (eC (.int 0)))) (gNm 2)) (sSeq (sIf (bOr (bVal (eOp oIsN (eVar 2) (eC .non))) (bVal (eOp oNe (eBf bLen (aCons (eVar 0) (aNil))) (eOp oAdd (eBf bLen (aCons (eVar 2) (aNil))) (eC (.int 1)))))) (sRet (eC (.bl false))) (sNil)) (sRet (eBf bAll (aCons (eLc (iZip (eCut (eVar 0) (some (eC (.int 1))) (none)) (eVar 2)) (gTp [gNm 3, gNm 4]) (bYes) (eCall (m_is_below) (aCons (eVar 3) (aCons (eOp oIx (eVar 1) (eVar 4)) (aNil)))) [3, 4]) (aNil)))))))
def m_check_rows : XF := fnP 3 6 (sSeq (sAsg (eDks ["box", "number", "row", "routine"] (aCons (eC (.int 6)) (aCons (eC (.int 1000)) (aCons (eBf bLen (aCons (eVar 0) (aNil))) (aCons (eVar 2) (aNil)))))) (gNm 3)) (sSeq (sFor (iEnum (eVar 0)) (gTp [gNm 4, gNm 5]) (sIf (bNot (bVal (eCall (m_is_row) (aCons (eVar 5) (aCons (eVar 3) (aNil)))))) (sBad) (sNil))) (sIf (bVal (eOp oNotIn (eOp oIx (eOp oIx (eVar 0) (eUn oNeg (eC (.int 1)))) (eC (.int 0))) (eTup (aCons (eC (.str "go")) (aCons (eC (.str "back")) (aNil)))))) (sBad) (sNil))))
def m_check_routines : XF := fnP 2 6 (sSeq (sIf (bNot (bVal (eCall (m_is_tuple_of) (aCons (eVar 0) (aCons (eC (.int 1)) (aCons (eC (.int 6)) (aNil))))))) (sBad) (sNil)) (sFor (iEnum (eVar 0)) (gTp [gNm 2, gNm 3]) (sSeq (sIf (bNot (bVal (eCall (m_is_tuple_of) (aCons (eVar 3) (aCons (eC (.int 2)) (aCons (eC (.int 2)) (aNil))))))) (sBad) (sNil)) (sSeq (sAsg (eVar 3) (gTp [gNm 4, gNm 5])) (sSeq (sIf (bOr (bNot (bVal (eCall (m_is_below) (aCons (eVar 4) (aCons (eVar 1) (aNil)))))) (bNot (bVal (eCall (m_is_tuple_of) (aCons (eVar 5) (aCons (eC (.int 1)) (aCons (eC (.int 32)) (aNil)))))))) (sBad) (sNil)) (sDrop (eCall (m_check_rows) (aCons (eVar 5) (aCons (eVar 2) (aCons (eBf bLen (aCons (eVar 0) (aNil))) (aNil)))))))))))
def m_check_program : XF := fnP 1 3 (sSeq (sIf (bNot (bVal (eCall (m_is_tuple_of) (aCons (eVar 0) (aCons (eC (.int 2)) (aCons (eC (.int 2)) (aNil))))))) (sBad) (sNil)) (sSeq (sAsg (eVar 0) (gTp [gNm 1, gNm 2])) (sSeq (sDrop (eCall (m_check_houses) (aCons (eVar 1) (aNil)))) (sDrop (eCall (m_check_routines) (aCons (eVar 2) (aCons (eBf bLen (aCons (eVar 1) (aNil))) (aNil))))))))
def m_check_number : XF := fnP 2 4 (sSeq (sAsg (eVar 0) (gTp [gNm 2, gNm 3])) (sIf (bNot (bVal (eCall (m_is_below) (aCons (eVar 1) (aCons (eBf bLen (aCons (eVar 3) (aNil))) (aNil)))))) (sRaise "BadNumber" (eJoin [eC (.str "there is no routine "), eFmt (eVar 1)])) (sNil)))
def m_rows_of : XF := fnP 2 5 (sSeq (sAsg (eVar 0) (gTp [gNm 2, gNm 3])) (sSeq (sAsg (eOp oIx (eVar 3) (eVar 1)) (gTp [gNm 2, gNm 4])) (sRet (eVar 4))))
def m_house_of : XF := fnP 2 6 (sSeq (sAsg (eVar 0) (gTp [gNm 2, gNm 3])) (sSeq (sAsg (eOp oIx (eVar 3) (eVar 1)) (gTp [gNm 4, gNm 5])) (sRet (eOp oIx (eVar 2) (eVar 4)))))
def m_told_in : XF := fnP 3 6 (sSeq (sIf (bVal (eOp oEq (eVar 2) (eC (.int (-1))))) (sSeq (sAsg (eCall (m_house_of) (aCons (eVar 0) (aCons (eVar 1) (aNil)))) (gTp [gNm 3, gNm 4, gNm 3])) (sRet (eVar 4))) (sNil)) (sSeq (sAsg (eCall (m_rows_of) (aCons (eVar 0) (aCons (eVar 1) (aNil)))) (gNm 5)) (sSeq (sIf (bOr (bNot (bVal (eCall (m_is_below) (aCons (eVar 2) (aCons (eBf bLen (aCons (eVar 5) (aNil))) (aNil)))))) (bVal (eOp oNe (eOp oIx (eOp oIx (eVar 5) (eVar 2)) (eC (.int 0))) (eC (.str "call"))))) (sRet (eC .non)) (sNil)) (sSeq (sAsg (eCall (m_house_of) (aCons (eVar 0) (aCons (eOp oIx (eOp oIx (eVar 5) (eVar 2)) (eC (.int 1))) (aNil)))) (gTp [gNm 3, gNm 4, gNm 3])) (sRet (eVar 4))))))
def m_is_save : XF := fnP 3 6 (sSeq (sIf (bNot (bVal (eCall (m_is_tuple_of) (aCons (eVar 2) (aCons (eC (.int 2)) (aCons (eC (.int 2)) (aNil))))))) (sRet (eC (.bl false))) (sNil)) (sSeq (sAsg (eVar 2) (gTp [gNm 3, gNm 4])) (sSeq (sAsg (eCall (m_told_in) (aCons (eVar 0) (aCons (eVar 1) (aCons (eVar 3) (aNil))))) (gNm 5)) (sRet (eAnd (eOp oNotN (eVar 5) (eC .non)) (eAnd (eCall (m_is_below) (aCons (eVar 4) (aCons (eC (.int 6)) (aNil)))) (eOp oNe (eVar 4) (eVar 5))))))))
def m_check_saves : XF := fnP 3 6 (sSeq (sIf (bNot (bVal (eBf bAll (aCons (eLc (iSeq (eVar 2)) (gNm 3) (bYes) (eCall (m_is_save) (aCons (eVar 0) (aCons (eVar 1) (aCons (eVar 3) (aNil))))) [3]) (aNil))))) (sRaise "BadSaves" (eJoin [eC (.str "the list holds others than saves of routine "), eFmt (eVar 1)])) (sNil)) (sIf (bNot (bVal (eBf bAll (aCons (eLc (iZip (eVar 2) (eCut (eVar 2) (some (eC (.int 1))) (none))) (gTp [gNm 4, gNm 5]) (bYes) (eOp oLtT (eVar 4) (eVar 5)) [4, 5]) (aNil))))) (sRaise "BadSaves" (eC (.str "the list of saves does not rise"))) (sNil)))
def m_boxes_about : XF := fnP 2 4 (sRet (eLc (iSeq (eVar 0)) (gTp [gNm 2, gNm 3]) (bVal (eOp oEq (eVar 2) (eVar 1))) (eVar 3) [2, 3]))
def m_pushes_of : XF := fnK 1 2 (sRet (eLcN (iSeq (eVar 0)) (gNm 1) (bYes) (eTup (aCons (eC (.str "push")) (aCons (eVar 1) (aNil)))) [1]))
def m_pops_of : XF := fnP 1 2 (sRet (eLc (iSeq (eUn oRev (eVar 0))) (gNm 1) (bYes) (eTup (aCons (eC (.str "pop")) (aCons (eVar 1) (aNil)))) [1]))
def m_blocks_of : XF := fnK 2 7 (sSeq (sAsg (eCall (m_boxes_about) (aCons (eVar 1) (aCons (eC (.int (-1))) (aNil)))) (gNm 2)) (sSeq (sAsg (eNew (aNil)) (gNm 3)) (sSeq (sFor (iEnum (eVar 0)) (gTp [gNm 4, gNm 5]) (sIf (bVal (eOp oEq (eOp oIx (eVar 5) (eC (.int 0))) (eC (.str "back")))) (sDrop (eMeth1 mAppend (eVar 3) (eOp oAdd (eCall (m_pops_of) (aCons (eVar 2) (aNil))) (eLs (aCons (eVar 5) (aNil)))))) (sSeq (sAsg (eCall (m_boxes_about) (aCons (eVar 1) (aCons (eVar 4) (aNil)))) (gNm 6)) (sDrop (eMeth1 mAppend (eVar 3) (eOp oAdd (eOp oAdd (eCall (m_pushes_of) (aCons (eVar 6) (aNil))) (eLs (aCons (eVar 5) (aNil)))) (eCall (m_pops_of) (aCons (eVar 6) (aNil))))))))) (sRet (eVar 3)))))
def m_led_anew : XF := fnP 2 2 (sSeq (sIf (bVal (eOp oEq (eOp oIx (eVar 0) (eC (.int 0))) (eC (.str "go")))) (sRet (eTup (aCons (eC (.str "go")) (aCons (eOp oIx (eVar 1) (eOp oIx (eVar 0) (eC (.int 1)))) (aNil))))) (sNil)) (sSeq (sIf (bVal (eOp oEq (eOp oIx (eVar 0) (eC (.int 0))) (eC (.str "zero")))) (sRet (eTup (aCons (eC (.str "zero")) (aCons (eOp oIx (eVar 0) (eC (.int 1))) (aCons (eOp oIx (eVar 1) (eOp oIx (eVar 0) (eC (.int 2)))) (aNil)))))) (sNil)) (sRet (eVar 0))))
def m_saved_rows : XF := fnP 2 8 (sSeq (sAsg (eCall (m_pushes_of) (aCons (eCall (m_boxes_about) (aCons (eVar 1) (aCons (eC (.int (-1))) (aNil)))) (aNil))) (gNm 2)) (sSeq (sAsg (eCall (m_blocks_of) (aCons (eVar 0) (aCons (eVar 1) (aNil)))) (gNm 3)) (sSeq (sAsg (eNew (aNil)) (gNm 4)) (sSeq (sAsg (eBf bLen (aCons (eVar 2) (aNil))) (gNm 5)) (sSeq (sFor (iSeq (eVar 3)) (gNm 6) (sSeq (sDrop (eMeth1 mAppend (eVar 4) (eVar 5))) (sAug 5 oAddI (eBf bLen (aCons (eVar 6) (aNil)))))) (sSeq (sFor (iSeq (eVar 3)) (gNm 6) (sDrop (eMeth1 mExtend (eVar 2) (eLc (iSeq (eVar 6)) (gNm 7) (bYes) (eCall (m_led_anew) (aCons (eVar 7) (aCons (eVar 4) (aNil)))) [7])))) (sRet (eBf bTuple (aCons (eVar 2) (aNil))))))))))
def m_with_rows : XF := fnP 3 7 (sSeq (sAsg (eVar 0) (gTp [gNm 3, gNm 4])) (sSeq (sAsg (eOp oIx (eVar 4) (eVar 1)) (gTp [gNm 5, gNm 6])) (sRet (eTup (aCons (eVar 3) (aCons (eTup (aStar (eCut (eVar 4) (none) (some (eVar 1))) (aCons (eTup (aCons (eVar 5) (aCons (eVar 2) (aNil)))) (aStar (eCut (eVar 4) (some (eOp oAdd (eVar 1) (eC (.int 1)))) (none)) (aNil))))) (aNil)))))))
def m_put_in : XF := fnP 3 4 (sSeq (sDrop (eCall (m_check_program) (aCons (eVar 0) (aNil)))) (sSeq (sDrop (eCall (m_check_number) (aCons (eVar 0) (aCons (eVar 1) (aNil))))) (sSeq (sDrop (eCall (m_check_saves) (aCons (eVar 0) (aCons (eVar 1) (aCons (eVar 2) (aNil)))))) (sSeq (sAsg (eCall (m_saved_rows) (aCons (eCall (m_rows_of) (aCons (eVar 0) (aCons (eVar 1) (aNil)))) (aCons (eVar 2) (aNil)))) (gNm 3)) (sSeq (sIf (bVal (eOp oGt (eBf bLen (aCons (eVar 3) (aNil))) (eC (.int 32)))) (sRaise "BadSaves" (eJoin [eC (.str "more than "), eFmt (eC (.int 32)), eC (.str " rows come of it")])) (sNil)) (sRet (eCall (m_with_rows) (aCons (eVar 0) (aCons (eVar 1) (aCons (eVar 3) (aNil)))))))))))
def m_mix : XF := fnK 2 4 (sSeq (sAsg (eVar 1) (gNm 2)) (sSeq (sFor (iSeq (eVar 0)) (gNm 3) (sAsg (eOp oMod (eOp oAdd (eOp oAdd (eOp oMul (eVar 2) (eC (.int 48271))) (eOp oMod (eVar 3) (eC (.int 2147483629)))) (eC (.int 1))) (eC (.int 2147483647))) (gNm 2))) (sRet (eNew (aCons (eVar 2) (aCons (eBf bListN (aCons (eVar 0) (aNil))) (aCons (eC (.int 0)) (aNil))))))))
def m_next : XF := fnP 2 4 (sSeq (sAsg (eOp oMod (eOp oIx (eVar 0) (eC (.int 2))) (eBf bMax (aCons (eC (.int 1)) (aCons (eBf bLen (aCons (eOp oIx (eVar 0) (eC (.int 1))) (aNil))) (aNil))))) (gNm 2)) (sSeq (sAsg (eIf (bVal (eOp oNe (eOp oIx (eVar 0) (eC (.int 1))) (eLs (aNil)))) (eOp oIx (eOp oIx (eVar 0) (eC (.int 1))) (eVar 2)) (eC (.int 0))) (gNm 3)) (sSeq (sIf (bVal (eOp oGe (eVar 3) (eOp oPow (eC (.int 10)) (eC (.int 18))))) (sSeq (sAsg (eOp oDiv (eVar 3) (eVar 1)) (gSb (eOp oIx (eVar 0) (eC (.int 1))) (eVar 2))) (sRet (eOp oMod (eVar 3) (eVar 1)))) (sNil)) (sSeq (sAsg (eOp oMod (eOp oAdd (eOp oAdd (eOp oMul (eOp oIx (eVar 0) (eC (.int 0))) (eC (.int 48271))) (eOp oMul (eVar 3) (eC (.int 69621)))) (eC (.int 11))) (eC (.int 2147483647))) (gSb (eVar 0) (eC (.int 0)))) (sSeq (sAsg (eOp oAdd (eOp oIx (eVar 0) (eC (.int 2))) (eC (.int 1))) (gSb (eVar 0) (eC (.int 2)))) (sRet (eOp oMod (eOp oDiv (eOp oIx (eVar 0) (eC (.int 0))) (eC (.int 7))) (eVar 1))))))))
def mm_alike : Nat → XF
  | 0 => fun _ _ => .bad
  | n + 1 => fnP 2 3 (sSeq (sIf (bVal (eIsa2 .tuple .list (eVar 1))) (sSeq (sIf (bOr (bNot (bVal (eIsa2 .tuple .list (eVar 0)))) (bVal (eOp oNe (eIsa .list (eVar 0)) (eIsa .list (eVar 1))))) (sRet (eC (.bl false))) (sNil)) (sSeq (sIf (bVal (eOp oNe (eBf bLen (aCons (eVar 0) (aNil))) (eBf bLen (aCons (eVar 1) (aNil))))) (sRet (eC (.bl false))) (sNil)) (sRet (eOp oEq (eLc (iRng (eBf bLen (aCons (eVar 1) (aNil)))) (gNm 2) (bNot (bVal (eCall (mm_alike n) (aCons (eOp oIx (eVar 0) (eVar 2)) (aCons (eOp oIx (eVar 1) (eVar 2)) (aNil)))))) (eVar 2) [2]) (eLs (aNil)))))) (sNil)) (sSeq (sIf (bVal (eOp oIsN (eVar 1) (eC .non))) (sRet (eOp oIsN (eVar 0) (eC .non))) (sNil)) (sSeq (sIf (bVal (eIsa .str (eVar 1))) (sRet (eAnd (eIsa .str (eVar 0)) (eOp oEq (eVar 0) (eVar 1)))) (sNil)) (sSeq (sIf (bOr (bVal (eIsa .bool (eVar 1))) (bVal (eIsa .bool (eVar 0)))) (sRet (eAnd (eIsa .bool (eVar 1)) (eAnd (eIsa .bool (eVar 0)) (eOp oEq (eVar 0) (eVar 1))))) (sNil)) (sRet (eAnd (eIsa .int (eVar 0)) (eOp oEq (eVar 0) (eVar 1))))))))
def m_alike : XF := mm_alike 6
def m_house : XF := fnP 1 6 (sSeq (sAsg (eOp oIx (eLs (aCons (eC (.int 3)) (aCons (eC (.int 3)) (aCons (eC (.int 3)) (aCons (eC (.int 2)) (aNil)))))) (eCall (m_next) (aCons (eVar 0) (aCons (eC (.int 4)) (aNil))))) (gNm 1)) (sSeq (sAsg (eLc (iRng (eC (.int 6))) (gNm 3) (bYes) (eOp oMul (eCall (m_next) (aCons (eVar 0) (aCons (eVar 1) (aNil)))) (eBf bInt (aCons (eOr (eOp oEq (eVar 1) (eC (.int 3))) (eOp oEq (eCall (m_next) (aCons (eVar 0) (aCons (eC (.int 3)) (aNil)))) (eC (.int 0)))) (aNil)))) [3]) (gNm 2)) (sSeq (sAsg (eCall (m_next) (aCons (eVar 0) (aCons (eC (.int 6)) (aNil)))) (gNm 4)) (sSeq (sAsg (eBf bTuple (aCons (eCut (eLc (iRng (eC (.int 6))) (gNm 3) (bVal (eOp oEq (eOp oIx (eVar 2) (eVar 3)) (eC (.int 0)))) (eVar 3) [3]) (none) (some (eOp oAdd (eC (.int 1)) (eCall (m_next) (aCons (eVar 0) (aCons (eOp oIx (eLs (aCons (eC (.int 3)) (aCons (eC (.int 6)) (aNil)))) (eCall (m_next) (aCons (eVar 0) (aCons (eC (.int 2)) (aNil))))) (aNil))))))) (aNil))) (gNm 5)) (sRet (eTup (aCons (eVar 5) (aCons (eVar 4) (aCons (eBf bTuple (aCons (eLc (iRng (eC (.int 6))) (gNm 3) (bAnd (bVal (eOp oEq (eOp oIx (eVar 2) (eVar 3)) (eC (.int 1)))) (bVal (eOp oNe (eVar 3) (eVar 4)))) (eVar 3) [3]) (aNil))) (aNil))))))))))
def m_number : XF := fnP 1 1 (sRet (eOp oIx (eLs (aCons (eCall (m_next) (aCons (eVar 0) (aCons (eC (.int 4)) (aNil)))) (aCons (eCall (m_next) (aCons (eVar 0) (aCons (eC (.int 1000)) (aNil)))) (aNil)))) (eCall (m_next) (aCons (eVar 0) (aCons (eC (.int 2)) (aNil))))))
def m_simple : XF := fnP 2 10 (sSeq (sAsg (eLc (iRng (eC (.int 6))) (gNm 3) (bVal (eOp oEq (eOp oIx (eOp oIx (eVar 1) (eC (.str "boxes"))) (eVar 3)) (eC (.str "good")))) (eVar 3) [3]) (gNm 2)) (sSeq (sAsg (eOp oIx (eOp oIx (eVar 1) (eC (.str "free"))) (eCall (m_next) (aCons (eVar 0) (aCons (eBf bLen (aCons (eOp oIx (eVar 1) (eC (.str "free"))) (aNil))) (aNil))))) (gNm 4)) (sSeq (sAsg (eCall (m_next) (aCons (eVar 0) (aCons (eC (.int 6)) (aNil)))) (gNm 5)) (sSeq (sIf (bOr (bVal (eOp oEq (eVar 2) (eLs (aNil)))) (bVal (eOp oEq (eVar 5) (eC (.int 0))))) (sAsg (eTup (aCons (eC (.str "put")) (aCons (eVar 4) (aCons (eCall (m_number) (aCons (eVar 0) (aNil))) (aNil))))) (gNm 6)) (sIf (bVal (eOp oEq (eVar 5) (eC (.int 1)))) (sAsg (eTup (aCons (eC (.str "say")) (aCons (eOp oIx (eVar 2) (eCall (m_next) (aCons (eVar 0) (aCons (eBf bLen (aCons (eVar 2) (aNil))) (aNil))))) (aNil)))) (gNm 6)) (sIf (bVal (eOp oEq (eVar 5) (eC (.int 2)))) (sSeq (sAsg (eLc (iRng (eC (.int 6))) (gNm 3) (bVal (eOp oNe (eOp oIx (eOp oIx (eVar 1) (eC (.str "boxes"))) (eVar 3)) (eC (.str "loose")))) (eVar 3) [3]) (gNm 7)) (sAsg (eTup (aCons (eC (.str "move")) (aCons (eVar 4) (aCons (eOp oIx (eVar 7) (eCall (m_next) (aCons (eVar 0) (aCons (eBf bLen (aCons (eVar 7) (aNil))) (aNil))))) (aNil))))) (gNm 6))) (sSeq (sPar 8 9 (aCons (eOp oIx (eVar 2) (eCall (m_next) (aCons (eVar 0) (aCons (eBf bLen (aCons (eVar 2) (aNil))) (aNil))))) (aCons (eOp oIx (eVar 2) (eCall (m_next) (aCons (eVar 0) (aCons (eBf bLen (aCons (eVar 2) (aNil))) (aNil))))) (aNil)))) (sAsg (eTup (aCons (eOp oIx (eLs (aCons (eC (.str "add")) (aCons (eC (.str "take")) (aNil)))) (eOp oMod (eVar 5) (eC (.int 2)))) (aCons (eVar 4) (aCons (eVar 8) (aCons (eVar 9) (aNil)))))) (gNm 6)))))) (sSeq (sDrop (eMeth1 mAppend (eOp oIx (eVar 1) (eC (.str "rows"))) (eVar 6))) (sIf (bVal (eOp oNe (eOp oIx (eVar 6) (eC (.int 0))) (eC (.str "say")))) (sAsg (eIf (bVal (eOp oEq (eOp oIx (eVar 6) (eC (.int 0))) (eC (.str "move")))) (eOp oIx (eOp oIx (eVar 1) (eC (.str "boxes"))) (eOp oIx (eVar 6) (eC (.int 2)))) (eC (.str "good"))) (gSb (eOp oIx (eVar 1) (eC (.str "boxes"))) (eVar 4))) (sNil)))))))
def m_calling : XF := fnP 2 10 (sSeq (sAsg (eCall (m_next) (aCons (eVar 0) (aCons (eBf bLen (aCons (eOp oIx (eVar 1) (eC (.str "owners"))) (aNil))) (aNil)))) (gNm 2)) (sSeq (sAsg (eOp oIx (eOp oIx (eVar 1) (eC (.str "houses"))) (eOp oIx (eOp oIx (eVar 1) (eC (.str "owners"))) (eVar 2))) (gTp [gNm 3, gNm 4, gNm 5])) (sSeq (sAsg (eLc (iRng (eC (.int 6))) (gNm 7) (bVal (eOp oNotIn (eVar 7) (eOp oIx (eVar 1) (eC (.str "free"))))) (eVar 7) [7]) (gNm 6)) (sSeq (sIf (bVal (eOp oNe (eLc (iSeq (eOp oAdd (eVar 3) (eTup (aCons (eVar 4) (aNil))))) (gNm 7) (bVal (eOp oIn (eVar 7) (eVar 6))) (eVar 7) [7]) (eLs (aNil)))) (sRetN) (sNil)) (sSeq (sFor (iSeq (eVar 3)) (gNm 7) (sIf (bVal (eOp oNe (eOp oIx (eOp oIx (eVar 1) (eC (.str "boxes"))) (eVar 7)) (eC (.str "good")))) (sSeq (sDrop (eMeth1 mAppend (eOp oIx (eVar 1) (eC (.str "rows"))) (eTup (aCons (eC (.str "put")) (aCons (eVar 7) (aCons (eCall (m_number) (aCons (eVar 0) (aNil))) (aNil))))))) (sAsg (eC (.str "good")) (gSb (eOp oIx (eVar 1) (eC (.str "boxes"))) (eVar 7)))) (sNil))) (sSeq (sAsg (eLc (iRng (eC (.int 6))) (gNm 7) (bAnd (bVal (eOp oNotIn (eVar 7) (eVar 5))) (bAnd (bVal (eOp oNe (eOp oIx (eOp oIx (eVar 1) (eC (.str "boxes"))) (eVar 7)) (eC (.str "loose")))) (bVal (eOp oNe (eVar 7) (eVar 4))))) (eVar 7) [7]) (gNm 8)) (sSeq (sAsg (eLc (iSeq (eVar 8)) (gNm 7) (bOr (bVal (eOp oIn (eVar 7) (eVar 6))) (bVal (eOp oEq (eCall (m_next) (aCons (eVar 0) (aCons (eC (.int 3)) (aNil)))) (eC (.int 0))))) (eVar 7) [7]) (gNm 9)) (sSeq (sDrop (eMeth1 mExtend (eOp oIx (eVar 1) (eC (.str "rows"))) (eLc (iSeq (eVar 9)) (gNm 7) (bYes) (eTup (aCons (eC (.str "push")) (aCons (eVar 7) (aNil)))) [7]))) (sSeq (sDrop (eMeth1 mAppend (eOp oIx (eVar 1) (eC (.str "rows"))) (eTup (aCons (eC (.str "call")) (aCons (eVar 2) (aNil)))))) (sSeq (sDrop (eMeth1 mExtend (eOp oIx (eVar 1) (eC (.str "rows"))) (eLc (iRev (eVar 9)) (gNm 7) (bYes) (eTup (aCons (eC (.str "pop")) (aCons (eVar 7) (aNil)))) [7]))) (sSeq (sFor (iSeq (eVar 8)) (gNm 7) (sAsg (eIf (bVal (eOp oIn (eVar 7) (eVar 9))) (eOp oIx (eOp oIx (eVar 1) (eC (.str "boxes"))) (eVar 7)) (eC (.str "loose"))) (gSb (eOp oIx (eVar 1) (eC (.str "boxes"))) (eVar 7)))) (sAsg (eC (.str "good")) (gSb (eOp oIx (eVar 1) (eC (.str "boxes"))) (eVar 4))))))))))))))
def m_zeroed : XF := fnP 2 8 (sSeq (sAsg (eLc (iRng (eC (.int 6))) (gNm 3) (bVal (eOp oEq (eOp oIx (eOp oIx (eVar 1) (eC (.str "boxes"))) (eVar 3)) (eC (.str "good")))) (eVar 3) [3]) (gNm 2)) (sSeq (sIf (bVal (eOp oEq (eVar 2) (eLs (aNil)))) (sRetN) (sNil)) (sSeq (sAsg (eOp oIx (eVar 2) (eCall (m_next) (aCons (eVar 0) (aCons (eBf bLen (aCons (eVar 2) (aNil))) (aNil))))) (gNm 4)) (sSeq (sAsg (eBf bLen (aCons (eOp oIx (eVar 1) (eC (.str "rows"))) (aNil))) (gNm 5)) (sSeq (sDrop (eMeth1 mAppend (eOp oIx (eVar 1) (eC (.str "rows"))) (eTup (aCons (eC (.str "zero")) (aCons (eVar 4) (aCons (eC (.int 0)) (aNil))))))) (sSeq (sAsg (eBf bList (aCons (eOp oIx (eVar 1) (eC (.str "boxes"))) (aNil))) (gNm 6)) (sSeq (sFor (iRng (eOp oAdd (eC (.int 1)) (eCall (m_next) (aCons (eVar 0) (aCons (eC (.int 2)) (aNil)))))) (gNm 7) (sDrop (eCall (m_simple) (aCons (eVar 0) (aCons (eVar 1) (aNil)))))) (sSeq (sIf (bAnd (bVal (eOp oEq (eCall (m_next) (aCons (eVar 0) (aCons (eC (.int 4)) (aNil)))) (eC (.int 0)))) (bAnd (bVal (eOp oEq (eOp oIx (eOp oIx (eVar 1) (eC (.str "boxes"))) (eVar 4)) (eC (.str "good")))) (bVal (eOp oEq (eVar 6) (eOp oIx (eVar 1) (eC (.str "boxes"))))))) (sDrop (eMeth1 mAppend (eOp oIx (eVar 1) (eC (.str "rows"))) (eTup (aCons (eC (.str "go")) (aCons (eVar 5) (aNil)))))) (sNil)) (sSeq (sAsg (eTup (aCons (eC (.str "zero")) (aCons (eVar 4) (aCons (eBf bLen (aCons (eOp oIx (eVar 1) (eC (.str "rows"))) (aNil))) (aNil))))) (gSb (eOp oIx (eVar 1) (eC (.str "rows"))) (eVar 5))) (sFor (iRng (eC (.int 6))) (gNm 3) (sIf (bVal (eOp oNe (eOp oIx (eOp oIx (eVar 1) (eC (.str "boxes"))) (eVar 3)) (eOp oIx (eVar 6) (eVar 3)))) (sAsg (eC (.str "loose")) (gSb (eOp oIx (eVar 1) (eC (.str "boxes"))) (eVar 3))) (sNil))))))))))))
def m_kept : XF := fnP 5 14 (sSeq (sAsg (eOp oIx (eVar 1) (eOp oIx (eVar 2) (eVar 3))) (gTp [gNm 5, gNm 6, gNm 7])) (sSeq (sAsg (eLc (iSeq (eVar 7)) (gNm 9) (bVal (eOp oEq (eCall (m_next) (aCons (eVar 0) (aCons (eC (.int 2)) (aNil)))) (eC (.int 0)))) (eVar 9) [9]) (gNm 8)) (sSeq (sAsg (eDks ["rows", "houses", "owners"] (aCons (eLcN (iSeq (eVar 8)) (gNm 9) (bYes) (eTup (aCons (eC (.str "push")) (aCons (eVar 9) (aNil)))) [9]) (aCons (eVar 1) (aCons (eVar 2) (aNil))))) (gNm 10)) (sSeq (sAsg (eLcN (iRng (eC (.int 6))) (gNm 9) (bYes) (eIf (bVal (eOp oIn (eVar 9) (eVar 5))) (eC (.str "good")) (eIf (bVal (eOp oIn (eVar 9) (eVar 7))) (eBf bStr (aCons (eVar 9) (aNil))) (eC (.str "loose")))) [9]) (gSb (eVar 10) (eC (.str "boxes")))) (sSeq (sAsg (eLc (iRng (eC (.int 6))) (gNm 9) (bOr (bVal (eOp oNotIn (eVar 9) (eVar 7))) (bVal (eOp oIn (eVar 9) (eVar 8)))) (eVar 9) [9]) (gSb (eVar 10) (eC (.str "free")))) (sSeq (sFor (iRng (eCall (m_next) (aCons (eVar 0) (aCons (eOp oAdd (eVar 4) (eC (.int 1))) (aNil))))) (gNm 11) (sSeq (sAsg (eCall (m_next) (aCons (eVar 0) (aCons (eC (.int 8)) (aNil)))) (gNm 12)) (sIf (bVal (eOp oLt (eVar 12) (eC (.int 2)))) (sDrop (eCall (m_calling) (aCons (eVar 0) (aCons (eVar 10) (aNil))))) (sIf (bVal (eOp oEq (eVar 12) (eC (.int 2)))) (sDrop (eCall (m_zeroed) (aCons (eVar 0) (aCons (eVar 10) (aNil))))) (sDrop (eCall (m_simple) (aCons (eVar 0) (aCons (eVar 10) (aNil))))))))) (sSeq (sIf (bVal (eOp oNe (eOp oIx (eOp oIx (eVar 10) (eC (.str "boxes"))) (eVar 6)) (eC (.str "good")))) (sDrop (eMeth1 mAppend (eOp oIx (eVar 10) (eC (.str "rows"))) (eTup (aCons (eC (.str "put")) (aCons (eVar 6) (aCons (eCall (m_number) (aCons (eVar 0) (aNil))) (aNil))))))) (sNil)) (sSeq (sAsg (eOp oAdd (eOp oAdd (eOp oIx (eVar 10) (eC (.str "rows"))) (eLc (iRev (eVar 8)) (gNm 9) (bYes) (eTup (aCons (eC (.str "pop")) (aCons (eVar 9) (aNil)))) [9])) (eLs (aCons (eTup (aCons (eC (.str "back")) (aNil))) (aNil)))) (gNm 13)) (sSeq (sIf (bVal (eOp oGt (eBf bLen (aCons (eVar 13) (aNil))) (eC (.int 32)))) (sAsg (eLs (aCons (eTup (aCons (eC (.str "put")) (aCons (eVar 6) (aCons (eC (.int 1)) (aNil))))) (aCons (eTup (aCons (eC (.str "back")) (aNil))) (aNil)))) (gNm 13)) (sNil)) (sRet (eTup (aCons (eOp oIx (eVar 2) (eVar 3)) (aCons (eBf bTuple (aCons (eVar 13) (aNil))) (aNil))))))))))))))
def m_program : XF := fnP 2 7 (sSeq (sAsg (eBf bTuple (aCons (eLc (iRng (eOp oAdd (eC (.int 1)) (eCall (m_next) (aCons (eVar 0) (aCons (eC (.int 3)) (aNil)))))) (gNm 3) (bYes) (eCall (m_house) (aCons (eVar 0) (aNil))) [3]) (aNil))) (gNm 2)) (sSeq (sAsg (eLc (iRng (eOp oAdd (eC (.int 1)) (eCall (m_next) (aCons (eVar 0) (aCons (eVar 1) (aNil)))))) (gNm 3) (bYes) (eCall (m_next) (aCons (eVar 0) (aCons (eBf bLen (aCons (eVar 2) (aNil))) (aNil)))) [3]) (gNm 4)) (sSeq (sAsg (eOp oIx (eLs (aCons (eC (.int 6)) (aCons (eC (.int 14)) (aNil)))) (eCall (m_next) (aCons (eVar 0) (aCons (eC (.int 2)) (aNil))))) (gNm 5)) (sRet (eTup (aCons (eVar 2) (aCons (eBf bTuple (aCons (eLc (iRng (eBf bLen (aCons (eVar 4) (aNil)))) (gNm 6) (bYes) (eCall (m_kept) (aCons (eVar 0) (aCons (eVar 2) (aCons (eVar 4) (aCons (eVar 6) (aCons (eVar 5) (aNil))))))) [6]) (aNil))) (aNil))))))))
def m_wild_row : XF := fnP 3 6 (sSeq (sAsg (eLs (aCons (eC (.str "put")) (aCons (eC (.str "move")) (aCons (eC (.str "add")) (aCons (eC (.str "take")) (aCons (eC (.str "push")) (aCons (eC (.str "push")) (aCons (eC (.str "pop")) (aCons (eC (.str "pop")) (aCons (eC (.str "say")) (aCons (eC (.str "zero")) (aCons (eC (.str "zero")) (aCons (eC (.str "go")) (aCons (eC (.str "call")) (aCons (eC (.str "back")) (aNil)))))))))))))))) (gNm 3)) (sSeq (sAsg (eOp oIx (eVar 3) (eCall (m_next) (aCons (eVar 0) (aCons (eC (.int 14)) (aNil))))) (gNm 3)) (sSeq (sAsg (eLc (iRng (eC (.int 3))) (gNm 5) (bYes) (eCall (m_next) (aCons (eVar 0) (aCons (eC (.int 6)) (aNil)))) [5]) (gNm 4)) (sSeq (sIf (bVal (eOp oIn (eVar 3) (eTup (aCons (eC (.str "move")) (aCons (eC (.str "push")) (aCons (eC (.str "pop")) (aCons (eC (.str "say")) (aCons (eC (.str "add")) (aCons (eC (.str "take")) (aNil)))))))))) (sRet (eOp oAdd (eTup (aCons (eVar 3) (aNil))) (eBf bTuple (aCons (eCut (eVar 4) (none) (some (eGet2 (eDc ["move", "add", "take"] (aCons (eC (.int 2)) (aCons (eC (.int 3)) (aCons (eC (.int 3)) (aNil))))) (eVar 3) (eC (.int 1))))) (aNil))))) (sNil)) (sSeq (sIf (bVal (eOp oEq (eVar 3) (eC (.str "put")))) (sRet (eTup (aCons (eVar 3) (aCons (eOp oIx (eVar 4) (eC (.int 0))) (aCons (eCall (m_number) (aCons (eVar 0) (aNil))) (aNil)))))) (sNil)) (sSeq (sIf (bVal (eOp oEq (eVar 3) (eC (.str "zero")))) (sRet (eTup (aCons (eVar 3) (aCons (eOp oIx (eVar 4) (eC (.int 0))) (aCons (eCall (m_next) (aCons (eVar 0) (aCons (eVar 1) (aNil)))) (aNil)))))) (sNil)) (sRet (eOp oIx (eDc ["go", "call", "back"] (aCons (eTup (aCons (eC (.str "go")) (aCons (eCall (m_next) (aCons (eVar 0) (aCons (eVar 1) (aNil)))) (aNil)))) (aCons (eTup (aCons (eC (.str "call")) (aCons (eCall (m_next) (aCons (eVar 0) (aCons (eVar 2) (aNil)))) (aNil)))) (aCons (eTup (aCons (eC (.str "back")) (aNil))) (aNil))))) (eVar 3)))))))))
def m_odd : XF := fnP 3 15 (sSeq (sAsg (eVar 1) (gTp [gNm 3, gNm 4])) (sSeq (sFor (iRng (eVar 2)) (gNm 5) (sSeq (sAsg (eCall (m_next) (aCons (eVar 0) (aCons (eBf bLen (aCons (eVar 4) (aNil))) (aNil)))) (gNm 6)) (sSeq (sAsg (eOp oIx (eVar 4) (eVar 6)) (gTp [gNm 7, gNm 8])) (sSeq (sAsg (eCall (m_next) (aCons (eVar 0) (aCons (eBf bLen (aCons (eVar 8) (aNil))) (aNil)))) (gNm 9)) (sSeq (sAsg (eCall (m_wild_row) (aCons (eVar 0) (aCons (eBf bLen (aCons (eVar 8) (aNil))) (aCons (eBf bLen (aCons (eVar 4) (aNil))) (aNil))))) (gNm 10)) (sSeq (sAsg (eCall (m_next) (aCons (eVar 0) (aCons (eC (.int 4)) (aNil)))) (gNm 11)) (sSeq (sAsg (eLs (aCons (eOp oAdd (eOp oAdd (eCut (eVar 8) (none) (some (eVar 9))) (eTup (aCons (eVar 10) (aNil)))) (eCut (eVar 8) (some (eOp oAdd (eVar 9) (eC (.int 1)))) (none))) (aCons (eOp oAdd (eOp oAdd (eCut (eVar 8) (none) (some (eVar 9))) (eTup (aCons (eVar 10) (aNil)))) (eCut (eVar 8) (some (eVar 9)) (none))) (aCons (eOp oAdd (eCut (eVar 8) (none) (some (eVar 9))) (eCut (eVar 8) (some (eOp oAdd (eVar 9) (eC (.int 1)))) (none))) (aCons (eVar 8) (aNil)))))) (gNm 12)) (sSeq (sAsg (eOp oIx (eVar 12) (eVar 11)) (gNm 12)) (sSeq (sAsg (eBf bLen (aCons (eVar 12) (aNil))) (gNm 13)) (sSeq (sAsg (eBf bTuple (aCons (eLc (iSeq (eVar 12)) (gNm 14) (bYes) (eIf (bVal (eOp oIn (eOp oIx (eVar 14) (eC (.int 0))) (eTup (aCons (eC (.str "go")) (aCons (eC (.str "zero")) (aNil)))))) (eOp oAdd (eCut (eVar 14) (none) (some (eUn oNeg (eC (.int 1))))) (eTup (aCons (eBf bMin (aCons (eOp oIx (eVar 14) (eUn oNeg (eC (.int 1)))) (aCons (eOp oSub (eVar 13) (eC (.int 1))) (aNil)))) (aNil)))) (eVar 14)) [14]) (aNil))) (gNm 12)) (sSeq (sIf (bAnd (bVal (eOp oEq (eVar 11) (eC (.int 3)))) (bVal (eOp oGt (eBf bLen (aCons (eVar 3) (aNil))) (eC (.int 1))))) (sAsg (eCall (m_next) (aCons (eVar 0) (aCons (eBf bLen (aCons (eVar 3) (aNil))) (aNil)))) (gNm 7)) (sNil)) (sIf (bAnd (bVal (eChain oLt oLt (eC (.int 0)) (eVar 13) (eC (.int 33)))) (bVal (eOp oIn (eOp oIx (eOp oIx (eVar 12) (eUn oNeg (eC (.int 1)))) (eC (.int 0))) (eTup (aCons (eC (.str "go")) (aCons (eC (.str "back")) (aNil))))))) (sAsg (eOp oAdd (eOp oAdd (eCut (eVar 4) (none) (some (eVar 6))) (eTup (aCons (eTup (aCons (eVar 7) (aCons (eVar 12) (aNil)))) (aNil)))) (eCut (eVar 4) (some (eOp oAdd (eVar 6) (eC (.int 1)))) (none))) (gNm 4)) (sNil))))))))))))) (sRet (eTup (aCons (eVar 3) (aCons (eVar 4) (aNil)))))))
def m_wild : XF := fnP 2 9 (sSeq (sAsg (eBf bTuple (aCons (eLc (iRng (eOp oAdd (eC (.int 1)) (eCall (m_next) (aCons (eVar 0) (aCons (eC (.int 3)) (aNil)))))) (gNm 3) (bYes) (eCall (m_house) (aCons (eVar 0) (aNil))) [3]) (aNil))) (gNm 2)) (sSeq (sAsg (eOp oAdd (eC (.int 1)) (eCall (m_next) (aCons (eVar 0) (aCons (eC (.int 3)) (aNil))))) (gNm 4)) (sSeq (sAsg (eNew (aNil)) (gNm 5)) (sSeq (sFor (iRng (eVar 4)) (gNm 3) (sSeq (sAsg (eOp oAdd (eC (.int 1)) (eCall (m_next) (aCons (eVar 0) (aCons (eVar 1) (aNil))))) (gNm 6)) (sSeq (sAsg (eOp oAdd (eLc (iRng (eOp oSub (eVar 6) (eC (.int 1)))) (gNm 8) (bYes) (eCall (m_wild_row) (aCons (eVar 0) (aCons (eVar 6) (aCons (eVar 4) (aNil))))) [8]) (eLs (aCons (eOp oIx (eLs (aCons (eTup (aCons (eC (.str "back")) (aNil))) (aCons (eTup (aCons (eC (.str "go")) (aCons (eC (.int 0)) (aNil)))) (aNil)))) (eCall (m_next) (aCons (eVar 0) (aCons (eC (.int 2)) (aNil))))) (aNil)))) (gNm 7)) (sDrop (eMeth1 mAppend (eVar 5) (eTup (aCons (eCall (m_next) (aCons (eVar 0) (aCons (eBf bLen (aCons (eVar 2) (aNil))) (aNil)))) (aCons (eBf bTuple (aCons (eVar 7) (aNil))) (aNil))))))))) (sRet (eTup (aCons (eVar 2) (aCons (eBf bTuple (aCons (eVar 5) (aNil))) (aNil)))))))))
def m_any : XF := fnP 1 3 (sSeq (sAsg (eCall (m_next) (aCons (eVar 0) (aCons (eC (.int 5)) (aNil)))) (gNm 1)) (sSeq (sIf (bVal (eOp oEq (eVar 1) (eC (.int 4)))) (sRet (eCall (m_wild) (aCons (eVar 0) (aCons (eOp oIx (eLs (aCons (eC (.int 6)) (aCons (eC (.int 20)) (aCons (eC (.int 32)) (aNil))))) (eCall (m_next) (aCons (eVar 0) (aCons (eC (.int 3)) (aNil))))) (aNil))))) (sNil)) (sSeq (sAsg (eCall (m_program) (aCons (eVar 0) (aCons (eC (.int 6)) (aNil)))) (gNm 2)) (sRet (eIf (bVal (eOp oEq (eVar 1) (eC (.int 0)))) (eVar 2) (eCall (m_odd) (aCons (eVar 0) (aCons (eVar 2) (aCons (eOp oAdd (eC (.int 1)) (eCall (m_next) (aCons (eVar 0) (aCons (eC (.int 2)) (aNil))))) (aNil))))))))))
def m_saves : XF := fnP 4 11 (sSeq (sAsg (eOp oIx (eOp oIx (eOp oIx (eVar 1) (eC (.int 1))) (eVar 2)) (eC (.int 1))) (gNm 4)) (sSeq (sAsg (eOp oAdd (eLs (aCons (eUn oNeg (eC (.int 1))) (aCons (eUn oNeg (eC (.int 1))) (aNil)))) (eLc (iRng (eBf bLen (aCons (eVar 4) (aNil)))) (gNm 6) (bVal (eOp oEq (eOp oIx (eOp oIx (eVar 4) (eVar 6)) (eC (.int 0))) (eC (.str "call")))) (eVar 6) [6])) (gNm 5)) (sSeq (sAsg (eNew (aNil)) (gNm 7)) (sSeq (sFor (iRng (eCall (m_next) (aCons (eVar 0) (aCons (eOp oAdd (eVar 3) (eC (.int 1))) (aNil))))) (gNm 8) (sSeq (sAsg (eOp oIx (eVar 5) (eCall (m_next) (aCons (eVar 0) (aCons (eBf bLen (aCons (eVar 5) (aNil))) (aNil))))) (gNm 9)) (sSeq (sAsg (eOp oIx (eOp oIx (eOp oIx (eVar 1) (eC (.int 0))) (eOp oIx (eOp oIx (eOp oIx (eVar 1) (eC (.int 1))) (eIf (bVal (eOp oLt (eVar 9) (eC (.int 0)))) (eVar 2) (eOp oIx (eOp oIx (eVar 4) (eVar 9)) (eC (.int 1))))) (eC (.int 0)))) (eC (.int 1))) (gNm 10)) (sDrop (eMeth1 mAppend (eVar 7) (eTup (aCons (eVar 9) (aCons (eOp oMod (eOp oAdd (eOp oAdd (eVar 10) (eC (.int 1))) (eCall (m_next) (aCons (eVar 0) (aCons (eC (.int 5)) (aNil))))) (eC (.int 6))) (aNil))))))))) (sRet (eSortSetP (eVar 7)))))))
def m_put_in_ : XF := fnP 3 14 (sSeq (sAsg (eVar 0) (gTp [gNm 3, gNm 4])) (sSeq (sAsg (eOp oIx (eVar 4) (eVar 1)) (gTp [gNm 5, gNm 6])) (sSeq (sAsg (eLc (iSeq (eVar 2)) (gTp [gNm 8, gNm 9]) (bVal (eOp oEq (eVar 8) (eUn oNeg (eC (.int 1))))) (eVar 9) [8, 9]) (gNm 7)) (sSeq (sAsg (eLcN (iSeq (eVar 7)) (gNm 9) (bYes) (eTup (aCons (eC (.str "push")) (aCons (eVar 9) (aNil)))) [9]) (gNm 10)) (sSeq (sAsg (eNew (aNil)) (gNm 11)) (sSeq (sFor (iRng (eBf bLen (aCons (eVar 6) (aNil)))) (gNm 12) (sSeq (sDrop (eMeth1 mAppend (eVar 11) (eBf bLen (aCons (eVar 10) (aNil))))) (sSeq (sAsg (eLc (iSeq (eVar 2)) (gTp [gNm 8, gNm 9]) (bVal (eOp oEq (eVar 8) (eVar 12))) (eVar 9) [8, 9]) (gNm 13)) (sSeq (sDrop (eMeth1 mExtend (eVar 10) (eLc (iSeq (eVar 13)) (gNm 9) (bYes) (eTup (aCons (eC (.str "push")) (aCons (eVar 9) (aNil)))) [9]))) (sSeq (sIf (bVal (eOp oEq (eOp oIx (eVar 6) (eVar 12)) (eTup (aCons (eC (.str "back")) (aNil))))) (sDrop (eMeth1 mExtend (eVar 10) (eLc (iSeq (eUn oRev (eVar 7))) (gNm 9) (bYes) (eTup (aCons (eC (.str "pop")) (aCons (eVar 9) (aNil)))) [9]))) (sNil)) (sSeq (sDrop (eMeth1 mAppend (eVar 10) (eOp oIx (eVar 6) (eVar 12)))) (sDrop (eMeth1 mExtend (eVar 10) (eLc (iSeq (eUn oRev (eVar 13))) (gNm 9) (bYes) (eTup (aCons (eC (.str "pop")) (aCons (eVar 9) (aNil)))) [9]))))))))) (sSeq (sAsg (eLc (iSeq (eVar 10)) (gNm 8) (bYes) (eIf (bVal (eOp oIn (eOp oIx (eVar 8) (eC (.int 0))) (eTup (aCons (eC (.str "zero")) (aCons (eC (.str "go")) (aNil)))))) (eOp oAdd (eCut (eVar 8) (none) (some (eUn oNeg (eC (.int 1))))) (eTup (aCons (eOp oIx (eVar 11) (eOp oIx (eVar 8) (eUn oNeg (eC (.int 1))))) (aNil)))) (eVar 8)) [8]) (gNm 10)) (sRet (eTup (aCons (eVar 3) (aCons (eOp oAdd (eOp oAdd (eCut (eVar 4) (none) (some (eVar 1))) (eTup (aCons (eTup (aCons (eVar 5) (aCons (eBf bTuple (aCons (eVar 10) (aNil))) (aNil)))) (aNil)))) (eCut (eVar 4) (some (eOp oAdd (eVar 1) (eC (.int 1)))) (none))) (aNil))))))))))))
def m_law : XF := fnK 1 18 (sSeq (sAsg (eCall (m_mix) (aCons (eVar 0) (aCons (eC (.int 37)) (aNil)))) (gNm 1)) (sSeq (sFor (iRng (eC (.int 6))) (gNm 2) (sSeq (sAsg (eCall (m_any) (aCons (eVar 1) (aNil))) (gNm 3)) (sSeq (sAsg (eCall (m_next) (aCons (eVar 1) (aCons (eBf bLen (aCons (eOp oIx (eVar 3) (eC (.int 1))) (aNil))) (aNil)))) (gNm 4)) (sSeq (sAsg (eCall (m_saves) (aCons (eVar 1) (aCons (eVar 3) (aCons (eVar 4) (aCons (eC (.int 6)) (aNil)))))) (gNm 5)) (sSeq (sAsg (eCall (m_put_in_) (aCons (eVar 3) (aCons (eVar 4) (aCons (eVar 5) (aNil))))) (gNm 6)) (sSeq (sAsg (eBf bList (aCons (eVar 5) (aNil))) (gNm 7)) (sSeq (sIf (bVal (eOp oGt (eBf bLen (aCons (eOp oIx (eOp oIx (eOp oIx (eVar 6) (eC (.int 1))) (eVar 4)) (eC (.int 1))) (aNil))) (eC (.int 32)))) (sIf (bVal (eOp oNe (eKind (eCall (m_put_in) (aCons (eVar 3) (aCons (eVar 4) (aCons (eVar 7) (aNil)))))) (eC (.str "BadSaves")))) (sRet (eC (.bl false))) (sNil)) (sIf (bOr (bNot (bVal (eCall (m_alike) (aCons (eCall (m_put_in) (aCons (eVar 3) (aCons (eVar 4) (aCons (eVar 7) (aNil))))) (aCons (eVar 6) (aNil)))))) (bVal (eOp oNe (eVar 7) (eVar 5)))) (sRet (eC (.bl false))) (sNil))) (sSeq (sAsg (eOp oIx (eOp oIx (eOp oIx (eVar 3) (eC (.int 1))) (eVar 4)) (eC (.int 1))) (gNm 8)) (sSeq (sAsg (eLc (iRng (eBf bLen (aCons (eVar 8) (aNil)))) (gNm 16) (bVal (eOp oNe (eOp oIx (eOp oIx (eVar 8) (eVar 16)) (eC (.int 0))) (eC (.str "call")))) (eVar 16) [16]) (gNm 9)) (sSeq (sAsg (eCall (m_next) (aCons (eVar 1) (aCons (eC (.int 99)) (aNil)))) (gNm 10)) (sSeq (sAsg (eOp oIx (eOp oIx (eOp oIx (eVar 3) (eC (.int 0))) (eOp oIx (eOp oIx (eOp oIx (eVar 3) (eC (.int 1))) (eVar 4)) (eC (.int 0)))) (eC (.int 1))) (gNm 11)) (sSeq (sAsg (eLs (aCons (eTup (aCons (eOp oIx (eVar 9) (eCall (m_next) (aCons (eVar 1) (aCons (eBf bLen (aCons (eVar 9) (aNil))) (aNil))))) (aCons (eC (.int 0)) (aNil)))) (aCons (eTup (aCons (eOp oAdd (eBf bLen (aCons (eVar 8) (aNil))) (eVar 10)) (aCons (eC (.int 0)) (aNil)))) (aCons (eTup (aCons (eOp oSub (eUn oNeg (eC (.int 2))) (eVar 10)) (aCons (eC (.int 0)) (aNil)))) (aCons (eTup (aCons (eUn oNeg (eC (.int 1))) (aCons (eOp oAdd (eC (.int 6)) (eVar 10)) (aNil)))) (aCons (eTup (aCons (eUn oNeg (eC (.int 1))) (aCons (eUn oNeg (eC (.int 1))) (aNil)))) (aNil))))))) (gNm 12)) (sSeq (sAsg (eOp oAddN (eVar 12) (eLs (aCons (eTup (aCons (eUn oNeg (eC (.int 1))) (aNil))) (aCons (eTup (aNil)) (aCons (eTup (aCons (eUn oNeg (eC (.int 1))) (aCons (eVar 11) (aNil)))) (aNil)))))) (gNm 12)) (sSeq (sDrop (eMeth1 mExtend (eVar 12) (eLc (iRng (eBf bLen (aCons (eVar 8) (aNil)))) (gNm 17) (bVal (eOp oEq (eOp oIx (eOp oIx (eVar 8) (eVar 17)) (eC (.int 0))) (eC (.str "call")))) (eTup (aCons (eVar 17) (aCons (eOp oIx (eOp oIx (eOp oIx (eVar 3) (eC (.int 0))) (eOp oIx (eOp oIx (eOp oIx (eVar 3) (eC (.int 1))) (eOp oIx (eOp oIx (eVar 8) (eVar 17)) (eC (.int 1)))) (eC (.int 0)))) (eC (.int 1))) (aNil)))) [17]))) (sSeq (sAsg (eOp oAdd (eVar 5) (eLs (aCons (eOp oIx (eVar 12) (eCall (m_next) (aCons (eVar 1) (aCons (eBf bLen (aCons (eVar 12) (aNil))) (aNil))))) (aNil)))) (gNm 13)) (sSeq (sAsg (eOp oMul (eLs (aCons (eTup (aCons (eUn oNeg (eC (.int 1))) (aCons (eOp oMod (eOp oAdd (eOp oAdd (eVar 11) (eC (.int 1))) (eOp oMod (eVar 10) (eC (.int 5)))) (eC (.int 6))) (aNil)))) (aNil))) (eC (.int 2))) (gNm 14)) (sSeq (sAsg (eOp oIx (eLs (aCons (eVar 13) (aCons (eVar 13) (aCons (eVar 14) (aCons (eUn oRev (eBf bSortL (aCons (eLs (aCons (eTup (aCons (eUn oNeg (eC (.int 1))) (aCons (eOp oMod (eOp oAdd (eVar 11) (eC (.int 1))) (eC (.int 6))) (aNil)))) (aCons (eTup (aCons (eUn oNeg (eC (.int 1))) (aCons (eOp oMod (eOp oAdd (eVar 11) (eC (.int 2))) (eC (.int 6))) (aNil)))) (aNil)))) (aNil)))) (aNil)))))) (eCall (m_next) (aCons (eVar 1) (aCons (eC (.int 4)) (aNil))))) (gNm 15)) (sIf (bVal (eOp oNe (eKind (eCall (m_put_in) (aCons (eVar 3) (aCons (eVar 4) (aCons (eVar 15) (aNil)))))) (eC (.str "BadSaves")))) (sRet (eC (.bl false))) (sNil))))))))))))))))))) (sRet (eC (.bl true)))))
end

/-! Gk11 -/
/-! .. and that the text does it; written by gen.py -/
section
open PySem PySem.Spec PyProof.Rows L2
def topS (i : Nat) : Stmt := PySem.Challenge.pw_callpact_k11_saves_put_in.main.body.getD i (.Pass ⟨0, 0, 0, 0⟩)
def inClass (s : Stmt) (j : Nat) : Stmt := match s with
  | .ClassDef _ _ _ body .. => body.getD j (.Pass ⟨0, 0, 0, 0⟩)
  | _ => .Pass ⟨0, 0, 0, 0⟩
abbrev s_is_tuple_of : Stmt := topS 20
abbrev s_is_below : Stmt := topS 19
abbrev s_are_rising_boxes : Stmt := topS 21
abbrev s_is_house : Stmt := topS 22
abbrev s_check_houses : Stmt := topS 24
abbrev s_is_row : Stmt := topS 23
abbrev s_check_rows : Stmt := topS 25
abbrev s_check_routines : Stmt := topS 26
abbrev s_check_program : Stmt := topS 27
abbrev s_check_number : Stmt := topS 28
abbrev s_rows_of : Stmt := topS 30
abbrev s_house_of : Stmt := topS 29
abbrev s_told_in : Stmt := topS 33
abbrev s_is_save : Stmt := topS 34
abbrev s_check_saves : Stmt := topS 35
abbrev s_boxes_about : Stmt := topS 36
abbrev s_pushes_of : Stmt := topS 37
abbrev s_pops_of : Stmt := topS 38
abbrev s_blocks_of : Stmt := topS 39
abbrev s_led_anew : Stmt := topS 40
abbrev s_saved_rows : Stmt := topS 41
abbrev s_with_rows : Stmt := topS 42
abbrev s_put_in : Stmt := topS 43
abbrev s_mix : Stmt := topS 45
abbrev s_next : Stmt := topS 46
abbrev s_alike : Stmt := topS 47
abbrev s_house : Stmt := topS 48
abbrev s_number : Stmt := topS 49
abbrev s_simple : Stmt := topS 50
abbrev s_calling : Stmt := topS 51
abbrev s_zeroed : Stmt := topS 52
abbrev s_kept : Stmt := topS 53
abbrev s_program : Stmt := topS 55
abbrev s_wild_row : Stmt := topS 54
abbrev s_odd : Stmt := topS 56
abbrev s_wild : Stmt := topS 57
abbrev s_any : Stmt := topS 58
abbrev s_saves : Stmt := topS 59
abbrev s_put_in_ : Stmt := topS 60
abbrev s_law : Stmt := topS 62
abbrev s_kind : Stmt := topS 61
def d_is_tuple_of : He.DefD := ⟨("is_tuple_of", none), "is_tuple_of", "is_tuple_of", defArgs s_is_tuple_of, defBody s_is_tuple_of, defScope s_is_tuple_of, [], []⟩
def d_is_below : He.DefD := ⟨("is_below", none), "is_below", "is_below", defArgs s_is_below, defBody s_is_below, defScope s_is_below, [], []⟩
def d_are_rising_boxes : He.DefD := ⟨("are_rising_boxes", none), "are_rising_boxes", "are_rising_boxes", defArgs s_are_rising_boxes, defBody s_are_rising_boxes, defScope s_are_rising_boxes, [], []⟩
def d_is_house : He.DefD := ⟨("is_house", none), "is_house", "is_house", defArgs s_is_house, defBody s_is_house, defScope s_is_house, [], []⟩
def d_check_houses : He.DefD := ⟨("check_houses", none), "check_houses", "check_houses", defArgs s_check_houses, defBody s_check_houses, defScope s_check_houses, [], []⟩
def d_is_row : He.DefD := ⟨("is_row", none), "is_row", "is_row", defArgs s_is_row, defBody s_is_row, defScope s_is_row, [], []⟩
def d_check_rows : He.DefD := ⟨("check_rows", none), "check_rows", "check_rows", defArgs s_check_rows, defBody s_check_rows, defScope s_check_rows, [], []⟩
def d_check_routines : He.DefD := ⟨("check_routines", none), "check_routines", "check_routines", defArgs s_check_routines, defBody s_check_routines, defScope s_check_routines, [], []⟩
def d_check_program : He.DefD := ⟨("check_program", none), "check_program", "check_program", defArgs s_check_program, defBody s_check_program, defScope s_check_program, [], []⟩
def d_check_number : He.DefD := ⟨("check_number", none), "check_number", "check_number", defArgs s_check_number, defBody s_check_number, defScope s_check_number, [], []⟩
def d_rows_of : He.DefD := ⟨("rows_of", none), "rows_of", "rows_of", defArgs s_rows_of, defBody s_rows_of, defScope s_rows_of, [], []⟩
def d_house_of : He.DefD := ⟨("house_of", none), "house_of", "house_of", defArgs s_house_of, defBody s_house_of, defScope s_house_of, [], []⟩
def d_told_in : He.DefD := ⟨("told_in", none), "told_in", "told_in", defArgs s_told_in, defBody s_told_in, defScope s_told_in, [], []⟩
def d_is_save : He.DefD := ⟨("is_save", none), "is_save", "is_save", defArgs s_is_save, defBody s_is_save, defScope s_is_save, [], []⟩
def d_check_saves : He.DefD := ⟨("check_saves", none), "check_saves", "check_saves", defArgs s_check_saves, defBody s_check_saves, defScope s_check_saves, [], []⟩
def d_boxes_about : He.DefD := ⟨("boxes_about", none), "boxes_about", "boxes_about", defArgs s_boxes_about, defBody s_boxes_about, defScope s_boxes_about, [], []⟩
def d_pushes_of : He.DefD := ⟨("pushes_of", none), "pushes_of", "pushes_of", defArgs s_pushes_of, defBody s_pushes_of, defScope s_pushes_of, [], []⟩
def d_pops_of : He.DefD := ⟨("pops_of", none), "pops_of", "pops_of", defArgs s_pops_of, defBody s_pops_of, defScope s_pops_of, [], []⟩
def d_blocks_of : He.DefD := ⟨("blocks_of", none), "blocks_of", "blocks_of", defArgs s_blocks_of, defBody s_blocks_of, defScope s_blocks_of, [], []⟩
def d_led_anew : He.DefD := ⟨("led_anew", none), "led_anew", "led_anew", defArgs s_led_anew, defBody s_led_anew, defScope s_led_anew, [], []⟩
def d_saved_rows : He.DefD := ⟨("saved_rows", none), "saved_rows", "saved_rows", defArgs s_saved_rows, defBody s_saved_rows, defScope s_saved_rows, [], []⟩
def d_with_rows : He.DefD := ⟨("with_rows", none), "with_rows", "with_rows", defArgs s_with_rows, defBody s_with_rows, defScope s_with_rows, [], []⟩
def d_put_in : He.DefD := ⟨("put_in", none), "put_in", "put_in", defArgs s_put_in, defBody s_put_in, defScope s_put_in, [], []⟩
def d_mix : He.DefD := ⟨("_law_mix", none), "_law_mix", "_law_mix", defArgs s_mix, defBody s_mix, defScope s_mix, [], []⟩
def d_next : He.DefD := ⟨("_law_next", none), "_law_next", "_law_next", defArgs s_next, defBody s_next, defScope s_next, [], []⟩
def d_alike : He.DefD := ⟨("_law_alike", none), "_law_alike", "_law_alike", defArgs s_alike, defBody s_alike, defScope s_alike, [], []⟩
def d_house : He.DefD := ⟨("_law_house", none), "_law_house", "_law_house", defArgs s_house, defBody s_house, defScope s_house, [], []⟩
def d_number : He.DefD := ⟨("_law_number", none), "_law_number", "_law_number", defArgs s_number, defBody s_number, defScope s_number, [], []⟩
def d_simple : He.DefD := ⟨("_law_simple", none), "_law_simple", "_law_simple", defArgs s_simple, defBody s_simple, defScope s_simple, [], []⟩
def d_calling : He.DefD := ⟨("_law_calling", none), "_law_calling", "_law_calling", defArgs s_calling, defBody s_calling, defScope s_calling, [], []⟩
def d_zeroed : He.DefD := ⟨("_law_zeroed", none), "_law_zeroed", "_law_zeroed", defArgs s_zeroed, defBody s_zeroed, defScope s_zeroed, [], []⟩
def d_kept : He.DefD := ⟨("_law_kept", none), "_law_kept", "_law_kept", defArgs s_kept, defBody s_kept, defScope s_kept, [], []⟩
def d_program : He.DefD := ⟨("_law_program", none), "_law_program", "_law_program", defArgs s_program, defBody s_program, defScope s_program, [], []⟩
def d_wild_row : He.DefD := ⟨("_law_wild_row", none), "_law_wild_row", "_law_wild_row", defArgs s_wild_row, defBody s_wild_row, defScope s_wild_row, [], []⟩
def d_odd : He.DefD := ⟨("_law_odd", none), "_law_odd", "_law_odd", defArgs s_odd, defBody s_odd, defScope s_odd, [], []⟩
def d_wild : He.DefD := ⟨("_law_wild", none), "_law_wild", "_law_wild", defArgs s_wild, defBody s_wild, defScope s_wild, [], []⟩
def d_any : He.DefD := ⟨("_law_any", none), "_law_any", "_law_any", defArgs s_any, defBody s_any, defScope s_any, [], []⟩
def d_saves : He.DefD := ⟨("_law_saves", none), "_law_saves", "_law_saves", defArgs s_saves, defBody s_saves, defScope s_saves, [], []⟩
def d_put_in_ : He.DefD := ⟨("_law_put_in", none), "_law_put_in", "_law_put_in", defArgs s_put_in_, defBody s_put_in_, defScope s_put_in_, [], []⟩
def d_law : He.DefD := ⟨("law", none), "law", "law", defArgs s_law, defBody s_law, defScope s_law, [], []⟩
def d_kind : He.DefD := ⟨("_law_kind", none), "_law_kind", "_law_kind", defArgs s_kind, defBody s_kind, defScope s_kind, [], []⟩
def fnl : List He.DefD := [d_is_tuple_of, d_is_below, d_are_rising_boxes, d_is_house, d_check_houses, d_is_row, d_check_rows, d_check_routines, d_check_program, d_check_number, d_rows_of, d_house_of, d_told_in, d_is_save, d_check_saves, d_boxes_about, d_pushes_of, d_pops_of, d_blocks_of, d_led_anew, d_saved_rows, d_with_rows, d_put_in, d_mix, d_next, d_alike, d_house, d_number, d_simple, d_calling, d_zeroed, d_kept, d_program, d_wild_row, d_odd, d_wild, d_any, d_saves, d_put_in_, d_law, d_kind]
def fal : List He.Fa := [.free "all", .free "any", .free "bool", .free "enumerate", .free "int", .free "isinstance", .free "len", .free "list", .free "max", .free "min", .free "range", .free "reversed", .free "set", .free "sorted", .free "str", .free "tuple", .free "zip", .glo "PLACES", .int "BOXES" 6, .int "MOST_HOUSES" 3, .int "MOST_ROUTINES" 6, .int "MOST_ROWS" 32, .int "NUMBERS" 1000, .int "WHOLE" (-1), .free "ValueError", .glo "BadProgram", .glo "BadNumber", .glo "TooMany", .glo "NotLet", .glo "BadStates", .glo "BadGiven", .glo "BadFuel", .glo "BadNoise", .glo "BadSaves", .glo "BadText", .glo "PactError", .glo "_law_kind", .exc "BadNumber", .exc "BadSaves", .glo "is_tuple_of", .glo "is_below", .glo "are_rising_boxes", .glo "is_house", .glo "check_houses", .glo "is_row", .glo "check_rows", .glo "check_routines", .glo "check_program", .glo "check_number", .glo "rows_of", .glo "house_of", .glo "told_in", .glo "is_save", .glo "check_saves", .glo "boxes_about", .glo "pushes_of", .glo "pops_of", .glo "blocks_of", .glo "led_anew", .glo "saved_rows", .glo "with_rows", .glo "put_in", .glo "_law_mix", .glo "_law_next", .glo "_law_alike", .glo "_law_house", .glo "_law_number", .glo "_law_simple", .glo "_law_calling", .glo "_law_zeroed", .glo "_law_kept", .glo "_law_program", .glo "_law_wild_row", .glo "_law_odd", .glo "_law_wild", .glo "_law_any", .glo "_law_saves", .glo "_law_put_in", .glo "law"]
def tbl : List He.Tab := [(fun K => He.ga K "PLACES", K_PLACES)]
def exB (K : PySem.W.Frag) : Bool := dictP K (He.ga K "PLACES") K_PLACES V_PLACES && kindsB K
structure Top (w : World) (K : PySem.W.Frag) (mg : Str → Option Value) : Prop where
  ns : ∃ h : Heap, K.In h ∧ h.Ns mainGlobals mg ∧ He.SaysX fal fnl tbl [("law", none)] exB w h K
section
variable {w : World} {K : PySem.W.Frag} {mg : Str → Option Value}
theorem Top.c (T : Top w K mg) : He.SaysD fal fnl K := by obtain ⟨h, X, G, c⟩ := T.ns; exact c.t.d
theorem t_ValueError (T : Top w K mg) : mg "ValueError" = none := by obtain ⟨h, X, G, _⟩ := T.ns; exact He.free_ok X G (T.c.fact 24 (f := .free "ValueError") rfl)
theorem t_all (T : Top w K mg) : mg "all" = none := by obtain ⟨h, X, G, _⟩ := T.ns; exact He.free_ok X G (T.c.fact 0 (f := .free "all") rfl)
theorem t_any (T : Top w K mg) : mg "any" = none := by obtain ⟨h, X, G, _⟩ := T.ns; exact He.free_ok X G (T.c.fact 1 (f := .free "any") rfl)
theorem t_bool (T : Top w K mg) : mg "bool" = none := by obtain ⟨h, X, G, _⟩ := T.ns; exact He.free_ok X G (T.c.fact 2 (f := .free "bool") rfl)
theorem t_enumerate (T : Top w K mg) : mg "enumerate" = none := by obtain ⟨h, X, G, _⟩ := T.ns; exact He.free_ok X G (T.c.fact 3 (f := .free "enumerate") rfl)
theorem t_int (T : Top w K mg) : mg "int" = none := by obtain ⟨h, X, G, _⟩ := T.ns; exact He.free_ok X G (T.c.fact 4 (f := .free "int") rfl)
theorem t_isinstance (T : Top w K mg) : mg "isinstance" = none := by obtain ⟨h, X, G, _⟩ := T.ns; exact He.free_ok X G (T.c.fact 5 (f := .free "isinstance") rfl)
theorem t_len (T : Top w K mg) : mg "len" = none := by obtain ⟨h, X, G, _⟩ := T.ns; exact He.free_ok X G (T.c.fact 6 (f := .free "len") rfl)
theorem t_list (T : Top w K mg) : mg "list" = none := by obtain ⟨h, X, G, _⟩ := T.ns; exact He.free_ok X G (T.c.fact 7 (f := .free "list") rfl)
theorem t_max (T : Top w K mg) : mg "max" = none := by obtain ⟨h, X, G, _⟩ := T.ns; exact He.free_ok X G (T.c.fact 8 (f := .free "max") rfl)
theorem t_min (T : Top w K mg) : mg "min" = none := by obtain ⟨h, X, G, _⟩ := T.ns; exact He.free_ok X G (T.c.fact 9 (f := .free "min") rfl)
theorem t_range (T : Top w K mg) : mg "range" = none := by obtain ⟨h, X, G, _⟩ := T.ns; exact He.free_ok X G (T.c.fact 10 (f := .free "range") rfl)
theorem t_reversed (T : Top w K mg) : mg "reversed" = none := by obtain ⟨h, X, G, _⟩ := T.ns; exact He.free_ok X G (T.c.fact 11 (f := .free "reversed") rfl)
theorem t_set (T : Top w K mg) : mg "set" = none := by obtain ⟨h, X, G, _⟩ := T.ns; exact He.free_ok X G (T.c.fact 12 (f := .free "set") rfl)
theorem t_sorted (T : Top w K mg) : mg "sorted" = none := by obtain ⟨h, X, G, _⟩ := T.ns; exact He.free_ok X G (T.c.fact 13 (f := .free "sorted") rfl)
theorem t_str (T : Top w K mg) : mg "str" = none := by obtain ⟨h, X, G, _⟩ := T.ns; exact He.free_ok X G (T.c.fact 14 (f := .free "str") rfl)
theorem t_tuple (T : Top w K mg) : mg "tuple" = none := by obtain ⟨h, X, G, _⟩ := T.ns; exact He.free_ok X G (T.c.fact 15 (f := .free "tuple") rfl)
theorem t_zip (T : Top w K mg) : mg "zip" = none := by obtain ⟨h, X, G, _⟩ := T.ns; exact He.free_ok X G (T.c.fact 16 (f := .free "zip") rfl)
theorem t_BOXES (T : Top w K mg) : ∃ t, mg "BOXES" = some (.int 6 t) := by obtain ⟨h, X, G, _⟩ := T.ns; exact He.int_ok X G (T.c.fact 18 (f := .int "BOXES" 6) rfl)
theorem t_MOST_HOUSES (T : Top w K mg) : ∃ t, mg "MOST_HOUSES" = some (.int 3 t) := by obtain ⟨h, X, G, _⟩ := T.ns; exact He.int_ok X G (T.c.fact 19 (f := .int "MOST_HOUSES" 3) rfl)
theorem t_MOST_ROUTINES (T : Top w K mg) : ∃ t, mg "MOST_ROUTINES" = some (.int 6 t) := by obtain ⟨h, X, G, _⟩ := T.ns; exact He.int_ok X G (T.c.fact 20 (f := .int "MOST_ROUTINES" 6) rfl)
theorem t_MOST_ROWS (T : Top w K mg) : ∃ t, mg "MOST_ROWS" = some (.int 32 t) := by obtain ⟨h, X, G, _⟩ := T.ns; exact He.int_ok X G (T.c.fact 21 (f := .int "MOST_ROWS" 32) rfl)
theorem t_NUMBERS (T : Top w K mg) : ∃ t, mg "NUMBERS" = some (.int 1000 t) := by obtain ⟨h, X, G, _⟩ := T.ns; exact He.int_ok X G (T.c.fact 22 (f := .int "NUMBERS" 1000) rfl)
theorem t_WHOLE (T : Top w K mg) : ∃ t, mg "WHOLE" = some (.int (-1) t) := by obtain ⟨h, X, G, _⟩ := T.ns; exact He.int_ok X G (T.c.fact 23 (f := .int "WHOLE" (-1)) rfl)
theorem t_glo_is_tuple_of (T : Top w K mg) : mg "is_tuple_of" = some (.ref (He.ga K "is_tuple_of")) := by obtain ⟨h, X, G, _⟩ := T.ns; exact He.glo_ok X G (T.c.fact 39 (f := .glo "is_tuple_of") rfl)
theorem t_glo_is_below (T : Top w K mg) : mg "is_below" = some (.ref (He.ga K "is_below")) := by obtain ⟨h, X, G, _⟩ := T.ns; exact He.glo_ok X G (T.c.fact 40 (f := .glo "is_below") rfl)
theorem t_glo_are_rising_boxes (T : Top w K mg) : mg "are_rising_boxes" = some (.ref (He.ga K "are_rising_boxes")) := by obtain ⟨h, X, G, _⟩ := T.ns; exact He.glo_ok X G (T.c.fact 41 (f := .glo "are_rising_boxes") rfl)
theorem t_glo_is_house (T : Top w K mg) : mg "is_house" = some (.ref (He.ga K "is_house")) := by obtain ⟨h, X, G, _⟩ := T.ns; exact He.glo_ok X G (T.c.fact 42 (f := .glo "is_house") rfl)
theorem t_glo_check_houses (T : Top w K mg) : mg "check_houses" = some (.ref (He.ga K "check_houses")) := by obtain ⟨h, X, G, _⟩ := T.ns; exact He.glo_ok X G (T.c.fact 43 (f := .glo "check_houses") rfl)
theorem t_glo_is_row (T : Top w K mg) : mg "is_row" = some (.ref (He.ga K "is_row")) := by obtain ⟨h, X, G, _⟩ := T.ns; exact He.glo_ok X G (T.c.fact 44 (f := .glo "is_row") rfl)
theorem t_glo_check_rows (T : Top w K mg) : mg "check_rows" = some (.ref (He.ga K "check_rows")) := by obtain ⟨h, X, G, _⟩ := T.ns; exact He.glo_ok X G (T.c.fact 45 (f := .glo "check_rows") rfl)
theorem t_glo_check_routines (T : Top w K mg) : mg "check_routines" = some (.ref (He.ga K "check_routines")) := by obtain ⟨h, X, G, _⟩ := T.ns; exact He.glo_ok X G (T.c.fact 46 (f := .glo "check_routines") rfl)
theorem t_glo_check_program (T : Top w K mg) : mg "check_program" = some (.ref (He.ga K "check_program")) := by obtain ⟨h, X, G, _⟩ := T.ns; exact He.glo_ok X G (T.c.fact 47 (f := .glo "check_program") rfl)
theorem t_glo_check_number (T : Top w K mg) : mg "check_number" = some (.ref (He.ga K "check_number")) := by obtain ⟨h, X, G, _⟩ := T.ns; exact He.glo_ok X G (T.c.fact 48 (f := .glo "check_number") rfl)
theorem t_glo_rows_of (T : Top w K mg) : mg "rows_of" = some (.ref (He.ga K "rows_of")) := by obtain ⟨h, X, G, _⟩ := T.ns; exact He.glo_ok X G (T.c.fact 49 (f := .glo "rows_of") rfl)
theorem t_glo_house_of (T : Top w K mg) : mg "house_of" = some (.ref (He.ga K "house_of")) := by obtain ⟨h, X, G, _⟩ := T.ns; exact He.glo_ok X G (T.c.fact 50 (f := .glo "house_of") rfl)
theorem t_glo_told_in (T : Top w K mg) : mg "told_in" = some (.ref (He.ga K "told_in")) := by obtain ⟨h, X, G, _⟩ := T.ns; exact He.glo_ok X G (T.c.fact 51 (f := .glo "told_in") rfl)
theorem t_glo_is_save (T : Top w K mg) : mg "is_save" = some (.ref (He.ga K "is_save")) := by obtain ⟨h, X, G, _⟩ := T.ns; exact He.glo_ok X G (T.c.fact 52 (f := .glo "is_save") rfl)
theorem t_glo_check_saves (T : Top w K mg) : mg "check_saves" = some (.ref (He.ga K "check_saves")) := by obtain ⟨h, X, G, _⟩ := T.ns; exact He.glo_ok X G (T.c.fact 53 (f := .glo "check_saves") rfl)
theorem t_glo_boxes_about (T : Top w K mg) : mg "boxes_about" = some (.ref (He.ga K "boxes_about")) := by obtain ⟨h, X, G, _⟩ := T.ns; exact He.glo_ok X G (T.c.fact 54 (f := .glo "boxes_about") rfl)
theorem t_glo_pushes_of (T : Top w K mg) : mg "pushes_of" = some (.ref (He.ga K "pushes_of")) := by obtain ⟨h, X, G, _⟩ := T.ns; exact He.glo_ok X G (T.c.fact 55 (f := .glo "pushes_of") rfl)
theorem t_glo_pops_of (T : Top w K mg) : mg "pops_of" = some (.ref (He.ga K "pops_of")) := by obtain ⟨h, X, G, _⟩ := T.ns; exact He.glo_ok X G (T.c.fact 56 (f := .glo "pops_of") rfl)
theorem t_glo_blocks_of (T : Top w K mg) : mg "blocks_of" = some (.ref (He.ga K "blocks_of")) := by obtain ⟨h, X, G, _⟩ := T.ns; exact He.glo_ok X G (T.c.fact 57 (f := .glo "blocks_of") rfl)
theorem t_glo_led_anew (T : Top w K mg) : mg "led_anew" = some (.ref (He.ga K "led_anew")) := by obtain ⟨h, X, G, _⟩ := T.ns; exact He.glo_ok X G (T.c.fact 58 (f := .glo "led_anew") rfl)
theorem t_glo_saved_rows (T : Top w K mg) : mg "saved_rows" = some (.ref (He.ga K "saved_rows")) := by obtain ⟨h, X, G, _⟩ := T.ns; exact He.glo_ok X G (T.c.fact 59 (f := .glo "saved_rows") rfl)
theorem t_glo_with_rows (T : Top w K mg) : mg "with_rows" = some (.ref (He.ga K "with_rows")) := by obtain ⟨h, X, G, _⟩ := T.ns; exact He.glo_ok X G (T.c.fact 60 (f := .glo "with_rows") rfl)
theorem t_glo_put_in (T : Top w K mg) : mg "put_in" = some (.ref (He.ga K "put_in")) := by obtain ⟨h, X, G, _⟩ := T.ns; exact He.glo_ok X G (T.c.fact 61 (f := .glo "put_in") rfl)
theorem t_glo_mix (T : Top w K mg) : mg "_law_mix" = some (.ref (He.ga K "_law_mix")) := by obtain ⟨h, X, G, _⟩ := T.ns; exact He.glo_ok X G (T.c.fact 62 (f := .glo "_law_mix") rfl)
theorem t_glo_next (T : Top w K mg) : mg "_law_next" = some (.ref (He.ga K "_law_next")) := by obtain ⟨h, X, G, _⟩ := T.ns; exact He.glo_ok X G (T.c.fact 63 (f := .glo "_law_next") rfl)
theorem t_glo_alike (T : Top w K mg) : mg "_law_alike" = some (.ref (He.ga K "_law_alike")) := by obtain ⟨h, X, G, _⟩ := T.ns; exact He.glo_ok X G (T.c.fact 64 (f := .glo "_law_alike") rfl)
theorem t_glo_house (T : Top w K mg) : mg "_law_house" = some (.ref (He.ga K "_law_house")) := by obtain ⟨h, X, G, _⟩ := T.ns; exact He.glo_ok X G (T.c.fact 65 (f := .glo "_law_house") rfl)
theorem t_glo_number (T : Top w K mg) : mg "_law_number" = some (.ref (He.ga K "_law_number")) := by obtain ⟨h, X, G, _⟩ := T.ns; exact He.glo_ok X G (T.c.fact 66 (f := .glo "_law_number") rfl)
theorem t_glo_simple (T : Top w K mg) : mg "_law_simple" = some (.ref (He.ga K "_law_simple")) := by obtain ⟨h, X, G, _⟩ := T.ns; exact He.glo_ok X G (T.c.fact 67 (f := .glo "_law_simple") rfl)
theorem t_glo_calling (T : Top w K mg) : mg "_law_calling" = some (.ref (He.ga K "_law_calling")) := by obtain ⟨h, X, G, _⟩ := T.ns; exact He.glo_ok X G (T.c.fact 68 (f := .glo "_law_calling") rfl)
theorem t_glo_zeroed (T : Top w K mg) : mg "_law_zeroed" = some (.ref (He.ga K "_law_zeroed")) := by obtain ⟨h, X, G, _⟩ := T.ns; exact He.glo_ok X G (T.c.fact 69 (f := .glo "_law_zeroed") rfl)
theorem t_glo_kept (T : Top w K mg) : mg "_law_kept" = some (.ref (He.ga K "_law_kept")) := by obtain ⟨h, X, G, _⟩ := T.ns; exact He.glo_ok X G (T.c.fact 70 (f := .glo "_law_kept") rfl)
theorem t_glo_program (T : Top w K mg) : mg "_law_program" = some (.ref (He.ga K "_law_program")) := by obtain ⟨h, X, G, _⟩ := T.ns; exact He.glo_ok X G (T.c.fact 71 (f := .glo "_law_program") rfl)
theorem t_glo_wild_row (T : Top w K mg) : mg "_law_wild_row" = some (.ref (He.ga K "_law_wild_row")) := by obtain ⟨h, X, G, _⟩ := T.ns; exact He.glo_ok X G (T.c.fact 72 (f := .glo "_law_wild_row") rfl)
theorem t_glo_odd (T : Top w K mg) : mg "_law_odd" = some (.ref (He.ga K "_law_odd")) := by obtain ⟨h, X, G, _⟩ := T.ns; exact He.glo_ok X G (T.c.fact 73 (f := .glo "_law_odd") rfl)
theorem t_glo_wild (T : Top w K mg) : mg "_law_wild" = some (.ref (He.ga K "_law_wild")) := by obtain ⟨h, X, G, _⟩ := T.ns; exact He.glo_ok X G (T.c.fact 74 (f := .glo "_law_wild") rfl)
theorem t_glo_any (T : Top w K mg) : mg "_law_any" = some (.ref (He.ga K "_law_any")) := by obtain ⟨h, X, G, _⟩ := T.ns; exact He.glo_ok X G (T.c.fact 75 (f := .glo "_law_any") rfl)
theorem t_glo_saves (T : Top w K mg) : mg "_law_saves" = some (.ref (He.ga K "_law_saves")) := by obtain ⟨h, X, G, _⟩ := T.ns; exact He.glo_ok X G (T.c.fact 76 (f := .glo "_law_saves") rfl)
theorem t_glo_put_in_ (T : Top w K mg) : mg "_law_put_in" = some (.ref (He.ga K "_law_put_in")) := by obtain ⟨h, X, G, _⟩ := T.ns; exact He.glo_ok X G (T.c.fact 77 (f := .glo "_law_put_in") rfl)
theorem t_glo_law (T : Top w K mg) : mg "law" = some (.ref (He.ga K "law")) := by obtain ⟨h, X, G, _⟩ := T.ns; exact He.glo_ok X G (T.c.fact 78 (f := .glo "law") rfl)
theorem t_PLACES (T : Top w K mg) : ∃ a es n, mg "PLACES" = some (.ref a) ∧ KDict K w a es n ∧ Tab K es K_PLACES V_PLACES := by
  obtain ⟨h, X, G, c⟩ := T.ns
  obtain ⟨es, n, D⟩ := c.t.tab 0 (t := (fun K => He.ga K "PLACES", K_PLACES)) rfl
  have e := c.more
  unfold exB at e
  simp only [Bool.and_eq_true] at e
  exact ⟨_, es, n, He.glo_ok X G (T.c.fact 17 (f := .glo "PLACES") rfl), D, dictP_ok D e.1⟩
theorem t_glo_BadProgram (T : Top w K mg) : mg "BadProgram" = some (.ref (He.ga K "BadProgram")) := by obtain ⟨h, X, G, _⟩ := T.ns; exact He.glo_ok X G (T.c.fact 25 (f := .glo "BadProgram") rfl)
theorem t_glo_BadNumber (T : Top w K mg) : mg "BadNumber" = some (.ref (He.ga K "BadNumber")) := by obtain ⟨h, X, G, _⟩ := T.ns; exact He.glo_ok X G (T.c.fact 26 (f := .glo "BadNumber") rfl)
theorem t_glo_TooMany (T : Top w K mg) : mg "TooMany" = some (.ref (He.ga K "TooMany")) := by obtain ⟨h, X, G, _⟩ := T.ns; exact He.glo_ok X G (T.c.fact 27 (f := .glo "TooMany") rfl)
theorem t_glo_NotLet (T : Top w K mg) : mg "NotLet" = some (.ref (He.ga K "NotLet")) := by obtain ⟨h, X, G, _⟩ := T.ns; exact He.glo_ok X G (T.c.fact 28 (f := .glo "NotLet") rfl)
theorem t_glo_BadStates (T : Top w K mg) : mg "BadStates" = some (.ref (He.ga K "BadStates")) := by obtain ⟨h, X, G, _⟩ := T.ns; exact He.glo_ok X G (T.c.fact 29 (f := .glo "BadStates") rfl)
theorem t_glo_BadGiven (T : Top w K mg) : mg "BadGiven" = some (.ref (He.ga K "BadGiven")) := by obtain ⟨h, X, G, _⟩ := T.ns; exact He.glo_ok X G (T.c.fact 30 (f := .glo "BadGiven") rfl)
theorem t_glo_BadFuel (T : Top w K mg) : mg "BadFuel" = some (.ref (He.ga K "BadFuel")) := by obtain ⟨h, X, G, _⟩ := T.ns; exact He.glo_ok X G (T.c.fact 31 (f := .glo "BadFuel") rfl)
theorem t_glo_BadNoise (T : Top w K mg) : mg "BadNoise" = some (.ref (He.ga K "BadNoise")) := by obtain ⟨h, X, G, _⟩ := T.ns; exact He.glo_ok X G (T.c.fact 32 (f := .glo "BadNoise") rfl)
theorem t_glo_BadSaves (T : Top w K mg) : mg "BadSaves" = some (.ref (He.ga K "BadSaves")) := by obtain ⟨h, X, G, _⟩ := T.ns; exact He.glo_ok X G (T.c.fact 33 (f := .glo "BadSaves") rfl)
theorem t_glo_BadText (T : Top w K mg) : mg "BadText" = some (.ref (He.ga K "BadText")) := by obtain ⟨h, X, G, _⟩ := T.ns; exact He.glo_ok X G (T.c.fact 34 (f := .glo "BadText") rfl)
theorem t_glo_PactError (T : Top w K mg) : mg "PactError" = some (.ref (He.ga K "PactError")) := by obtain ⟨h, X, G, _⟩ := T.ns; exact He.glo_ok X G (T.c.fact 35 (f := .glo "PactError") rfl)
theorem t_glo__law_kind (T : Top w K mg) : mg "_law_kind" = some (.ref (He.ga K "_law_kind")) := by obtain ⟨h, X, G, _⟩ := T.ns; exact He.glo_ok X G (T.c.fact 36 (f := .glo "_law_kind") rfl)
theorem t_kinds (T : Top w K mg) : kindsB K = true := by
  obtain ⟨h, X, G, c⟩ := T.ns
  have e := c.more
  unfold exB at e
  simp only [Bool.and_eq_true] at e
  exact e.2
theorem own_BadNumber (T : Top w K mg) : Own K (xcK K) "BadNumber" (He.ga K "BadNumber") := let ⟨h1, h2, h3, h4⟩ := He.exc_ok (T.c.fact 37 (f := .exc "BadNumber") rfl); ⟨h1, h2, h3, h4, rfl⟩
theorem own_BadSaves (T : Top w K mg) : Own K (xcK K) "BadSaves" (He.ga K "BadSaves") := let ⟨h1, h2, h3, h4⟩ := He.exc_ok (T.c.fact 38 (f := .exc "BadSaves") rfl); ⟨h1, h2, h3, h4, rfl⟩
end
abbrev N_is_tuple_of : List Str := ["value", "least", "most"]
theorem sc_is_tuple_of : FnScope N_is_tuple_of ["value", "least", "most"] (defScope s_is_tuple_of) := ⟨rfl, rfl, rfl, by decide +kernel, rfl, by decide +kernel, by decide +kernel⟩
abbrev N_is_below : List Str := ["value", "limit"]
theorem sc_is_below : FnScope N_is_below ["value", "limit"] (defScope s_is_below) := ⟨rfl, rfl, rfl, by decide +kernel, rfl, by decide +kernel, by decide +kernel⟩
abbrev N_are_rising_boxes : List Str := ["value", "box", "low", "high"]
theorem sc_are_rising_boxes : FnScope N_are_rising_boxes ["value"] (defScope s_are_rising_boxes) := ⟨rfl, rfl, rfl, by decide +kernel, rfl, by decide +kernel, by decide +kernel⟩
abbrev N_is_house : List Str := ["house", "ins", "out", "kept", "box"]
theorem sc_is_house : FnScope N_is_house ["house"] (defScope s_is_house) := ⟨rfl, rfl, rfl, by decide +kernel, rfl, by decide +kernel, by decide +kernel⟩
abbrev N_check_houses : List Str := ["houses", "number", "house"]
theorem sc_check_houses : FnScope N_check_houses ["houses"] (defScope s_check_houses) := ⟨rfl, rfl, rfl, by decide +kernel, rfl, by decide +kernel, by decide +kernel⟩
abbrev N_is_row : List Str := ["row", "limits", "places", "value", "place"]
theorem sc_is_row : FnScope N_is_row ["row", "limits"] (defScope s_is_row) := ⟨rfl, rfl, rfl, by decide +kernel, rfl, by decide +kernel, by decide +kernel⟩
abbrev N_check_rows : List Str := ["rows", "number", "many_routines", "limits", "at", "row"]
theorem sc_check_rows : FnScope N_check_rows ["rows", "number", "many_routines"] (defScope s_check_rows) := ⟨rfl, rfl, rfl, by decide +kernel, rfl, by decide +kernel, by decide +kernel⟩
abbrev N_check_routines : List Str := ["routines", "many_houses", "number", "routine", "house", "rows"]
theorem sc_check_routines : FnScope N_check_routines ["routines", "many_houses"] (defScope s_check_routines) := ⟨rfl, rfl, rfl, by decide +kernel, rfl, by decide +kernel, by decide +kernel⟩
abbrev N_check_program : List Str := ["program", "houses", "routines"]
theorem sc_check_program : FnScope N_check_program ["program"] (defScope s_check_program) := ⟨rfl, rfl, rfl, by decide +kernel, rfl, by decide +kernel, by decide +kernel⟩
abbrev N_check_number : List Str := ["program", "routine", "_", "routines"]
theorem sc_check_number : FnScope N_check_number ["program", "routine"] (defScope s_check_number) := ⟨rfl, rfl, rfl, by decide +kernel, rfl, by decide +kernel, by decide +kernel⟩
abbrev N_rows_of : List Str := ["program", "routine", "_", "routines", "rows"]
theorem sc_rows_of : FnScope N_rows_of ["program", "routine"] (defScope s_rows_of) := ⟨rfl, rfl, rfl, by decide +kernel, rfl, by decide +kernel, by decide +kernel⟩
abbrev N_house_of : List Str := ["program", "routine", "houses", "routines", "number", "_"]
theorem sc_house_of : FnScope N_house_of ["program", "routine"] (defScope s_house_of) := ⟨rfl, rfl, rfl, by decide +kernel, rfl, by decide +kernel, by decide +kernel⟩
abbrev N_told_in : List Str := ["program", "routine", "row", "_", "out", "rows"]
theorem sc_told_in : FnScope N_told_in ["program", "routine", "row"] (defScope s_told_in) := ⟨rfl, rfl, rfl, by decide +kernel, rfl, by decide +kernel, by decide +kernel⟩
abbrev N_is_save : List Str := ["program", "routine", "save", "row", "box", "out"]
theorem sc_is_save : FnScope N_is_save ["program", "routine", "save"] (defScope s_is_save) := ⟨rfl, rfl, rfl, by decide +kernel, rfl, by decide +kernel, by decide +kernel⟩
abbrev N_check_saves : List Str := ["program", "routine", "saves", "save", "low", "high"]
theorem sc_check_saves : FnScope N_check_saves ["program", "routine", "saves"] (defScope s_check_saves) := ⟨rfl, rfl, rfl, by decide +kernel, rfl, by decide +kernel, by decide +kernel⟩
abbrev N_boxes_about : List Str := ["saves", "about", "row", "box"]
theorem sc_boxes_about : FnScope N_boxes_about ["saves", "about"] (defScope s_boxes_about) := ⟨rfl, rfl, rfl, by decide +kernel, rfl, by decide +kernel, by decide +kernel⟩
abbrev N_pushes_of : List Str := ["boxes", "box"]
theorem sc_pushes_of : FnScope N_pushes_of ["boxes"] (defScope s_pushes_of) := ⟨rfl, rfl, rfl, by decide +kernel, rfl, by decide +kernel, by decide +kernel⟩
abbrev N_pops_of : List Str := ["boxes", "box"]
theorem sc_pops_of : FnScope N_pops_of ["boxes"] (defScope s_pops_of) := ⟨rfl, rfl, rfl, by decide +kernel, rfl, by decide +kernel, by decide +kernel⟩
abbrev N_blocks_of : List Str := ["rows", "saves", "whole", "blocks", "number", "row", "boxes"]
theorem sc_blocks_of : FnScope N_blocks_of ["rows", "saves"] (defScope s_blocks_of) := ⟨rfl, rfl, rfl, by decide +kernel, rfl, by decide +kernel, by decide +kernel⟩
abbrev N_led_anew : List Str := ["row", "starts"]
theorem sc_led_anew : FnScope N_led_anew ["row", "starts"] (defScope s_led_anew) := ⟨rfl, rfl, rfl, by decide +kernel, rfl, by decide +kernel, by decide +kernel⟩
abbrev N_saved_rows : List Str := ["rows", "saves", "told", "blocks", "starts", "start", "block", "row"]
theorem sc_saved_rows : FnScope N_saved_rows ["rows", "saves"] (defScope s_saved_rows) := ⟨rfl, rfl, rfl, by decide +kernel, rfl, by decide +kernel, by decide +kernel⟩
abbrev N_with_rows : List Str := ["program", "routine", "rows", "houses", "routines", "house", "_"]
theorem sc_with_rows : FnScope N_with_rows ["program", "routine", "rows"] (defScope s_with_rows) := ⟨rfl, rfl, rfl, by decide +kernel, rfl, by decide +kernel, by decide +kernel⟩
abbrev N_put_in : List Str := ["program", "routine", "saves", "rows"]
theorem sc_put_in : FnScope N_put_in ["program", "routine", "saves"] (defScope s_put_in) := ⟨rfl, rfl, rfl, by decide +kernel, rfl, by decide +kernel, by decide +kernel⟩
abbrev N_mix : List Str := ["_law_script", "_law_seed", "_law_mixed", "_law_cell"]
theorem sc_mix : FnScope N_mix ["_law_script", "_law_seed"] (defScope s_mix) := ⟨rfl, rfl, rfl, by decide +kernel, rfl, by decide +kernel, by decide +kernel⟩
abbrev N_next : List Str := ["_law_h", "_law_many", "_law_at", "_law_cell"]
theorem sc_next : FnScope N_next ["_law_h", "_law_many"] (defScope s_next) := ⟨rfl, rfl, rfl, by decide +kernel, rfl, by decide +kernel, by decide +kernel⟩
abbrev N_alike : List Str := ["_law_found", "_law_due", "_law_k"]
theorem sc_alike : FnScope N_alike ["_law_found", "_law_due"] (defScope s_alike) := ⟨rfl, rfl, rfl, by decide +kernel, rfl, by decide +kernel, by decide +kernel⟩
abbrev N_house : List Str := ["_law_h", "_law_few", "_law_sorts", "_law_box", "_law_out", "_law_ins"]
theorem sc_house : FnScope N_house ["_law_h"] (defScope s_house) := ⟨rfl, rfl, rfl, by decide +kernel, rfl, by decide +kernel, by decide +kernel⟩
abbrev N_number : List Str := ["_law_h"]
theorem sc_number : FnScope N_number ["_law_h"] (defScope s_number) := ⟨rfl, rfl, rfl, by decide +kernel, rfl, by decide +kernel, by decide +kernel⟩
abbrev N_simple : List Str := ["_law_h", "_law_e", "_law_good", "_law_box", "_law_goal", "_law_turn", "_law_row", "_law_some", "_law_one", "_law_other"]
theorem sc_simple : FnScope N_simple ["_law_h", "_law_e"] (defScope s_simple) := ⟨rfl, rfl, rfl, by decide +kernel, rfl, by decide +kernel, by decide +kernel⟩
abbrev N_calling : List Str := ["_law_h", "_law_e", "_law_called", "_law_ins", "_law_out", "_law_kept_here", "_law_fixed", "_law_box", "_law_some", "_law_saved"]
theorem sc_calling : FnScope N_calling ["_law_h", "_law_e"] (defScope s_calling) := ⟨rfl, rfl, rfl, by decide +kernel, rfl, by decide +kernel, by decide +kernel⟩
abbrev N_zeroed : List Str := ["_law_h", "_law_e", "_law_good", "_law_box", "_law_test", "_law_place", "_law_before", "_law_k"]
theorem sc_zeroed : FnScope N_zeroed ["_law_h", "_law_e"] (defScope s_zeroed) := ⟨rfl, rfl, rfl, by decide +kernel, rfl, by decide +kernel, by decide +kernel⟩
abbrev N_kept : List Str := ["_law_h", "_law_houses", "_law_owners", "_law_number_here", "_law_most", "_law_ins", "_law_out", "_law_kept_here", "_law_saved", "_law_box", "_law_e", "_law_k", "_law_turn", "_law_rows"]
theorem sc_kept : FnScope N_kept ["_law_h", "_law_houses", "_law_owners", "_law_number_here", "_law_most"] (defScope s_kept) := ⟨rfl, rfl, rfl, by decide +kernel, rfl, by decide +kernel, by decide +kernel⟩
abbrev N_program : List Str := ["_law_h", "_law_most", "_law_houses", "_law_k", "_law_owners", "_law_size", "_law_number_here"]
theorem sc_program : FnScope N_program ["_law_h", "_law_most"] (defScope s_program) := ⟨rfl, rfl, rfl, by decide +kernel, rfl, by decide +kernel, by decide +kernel⟩
abbrev N_wild_row : List Str := ["_law_h", "_law_rows", "_law_routines", "_law_word", "_law_some", "_law_k"]
theorem sc_wild_row : FnScope N_wild_row ["_law_h", "_law_rows", "_law_routines"] (defScope s_wild_row) := ⟨rfl, rfl, rfl, by decide +kernel, rfl, by decide +kernel, by decide +kernel⟩
abbrev N_odd : List Str := ["_law_h", "_law_program_here", "_law_turns", "_law_houses", "_law_routines", "_law_turn", "_law_k", "_law_house_here", "_law_rows", "_law_at", "_law_row", "_law_sort", "_law_some", "_law_many", "_law_one"]
theorem sc_odd : FnScope N_odd ["_law_h", "_law_program_here", "_law_turns"] (defScope s_odd) := ⟨rfl, rfl, rfl, by decide +kernel, rfl, by decide +kernel, by decide +kernel⟩
abbrev N_wild : List Str := ["_law_h", "_law_most", "_law_houses", "_law_k", "_law_many", "_law_found", "_law_rows", "_law_some", "_law_row"]
theorem sc_wild : FnScope N_wild ["_law_h", "_law_most"] (defScope s_wild) := ⟨rfl, rfl, rfl, by decide +kernel, rfl, by decide +kernel, by decide +kernel⟩
abbrev N_any : List Str := ["_law_h", "_law_turn", "_law_program_here"]
theorem sc_any : FnScope N_any ["_law_h"] (defScope s_any) := ⟨rfl, rfl, rfl, by decide +kernel, rfl, by decide +kernel, by decide +kernel⟩
abbrev N_saves : List Str := ["_law_h", "_law_program_here", "_law_number_here", "_law_most", "_law_rows", "_law_places", "_law_row", "_law_some", "_law_k", "_law_place", "_law_told"]
theorem sc_saves : FnScope N_saves ["_law_h", "_law_program_here", "_law_number_here", "_law_most"] (defScope s_saves) := ⟨rfl, rfl, rfl, by decide +kernel, rfl, by decide +kernel, by decide +kernel⟩
abbrev N_put_in_ : List Str := ["_law_program_here", "_law_number_here", "_law_saves_here", "_law_houses", "_law_routines", "_law_house_here", "_law_rows", "_law_whole", "_law_row", "_law_box", "_law_found", "_law_begins", "_law_k", "_law_about"]
theorem sc_put_in_ : FnScope N_put_in_ ["_law_program_here", "_law_number_here", "_law_saves_here"] (defScope s_put_in_) := ⟨rfl, rfl, rfl, by decide +kernel, rfl, by decide +kernel, by decide +kernel⟩
abbrev N_law : List Str := ["_law_script", "_law_h", "_law_turn", "_law_program_here", "_law_number_here", "_law_saves_here", "_law_due", "_law_handed", "_law_rows", "_law_plain", "_law_far", "_law_out", "_law_odd_here", "_law_bad", "_law_two", "_law_worse", "_law_row", "_law_k"]
theorem sc_law : FnScope N_law ["_law_script"] (defScope s_law) := ⟨rfl, rfl, rfl, by decide +kernel, rfl, by decide +kernel, by decide +kernel⟩
abbrev N_kind : List Str := ["_law_work", "_law_e", "_law_kinds", "_law_words"]
theorem sc_kind : FnScope N_kind ["_law_work"] (defScope s_kind) := ⟨rfl, rfl, rfl, by decide +kernel, rfl, by decide +kernel, by decide +kernel⟩
theorem kind_gives {X : Cx} {g : Addr} {cdg : Value} {q : Str} (hmP : X.mg "PactError" = some (.ref (He.ga X.K "PactError"))) (hmc : ∀ (m : Nat) (c : Str), kindNames[m]? = some c → X.mg c = some (.ref (He.ga X.K c))) (hmi : X.mg "isinstance" = none) (hmv : X.mg "ValueError" = none)
    (hu : ∀ s : Shared, (X.A.deeper (envOfC "_law_kind" (defScope s_kind) s.heap.objs.size g cdg)).units + 1 < cLine) :
    LamX.GivesTo X N_kind "_law_kind" (defScope s_kind) g cdg (defBody s_kind) "_law_work" q (TKind X.K) := by
  intro f c' s H Q tl act hc h
  refine ⟨_, pss_cons (ps_try_as (X := (cxOf C8.CX0 X.prog X.w X.K X.mg X.base N_kind "_law_kind" (defScope s_kind) g cdg X.A X.stack s H C8.E0).nox) (i := 1) (n := "_law_e") (c := .ref (He.ga X.K "PactError")) (Wout := fun _ _ _ _ => False)
    (tb := fun W D σ H => ∃ Ech : XK, (∀ cls d σ' H', Ech cls d H' → W cls d σ' H') ∧ σ[0]? = some (some (.ref f)) ∧ H c' = some (LamX.CodeO c' q) ∧ tl Ech H fun _ H' => D.nx σ H')
    (ts := fun a cls d D σ H => ∃ C j w, cls = .ref C ∧ d = none ∧ kindWords[j]? = some w ∧ j ≠ 0 ∧ KindC X.K C j ∧ (∃ σ0 : L2.St, σ = σ0.set 1 (some (.ref a))) ∧ ∀ H', Keeps H H' → D.rt (.str w) H')
    rfl rfl sc_kind.nd rfl rfl ⟨rfl, by decide, .inl hmP⟩ LamX.takes0 (fun W pn xe tk _ => ?_) (fun a oe cls d pn hz hf => ?_)) (pss_one (ps_ret pe_str)), ?_⟩
  · refine ⟨fun pins s' σ H' D I h' => ?_⟩
    obtain ⟨Ech, hW, h1, h2, h3⟩ := h'
    exact (pss_one (ps_expr (act W pn xe Ech _ _ tk hW))).run pins s' σ H' D I ⟨h1, h2, h3⟩
  · refine ⟨fun pins s' σ H' D I h' => ?_⟩
    obtain ⟨C, j, w, rfl, rfl, hw, hj, kc, ⟨σ0, rfl⟩, h2⟩ := h'
    have E : ∀ {m : Nat} {c : Str} {p p1 p2 pos : Pos}, kindNames[m]? = some c → Gl (cxOf C8.CX0 X.prog X.w X.K X.mg X.base N_kind "_law_kind" (defScope s_kind) g cdg X.A X.stack s H C8.E0).nox c → (c == ("__debug__" : Str)) = false →
        PE ((cxOf C8.CX0 X.prog X.w X.K X.mg X.base N_kind "_law_kind" (defScope s_kind) g cdg X.A X.stack s H C8.E0).nox.suite a ((a, oe) :: pn)) (.Call (.Name "isinstance" p) [.Name "_law_e" p1, .Name c p2] [] pos) (tIsE a 1 (decide (m = j))) := fun {m c p p1 p2 pos} hc hg hd =>
      pe_isE kc.ex hz hf rfl hmi rfl (.inl rfl) hg (hmc m c hc) (kc.is_ m c hc) (by decide) (by decide) hd
    refine (pss_cons (st_newL (ik := 2) (isa_cons (E (m := 0) rfl rfl (by decide)) (isa_cons (E (m := 1) rfl rfl (by decide)) (isa_cons (E (m := 2) rfl rfl (by decide)) (isa_cons (E (m := 3) rfl rfl (by decide)) isa_nil)))) (Nat.le_of_ble_eq_true rfl) sc_kind.nd rfl (.inl rfl) (.inl rfl))
      (pss_cons (st_moreL (ik := 2) (isa_cons (E (m := 4) rfl rfl (by decide)) (isa_cons (E (m := 5) rfl rfl (by decide)) (isa_cons (E (m := 6) rfl rfl (by decide)) isa_nil))) (Nat.le_of_ble_eq_true rfl) sc_kind.nd rfl (.inl rfl) (.inl rfl) (.inl rfl))
      (pss_cons (st_moreL (ik := 2) (isa_cons (E (m := 7) rfl rfl (by decide)) (isa_cons (E (m := 8) rfl rfl (by decide)) (isa_cons (E (m := 9) rfl rfl (by decide)) isa_nil))) (Nat.le_of_ble_eq_true rfl) sc_kind.nd rfl (.inl rfl) (.inl rfl) (.inl rfl))
      (pss_cons (ps_if (pt_kinds (ik := 2) (.inl rfl) rfl (pt_val (pe_isV (ie := 1) kc.ex hz hf rfl hmi rfl (.inl rfl) rfl hmv kc.ve))) (pss_one (ps_ret pe_str)) pss_nil)
      (pss_cons (ps_no (ik := 2) (hu s) (.inl rfl) rfl)
      (pss_cons (ps_no (ik := 2) (hu s) (.inl rfl) rfl)
      (pss_cons (st_words (iw := 3) (ws_cons (ws_cons (ws_cons (ws_cons (ws_cons (ws_cons (ws_cons (ws_cons (ws_cons ws_nil))))))))) (by decide) sc_kind.nd rfl (.inl rfl) (.inl rfl))
      (pss_one (ps_word (ik := 2) (iw := 3) (.inl rfl) rfl (.inl rfl) rfl))))))))).run pins s' _ H' D I ?_
    have hj9 : j < 9 := (List.getElem?_eq_some_iff.mp hw).1
    have hj8 : j = 1 ∨ j = 2 ∨ j = 3 ∨ j = 4 ∨ j = 5 ∨ j = 6 ∨ j = 7 ∨ j = 8 := by omega
    have hl : (σ0.set 1 (some (V.ref a))).length = 4 := I.len
    rw [List.length_set] at hl
    match σ0, hl with
    | [x0, x1, x2, x3], _ =>
    dsimp only [tSeq, tNewL, tMoreL, tIfS, tRet, tNext]
    rcases hj8 with rfl | rfl | rfl | rfl | rfl | rfl | rfl | rfl
    all_goals
      refine ⟨rfl, fun p1 n1 => ⟨rfl, p1, _, rfl, upd_same, Nat.le_of_ble_eq_true rfl, fun q2 p2 n2 n3 => ⟨rfl, p2, _, rfl, upd_same, Nat.le_of_ble_eq_true rfl, fun q3 p3 n4 n5 => ⟨p3, _, rfl, upd_same, rfl, ?_⟩⟩⟩⟩
      refine ⟨p3, _, 0, rfl, upd_same, rfl, rfl, p3, _, 9, rfl, upd_same, rfl, rfl, fun p4 n6 => ?_⟩
      refine ⟨p3, p4, _, kindWords, _, w, rfl, by rw [upd_ne (ne_of_none upd_same n6)]; exact upd_same, rfl, upd_same, ?_, ?_, hw, h2 _ ?_⟩
      · rfl
      · decide
      · exact (((((Keeps.new (fun _ _ e => e) n1).new n2).new n3).new n4).new n5).new n6
  · refine ⟨wKind X.K Q, fun cls d σ' H' h' => ?_, rfl, hc, h⟩
    obtain ⟨C, j, w, rfl, rfl, hw, hj, kc, h2⟩ := h'
    refine ⟨true, kc.pa, fun _ a na => ⟨C, j, w, rfl, rfl, hw, hj, kc, ⟨σ', rfl⟩, h2⟩, fun z => nomatch z⟩
theorem i_kind {X : Cx} {E : XK} {c P : Addr} {k : Nat} {params : Arguments} {body : Expr} {scope : Scope} {mb : XE} {p lpos pos : Pos}
    (F : ∃ fd, FunD X.K "_law_kind" "_law_kind" (defArgs s_kind) (defBody s_kind) (defScope s_kind) [] [] (He.ga X.K "_law_kind") fd) (hg : Gl X "_law_kind") (hm : X.mg "_law_kind" = some (.ref (He.ga X.K "_law_kind")))
    (hmP : X.mg "PactError" = some (.ref (He.ga X.K "PactError"))) (hmc : ∀ (m : Nat) (c : Str), kindNames[m]? = some c → X.mg c = some (.ref (He.ga X.K c))) (hmi : X.mg "isinstance" = none) (hmv : X.mg "ValueError" = none)
    (hxc : ∀ (j : Nat) (w : Str), kindWords[j]? = some w → j ≠ 0 → xc w = some (.ref (He.ga X.K w)) ∧ KindC X.K (He.ga X.K w) j)
    (TB : LamX.TabB X.base X.mg c P) (hcode : X.env.code = .ref c) (hmT : (P, X.env.qual ++ "<lambda>") ∈ KT X.K) (hu : ∀ p ∈ KT X.K, p.1 = P → p.2 = X.env.qual ++ "<lambda>") (hr : Room (k + 2) X.A) (L : LamX.LamS X.env.scope scope) (hdef : defaultsOf params X.env = ([], []))
    (hbind : ∀ (q : Str) (cl : List (Str × Addr)) (pm cv ctv : Value), bindArgs (PySem.W.kla_fn "<lambda>" q params body scope cl pm cv ctv) ⟨[], []⟩ = pure [])
    (hbody : ∀ (A : Around) (outer : List PySem.Env) (s : Shared) (H : Hp) (E : XK) (f c' : Addr), Room k (A.deeper (LamX.lamEnv X scope s.heap.objs.size f c')) → PE (LamX.lamCx X A outer s H E scope f c') body (tI ⟨X.K, xc, X.w⟩ E mb)) :
    PE X (.Call (.Name "_law_kind" p) [.Lambda params body scope lpos] [] pos) (tI ⟨X.K, xc, X.w⟩ E (eKind mb)) := by
  obtain ⟨fd, F⟩ := F
  have hb : L2.Binds X.K fd ["_law_work"] [] := F.bindsN fun _ _ _ _ _ _ us hl => match us, hl with | [_], _ => rfl
  obtain ⟨oc, od, dV, kV, doc, pm, an, cdv, ct, osl, rfl, lk, hcd, _, _⟩ := F.ex
  refine (LamX.pe_lamcall (T := KT X.K) (TT := TKind X.K) (t := fun E => tI ⟨X.K, xc, X.w⟩ E mb) hg hm F.kp lk hcd hb sc_kind rfl (.inl rfl) (kind_gives hmP hmc hmi hmv fun s => hu_of (hr.deeper _)) TB hcode hmT hu hr L hdef hbind hbody).imp fun σ H Q h => kind_read (G := ⟨X.K, xc, X.w⟩) hxc h
theorem i_kindT {P : Program} {w : World} {K : PySem.W.Frag} {mg : Str → Option Value} {base : Heap} {N : List Str} {sc : Scope} {A : Around} {outer : List PySem.Env} {s : Shared} {H : Hp} {E E0 : XK} {k : Nat} {params : Arguments} {body : Expr} {scope : Scope} {mb : XE} {p lpos pos : Pos} (T : Top w K mg)
    (tb : LamX.TabB base mg (He.cT K ("law", none)).1 (He.cT K ("law", none)).2) (hr : Room (k + 2) (cxOf (L2.CX P w) P w K mg base N "law" sc (He.fAd K ("law", none)) (.ref (He.codeOf K ("law", none))) A outer s H E0).A)
    (hbody : ∀ (A1 : Around) (outer1 : List PySem.Env) (s1 : Shared) (H1 : Hp) (E : XK) (f c' : Addr), Room k (A1.deeper (LamX.lamEnv (cxOf (L2.CX P w) P w K mg base N "law" sc (He.fAd K ("law", none)) (.ref (He.codeOf K ("law", none))) A outer s H E0) scope s1.heap.objs.size f c')) → PE (LamX.lamCx (cxOf (L2.CX P w) P w K mg base N "law" sc (He.fAd K ("law", none)) (.ref (He.codeOf K ("law", none))) A outer s H E0) A1 outer1 s1 H1 E scope f c') body (tI ⟨K, xcK K, w⟩ E mb))
    (hg : Gl (cxOf (L2.CX P w) P w K mg base N "law" sc (He.fAd K ("law", none)) (.ref (He.codeOf K ("law", none))) A outer s H E0) "_law_kind" := by rfl) (L : LamX.LamS sc scope := by exact LamX.lamS_by (by decide +kernel))
    (hdef : defaultsOf params (cxOf (L2.CX P w) P w K mg base N "law" sc (He.fAd K ("law", none)) (.ref (He.codeOf K ("law", none))) A outer s H E0).env = ([], []) := by rfl)
    (hbind : ∀ (q : Str) (cl : List (Str × Addr)) (pm cv ctv : Value), bindArgs (PySem.W.kla_fn "<lambda>" q params body scope cl pm cv ctv) ⟨[], []⟩ = pure [] := by intros; rfl) :
    PE (cxOf (L2.CX P w) P w K mg base N "law" sc (He.fAd K ("law", none)) (.ref (He.codeOf K ("law", none))) A outer s H E0) (.Call (.Name "_law_kind" p) [.Lambda params body scope lpos] [] pos) (tI ⟨K, xcK K, w⟩ E (eKind mb)) :=
  i_kind (T.c.def_ 40 (d := d_kind) rfl) hg (t_glo__law_kind T) (t_glo_PactError T) (fun m c hc => by
    match m, hc with
    | 0, h => cases h; exact t_glo_BadProgram T
    | 1, h => cases h; exact t_glo_BadNumber T
    | 2, h => cases h; exact t_glo_TooMany T
    | 3, h => cases h; exact t_glo_NotLet T
    | 4, h => cases h; exact t_glo_BadStates T
    | 5, h => cases h; exact t_glo_BadGiven T
    | 6, h => cases h; exact t_glo_BadFuel T
    | 7, h => cases h; exact t_glo_BadNoise T
    | 8, h => cases h; exact t_glo_BadSaves T
    | 9, h => cases h; exact t_glo_BadText T
    | n + 10, h => cases h) (t_isinstance T) (t_ValueError T) (kindsB_ok (t_kinds T)) tb rfl (List.mem_singleton.mpr rfl) (fun p hp _ => by rw [List.mem_singleton.mp hp]; rfl) hr L hdef hbind hbody
section
variable {P : Program} {w : World} {K : PySem.W.Frag} {mg : Str → Option Value} {base : Heap}
theorem ok_is_tuple_of (T : Top w K mg)  : Cl P w K mg base (xcK K) "is_tuple_of" ["value", "least", "most"] 1 (m_is_tuple_of) := by
  obtain ⟨fd, F⟩ := T.c.def_ 0 (d := d_is_tuple_of) rfl
  refine ⟨fd, def_PD (N := N_is_tuple_of) F sc_is_tuple_of (fun cdv A outer s H E hr => ?_), t_glo_is_tuple_of T, F.kp, F.bindsN fun _ _ _ _ _ _ us hl => match us, hl with | [_, _, _], _ => rfl, lkF F⟩
  exact s_one (s_ret (i_and (i_isa (t := .tuple) rfl (t_isinstance T) rfl (t_tuple T) rfl (iv 0)) (i_one (i_chain op_le sd_le op_le sd_le (iv 1) (i_bf call_lenU sd_len rfl (t_len T) rfl (i_cons (iv 0) (i_nil))) (iv 2)))))
theorem ok_is_below (T : Top w K mg)  : Cl P w K mg base (xcK K) "is_below" ["value", "limit"] 1 (m_is_below) := by
  obtain ⟨fd, F⟩ := T.c.def_ 1 (d := d_is_below) rfl
  refine ⟨fd, def_PD (N := N_is_below) F sc_is_below (fun cdv A outer s H E hr => ?_), t_glo_is_below T, F.kp, F.bindsN fun _ _ _ _ _ _ us hl => match us, hl with | [_, _], _ => rfl, lkF F⟩
  exact s_one (s_ret (i_and (i_isa (t := .int) rfl (t_isinstance T) rfl (t_int T) rfl (iv 0)) (i_and (i_not (i_isa (t := .bool) rfl (t_isinstance T) rfl (t_bool T) rfl (iv 0))) (i_one (i_chain op_le sd_le op_lt sd_lt (i_int) (iv 0) (iv 1))))))
theorem ok_are_rising_boxes (T : Top w K mg) (c_is_below : Cl P w K mg base (xcK K) "is_below" ["value", "limit"] 1 (m_is_below)) : Cl P w K mg base (xcK K) "are_rising_boxes" ["value"] 2 (m_are_rising_boxes) := by
  obtain ⟨fd, F⟩ := T.c.def_ 2 (d := d_are_rising_boxes) rfl
  refine ⟨fd, def_PD (N := N_are_rising_boxes) F sc_are_rising_boxes (fun cdv A outer s H E hr => ?_), t_glo_are_rising_boxes T, F.kp, F.bindsN fun _ _ _ _ _ _ us hl => match us, hl with | [_], _ => rfl, lkF F⟩
  exact s_seq (s_if (PW.pt (j_or (j_not (j_val (i_isa (t := .tuple) rfl (t_isinstance T) rfl (t_tuple T) rfl (iv 0)))) (j_or1 (j_not (j_val (i_bf (cr_all rfl) sd_all rfl (t_all T) rfl (i_cons (i_lc (own := [("box", 1)]) rfl sc_are_rising_boxes.nd (i_seq (iv 0)) (blkOk_by (own := [("box", 1)]) (N := N_are_rising_boxes) (sc := defScope s_are_rising_boxes) (by decide +kernel)) (fun _ _ _ _ _ => gn (i := 1) sc_are_rising_boxes.nd) (fun _ _ _ _ _ => ts_nil) (fun _ _ _ _ _ => i_callC c_is_below (hr.mono (by omega)) rfl (passes_call takes0 (fun _ _ _ _ h => h)) (i_cons (iv 1) (i_cons (i_gi (t_BOXES T)) (i_nil))))) (i_nil)))))))) (s_one (s_ret (i_bl))) (s_nil)) (s_one (s_ret (i_bf (cr_all rfl) sd_all rfl (t_all T) rfl (i_cons (i_lc (own := [("low", 2), ("high", 3)]) rfl sc_are_rising_boxes.nd (i_zip rfl (t_zip T) (iv 0) (i_cut (iv 0) (o_some (i_int)) (o_none))) (blkOk_by (own := [("low", 2), ("high", 3)]) (N := N_are_rising_boxes) (sc := defScope s_are_rising_boxes) (by decide +kernel)) (fun _ _ _ _ _ => g_tup rfl (gs_cons (gn (i := 2) sc_are_rising_boxes.nd) (gs_cons (gn (i := 3) sc_are_rising_boxes.nd) (gs_nil)))) (fun _ _ _ _ _ => ts_nil) (fun _ _ _ _ _ => i_cmp op_lt sd_lt (iv 2) (iv 3) (nomark _))) (i_nil)))))
theorem ok_is_house (T : Top w K mg) (c_are_rising_boxes : Cl P w K mg base (xcK K) "are_rising_boxes" ["value"] 2 (m_are_rising_boxes)) (c_is_below : Cl P w K mg base (xcK K) "is_below" ["value", "limit"] 1 (m_is_below)) (c_is_tuple_of : Cl P w K mg base (xcK K) "is_tuple_of" ["value", "least", "most"] 1 (m_is_tuple_of)) : Cl P w K mg base (xcK K) "is_house" ["house"] 3 (m_is_house) := by
  obtain ⟨fd, F⟩ := T.c.def_ 3 (d := d_is_house) rfl
  refine ⟨fd, def_PD (N := N_is_house) F sc_is_house (fun cdv A outer s H E hr => ?_), t_glo_is_house T, F.kp, F.bindsN fun _ _ _ _ _ _ us hl => match us, hl with | [_], _ => rfl, lkF F⟩
  exact s_seq (s_if (j_not (j_val (i_callC c_is_tuple_of (hr.mono (by omega)) rfl (passes_call (takes_of rfl rfl rfl rfl) (fun _ _ _ _ h => h)) (i_cons (iv 0) (i_cons (i_int) (i_cons (i_int) (i_nil))))))) (s_one (s_ret (i_bl))) (s_nil)) (s_seq (s_asg (iv 0) (g_tup rfl (gs_cons (gn (i := 1) sc_is_house.nd) (gs_cons (gn (i := 2) sc_is_house.nd) (gs_cons (gn (i := 3) sc_is_house.nd) (gs_nil)))))) (s_seq (s_if (PW.pt (j_or (j_not (j_val (i_callC c_are_rising_boxes (hr.mono (by omega)) rfl (passes_call (takes_of rfl rfl rfl rfl) (fun _ _ _ _ h => h)) (i_cons (iv 1) (i_nil))))) (j_or (j_not (j_val (i_callC c_is_below (hr.mono (by omega)) rfl (passes_call (takes_of rfl rfl rfl rfl) (fun _ _ _ _ h => h)) (i_cons (iv 2) (i_cons (i_gi (t_BOXES T)) (i_nil)))))) (j_or1 (j_not (j_val (i_callC c_are_rising_boxes (hr.mono (by omega)) rfl (passes_call (takes_of rfl rfl rfl rfl) (fun _ _ _ _ h => h)) (i_cons (iv 3) (i_nil))))))))) (s_one (s_ret (i_bl))) (s_nil)) (s_one (s_ret (i_not (i_bf (cr_any rfl) sd_any rfl (t_any T) rfl (i_cons (i_lc (own := [("box", 4)]) rfl sc_is_house.nd (i_seq (iv 3)) (blkOk_by (own := [("box", 4)]) (N := N_is_house) (sc := defScope s_is_house) (by decide +kernel)) (fun _ _ _ _ _ => gn (i := 4) sc_is_house.nd) (fun _ _ _ _ _ => ts_nil) (fun _ _ _ _ _ => i_or (i_cmp op_in_seq sd_in (iv 4) (iv 1) rfl) (i_one (i_cmp (op_eqD (hu64 hr)) sd_eq (iv 4) (iv 2) (nomark _))))) (i_nil))))))))
theorem ok_check_houses (T : Top w K mg) (c_is_house : Cl P w K mg base (xcK K) "is_house" ["house"] 3 (m_is_house)) (c_is_tuple_of : Cl P w K mg base (xcK K) "is_tuple_of" ["value", "least", "most"] 1 (m_is_tuple_of)) : Cl P w K mg base (xcK K) "check_houses" ["houses"] 4 (m_check_houses) := by
  obtain ⟨fd, F⟩ := T.c.def_ 4 (d := d_check_houses) rfl
  refine ⟨fd, def_PD (N := N_check_houses) F sc_check_houses (fun cdv A outer s H E hr => ?_), t_glo_check_houses T, F.kp, F.bindsN fun _ _ _ _ _ _ us hl => match us, hl with | [_], _ => rfl, lkF F⟩
  exact s_seq (s_if (j_not (j_val (i_callC c_is_tuple_of (hr.mono (by omega)) rfl (passes_call (takes_of rfl rfl rfl rfl) (fun _ _ _ _ h => h)) (i_cons (iv 0) (i_cons (i_int) (i_cons (i_gi (t_MOST_HOUSES T)) (i_nil))))))) (s_one (s_bad)) (s_nil)) (s_one (s_for (passes_of rfl) rfl (i_enum rfl (t_enumerate T) (iv 0)) (g_tup rfl (gs_cons (gn (i := 1) sc_check_houses.nd) (gs_cons (gn (i := 2) sc_check_houses.nd) (gs_nil)))) (s_one (s_if (j_not (j_val (i_callC c_is_house (hr.mono (by omega)) rfl (passes_call (takes_of rfl rfl rfl rfl) (fun _ _ _ _ h => h)) (i_cons (iv 2) (i_nil))))) (s_one (s_bad)) (s_nil)))))
theorem ok_is_row (T : Top w K mg) (c_is_below : Cl P w K mg base (xcK K) "is_below" ["value", "limit"] 1 (m_is_below)) : Cl P w K mg base (xcK K) "is_row" ["row", "limits"] 2 (m_is_row) := by
  obtain ⟨fd, F⟩ := T.c.def_ 5 (d := d_is_row) rfl
  refine ⟨fd, def_PD (N := N_is_row) F sc_is_row (fun cdv A outer s H E hr => ?_), t_glo_is_row T, F.kp, F.bindsN fun _ _ _ _ _ _ us hl => match us, hl with | [_, _], _ => rfl, lkF F⟩
  exact s_seq (s_if (PW.pt (j_or (j_not (j_val (i_isa (t := .tuple) rfl (t_isinstance T) rfl (t_tuple T) rfl (iv 0)))) (j_or (j_cmp (op_eqD (hu64 hr)) sd_eq (i_bf call_lenU sd_len rfl (t_len T) rfl (i_cons (iv 0) (i_nil))) (i_int) (nomark _)) (j_or1 (j_not (j_val (i_isa (t := .str) rfl (t_isinstance T) rfl (t_str T) rfl (i_ix (hu_of hr) (iv 0) (i_int))))))))) (s_one (s_ret (i_bl))) (s_nil)) (s_seq (s_set (i := 2) sc_is_row.nd rfl (.inl rfl) (i_kgetT (t_PLACES T) rfl (i_ix (hu_of hr) (iv 0) (i_int)) (m1_of rfl rfl rfl))) (s_seq (s_if (PW.pt (j_or (j_cmp op_isNU sd_isN (iv 2) (i_non) (nomark _)) (j_or1 (j_cmp (op_neD (hu64 hr)) sd_ne (i_bf call_lenU sd_len rfl (t_len T) rfl (i_cons (iv 0) (i_nil))) (i_op op_addU sd_add (i_bf call_lenU sd_len rfl (t_len T) rfl (i_cons (iv 2) (i_nil))) (i_int)) (nomark _))))) (s_one (s_ret (i_bl))) (s_nil)) (s_one (s_ret (i_bf (cr_all rfl) sd_all rfl (t_all T) rfl (i_cons (i_lc (own := [("value", 3), ("place", 4)]) rfl sc_is_row.nd (i_zip rfl (t_zip T) (i_cut (iv 0) (o_some (i_int)) (o_none)) (iv 2)) (blkOk_by (own := [("value", 3), ("place", 4)]) (N := N_is_row) (sc := defScope s_is_row) (by decide +kernel)) (fun _ _ _ _ _ => g_tup rfl (gs_cons (gn (i := 3) sc_is_row.nd) (gs_cons (gn (i := 4) sc_is_row.nd) (gs_nil)))) (fun _ _ _ _ _ => ts_nil) (fun _ _ _ _ _ => i_callC c_is_below (hr.mono (by omega)) rfl (passes_call takes0 (fun _ _ _ _ h => h)) (i_cons (iv 3) (i_cons (i_ix (hu_of hr) (iv 1) (iv 4)) (i_nil))))) (i_nil)))))))
theorem ok_check_rows (T : Top w K mg) (c_is_row : Cl P w K mg base (xcK K) "is_row" ["row", "limits"] 2 (m_is_row)) : Cl P w K mg base (xcK K) "check_rows" ["rows", "number", "many_routines"] 3 (m_check_rows) := by
  obtain ⟨fd, F⟩ := T.c.def_ 6 (d := d_check_rows) rfl
  refine ⟨fd, def_PD (N := N_check_rows) F sc_check_rows (fun cdv A outer s H E hr => ?_), t_glo_check_rows T, F.kp, F.bindsN fun _ _ _ _ _ _ us hl => match us, hl with | [_, _, _], _ => rfl, lkF F⟩
  exact s_seq (s_set (i := 3) sc_check_rows.nd rfl (.inl rfl) (i_dks (d_cons (i_gi (t_BOXES T)) (d_cons (i_gi (t_NUMBERS T)) (d_cons (i_bf call_lenU sd_len rfl (t_len T) rfl (i_cons (iv 0) (i_nil))) (d_cons (iv 2) (d_nil))))))) (s_seq (s_for (passes_of rfl) rfl (i_enum rfl (t_enumerate T) (iv 0)) (g_tup rfl (gs_cons (gn (i := 4) sc_check_rows.nd) (gs_cons (gn (i := 5) sc_check_rows.nd) (gs_nil)))) (s_one (s_if (j_not (j_val (i_callC c_is_row (hr.mono (by omega)) rfl (passes_call (takes_of rfl rfl rfl rfl) (fun _ _ _ _ h => h)) (i_cons (iv 5) (i_cons (iv 3) (i_nil)))))) (s_one (s_bad)) (s_nil)))) (s_one (s_if (j_cmp op_notIn_seq sd_notIn (i_ix (hu_of hr) (i_ix (hu_of hr) (iv 0) (i_un un_neg sd_neg (i_int))) (i_int)) (i_tup (i_cons (i_str) (i_cons (i_str) (i_nil)))) rfl) (s_one (s_bad)) (s_nil))))
theorem ok_check_routines (T : Top w K mg) (c_check_rows : Cl P w K mg base (xcK K) "check_rows" ["rows", "number", "many_routines"] 3 (m_check_rows)) (c_is_below : Cl P w K mg base (xcK K) "is_below" ["value", "limit"] 1 (m_is_below)) (c_is_tuple_of : Cl P w K mg base (xcK K) "is_tuple_of" ["value", "least", "most"] 1 (m_is_tuple_of)) : Cl P w K mg base (xcK K) "check_routines" ["routines", "many_houses"] 4 (m_check_routines) := by
  obtain ⟨fd, F⟩ := T.c.def_ 7 (d := d_check_routines) rfl
  refine ⟨fd, def_PD (N := N_check_routines) F sc_check_routines (fun cdv A outer s H E hr => ?_), t_glo_check_routines T, F.kp, F.bindsN fun _ _ _ _ _ _ us hl => match us, hl with | [_, _], _ => rfl, lkF F⟩
  exact s_seq (s_if (j_not (j_val (i_callC c_is_tuple_of (hr.mono (by omega)) rfl (passes_call (takes_of rfl rfl rfl rfl) (fun _ _ _ _ h => h)) (i_cons (iv 0) (i_cons (i_int) (i_cons (i_gi (t_MOST_ROUTINES T)) (i_nil))))))) (s_one (s_bad)) (s_nil)) (s_one (s_for (passes_of rfl) rfl (i_enum rfl (t_enumerate T) (iv 0)) (g_tup rfl (gs_cons (gn (i := 2) sc_check_routines.nd) (gs_cons (gn (i := 3) sc_check_routines.nd) (gs_nil)))) (s_seq (s_if (j_not (j_val (i_callC c_is_tuple_of (hr.mono (by omega)) rfl (passes_call (takes_of rfl rfl rfl rfl) (fun _ _ _ _ h => h)) (i_cons (iv 3) (i_cons (i_int) (i_cons (i_int) (i_nil))))))) (s_one (s_bad)) (s_nil)) (s_seq (s_asg (iv 3) (g_tup rfl (gs_cons (gn (i := 4) sc_check_routines.nd) (gs_cons (gn (i := 5) sc_check_routines.nd) (gs_nil))))) (s_seq (s_if (PW.pt (j_or (j_not (j_val (i_callC c_is_below (hr.mono (by omega)) rfl (passes_call (takes_of rfl rfl rfl rfl) (fun _ _ _ _ h => h)) (i_cons (iv 4) (i_cons (iv 1) (i_nil)))))) (j_or1 (j_not (j_val (i_callC c_is_tuple_of (hr.mono (by omega)) rfl (passes_call (takes_of rfl rfl rfl rfl) (fun _ _ _ _ h => h)) (i_cons (iv 5) (i_cons (i_int) (i_cons (i_gi (t_MOST_ROWS T)) (i_nil)))))))))) (s_one (s_bad)) (s_nil)) (s_one (s_drop (i_callC c_check_rows (hr.mono (by omega)) rfl (passes_call (takes_of rfl rfl rfl rfl) (fun _ _ _ _ h => h)) (i_cons (iv 5) (i_cons (iv 2) (i_cons (i_bf call_lenU sd_len rfl (t_len T) rfl (i_cons (iv 0) (i_nil))) (i_nil))))))))))))
theorem ok_check_program (T : Top w K mg) (c_check_routines : Cl P w K mg base (xcK K) "check_routines" ["routines", "many_houses"] 4 (m_check_routines)) (c_check_houses : Cl P w K mg base (xcK K) "check_houses" ["houses"] 4 (m_check_houses)) (c_is_tuple_of : Cl P w K mg base (xcK K) "is_tuple_of" ["value", "least", "most"] 1 (m_is_tuple_of)) : Cl P w K mg base (xcK K) "check_program" ["program"] 5 (m_check_program) := by
  obtain ⟨fd, F⟩ := T.c.def_ 8 (d := d_check_program) rfl
  refine ⟨fd, def_PD (N := N_check_program) F sc_check_program (fun cdv A outer s H E hr => ?_), t_glo_check_program T, F.kp, F.bindsN fun _ _ _ _ _ _ us hl => match us, hl with | [_], _ => rfl, lkF F⟩
  exact s_seq (s_if (j_not (j_val (i_callC c_is_tuple_of (hr.mono (by omega)) rfl (passes_call (takes_of rfl rfl rfl rfl) (fun _ _ _ _ h => h)) (i_cons (iv 0) (i_cons (i_int) (i_cons (i_int) (i_nil))))))) (s_one (s_bad)) (s_nil)) (s_seq (s_asg (iv 0) (g_tup rfl (gs_cons (gn (i := 1) sc_check_program.nd) (gs_cons (gn (i := 2) sc_check_program.nd) (gs_nil))))) (s_seq (s_drop (i_callC c_check_houses (hr.mono (by omega)) rfl (passes_call (takes_of rfl rfl rfl rfl) (fun _ _ _ _ h => h)) (i_cons (iv 1) (i_nil)))) (s_one (s_drop (i_callC c_check_routines (hr.mono (by omega)) rfl (passes_call (takes_of rfl rfl rfl rfl) (fun _ _ _ _ h => h)) (i_cons (iv 2) (i_cons (i_bf call_lenU sd_len rfl (t_len T) rfl (i_cons (iv 1) (i_nil))) (i_nil))))))))
theorem ok_check_number (T : Top w K mg) (c_is_below : Cl P w K mg base (xcK K) "is_below" ["value", "limit"] 1 (m_is_below)) : Cl P w K mg base (xcK K) "check_number" ["program", "routine"] 2 (m_check_number) := by
  obtain ⟨fd, F⟩ := T.c.def_ 9 (d := d_check_number) rfl
  refine ⟨fd, def_PD (N := N_check_number) F sc_check_number (fun cdv A outer s H E hr => ?_), t_glo_check_number T, F.kp, F.bindsN fun _ _ _ _ _ _ us hl => match us, hl with | [_, _], _ => rfl, lkF F⟩
  exact s_seq (s_asg (iv 0) (g_tup rfl (gs_cons (gn (i := 2) sc_check_number.nd) (gs_cons (gn (i := 3) sc_check_number.nd) (gs_nil))))) (s_one (s_if (j_not (j_val (i_callC c_is_below (hr.mono (by omega)) rfl (passes_call (takes_of rfl rfl rfl rfl) (fun _ _ _ _ h => h)) (i_cons (iv 1) (i_cons (i_bf call_lenU sd_len rfl (t_len T) rfl (i_cons (iv 3) (i_nil))) (i_nil)))))) (s_one (s_raise (own_BadNumber T) rfl rfl (takes_of rfl rfl rfl rfl) (t_glo_BadNumber T) rfl (i_join (.cons (i_str) (.cons (i_fmt (iv 1)) (.nil)))))) (s_nil)))
theorem ok_rows_of (T : Top w K mg)  : Cl P w K mg base (xcK K) "rows_of" ["program", "routine"] 1 (m_rows_of) := by
  obtain ⟨fd, F⟩ := T.c.def_ 10 (d := d_rows_of) rfl
  refine ⟨fd, def_PD (N := N_rows_of) F sc_rows_of (fun cdv A outer s H E hr => ?_), t_glo_rows_of T, F.kp, F.bindsN fun _ _ _ _ _ _ us hl => match us, hl with | [_, _], _ => rfl, lkF F⟩
  exact s_seq (s_asg (iv 0) (g_tup rfl (gs_cons (gn (i := 2) sc_rows_of.nd) (gs_cons (gn (i := 3) sc_rows_of.nd) (gs_nil))))) (s_seq (s_asg (i_ix (hu_of hr) (iv 3) (iv 1)) (g_tup rfl (gs_cons (gn (i := 2) sc_rows_of.nd) (gs_cons (gn (i := 4) sc_rows_of.nd) (gs_nil))))) (s_one (s_ret (iv 4))))
theorem ok_house_of (T : Top w K mg)  : Cl P w K mg base (xcK K) "house_of" ["program", "routine"] 1 (m_house_of) := by
  obtain ⟨fd, F⟩ := T.c.def_ 11 (d := d_house_of) rfl
  refine ⟨fd, def_PD (N := N_house_of) F sc_house_of (fun cdv A outer s H E hr => ?_), t_glo_house_of T, F.kp, F.bindsN fun _ _ _ _ _ _ us hl => match us, hl with | [_, _], _ => rfl, lkF F⟩
  exact s_seq (s_asg (iv 0) (g_tup rfl (gs_cons (gn (i := 2) sc_house_of.nd) (gs_cons (gn (i := 3) sc_house_of.nd) (gs_nil))))) (s_seq (s_asg (i_ix (hu_of hr) (iv 3) (iv 1)) (g_tup rfl (gs_cons (gn (i := 4) sc_house_of.nd) (gs_cons (gn (i := 5) sc_house_of.nd) (gs_nil))))) (s_one (s_ret (i_ix (hu_of hr) (iv 2) (iv 4)))))
theorem ok_told_in (T : Top w K mg) (c_house_of : Cl P w K mg base (xcK K) "house_of" ["program", "routine"] 1 (m_house_of)) (c_is_below : Cl P w K mg base (xcK K) "is_below" ["value", "limit"] 1 (m_is_below)) (c_rows_of : Cl P w K mg base (xcK K) "rows_of" ["program", "routine"] 1 (m_rows_of)) : Cl P w K mg base (xcK K) "told_in" ["program", "routine", "row"] 2 (m_told_in) := by
  obtain ⟨fd, F⟩ := T.c.def_ 12 (d := d_told_in) rfl
  refine ⟨fd, def_PD (N := N_told_in) F sc_told_in (fun cdv A outer s H E hr => ?_), t_glo_told_in T, F.kp, F.bindsN fun _ _ _ _ _ _ us hl => match us, hl with | [_, _, _], _ => rfl, lkF F⟩
  exact s_seq (s_if (j_cmp (op_eqD (hu64 hr)) sd_eq (iv 2) (i_gi (t_WHOLE T)) (nomark _)) (s_seq (s_asg (i_callC c_house_of (hr.mono (by omega)) rfl (passes_call (takes_of rfl rfl rfl rfl) (fun _ _ _ _ h => h)) (i_cons (iv 0) (i_cons (iv 1) (i_nil)))) (g_tup rfl (gs_cons (gn (i := 3) sc_told_in.nd) (gs_cons (gn (i := 4) sc_told_in.nd) (gs_cons (gn (i := 3) sc_told_in.nd) (gs_nil)))))) (s_one (s_ret (iv 4)))) (s_nil)) (s_seq (s_set (i := 5) sc_told_in.nd rfl (.inl rfl) (i_callC c_rows_of (hr.mono (by omega)) rfl (passes_call (takes_of rfl rfl rfl rfl) (fun _ _ _ _ h => h)) (i_cons (iv 0) (i_cons (iv 1) (i_nil))))) (s_seq (s_if (PW.pt (j_or (j_not (j_val (i_callC c_is_below (hr.mono (by omega)) rfl (passes_call (takes_of rfl rfl rfl rfl) (fun _ _ _ _ h => h)) (i_cons (iv 2) (i_cons (i_bf call_lenU sd_len rfl (t_len T) rfl (i_cons (iv 5) (i_nil))) (i_nil)))))) (j_or1 (j_cmp (op_neD (hu64 hr)) sd_ne (i_ix (hu_of hr) (i_ix (hu_of hr) (iv 5) (iv 2)) (i_int)) (i_str) (nomark _))))) (s_one (s_ret (i_non))) (s_nil)) (s_seq (s_asg (i_callC c_house_of (hr.mono (by omega)) rfl (passes_call (takes_of rfl rfl rfl rfl) (fun _ _ _ _ h => h)) (i_cons (iv 0) (i_cons (i_ix (hu_of hr) (i_ix (hu_of hr) (iv 5) (iv 2)) (i_int)) (i_nil)))) (g_tup rfl (gs_cons (gn (i := 3) sc_told_in.nd) (gs_cons (gn (i := 4) sc_told_in.nd) (gs_cons (gn (i := 3) sc_told_in.nd) (gs_nil)))))) (s_one (s_ret (iv 4))))))
theorem ok_is_save (T : Top w K mg) (c_is_below : Cl P w K mg base (xcK K) "is_below" ["value", "limit"] 1 (m_is_below)) (c_told_in : Cl P w K mg base (xcK K) "told_in" ["program", "routine", "row"] 2 (m_told_in)) (c_is_tuple_of : Cl P w K mg base (xcK K) "is_tuple_of" ["value", "least", "most"] 1 (m_is_tuple_of)) : Cl P w K mg base (xcK K) "is_save" ["program", "routine", "save"] 3 (m_is_save) := by
  obtain ⟨fd, F⟩ := T.c.def_ 13 (d := d_is_save) rfl
  refine ⟨fd, def_PD (N := N_is_save) F sc_is_save (fun cdv A outer s H E hr => ?_), t_glo_is_save T, F.kp, F.bindsN fun _ _ _ _ _ _ us hl => match us, hl with | [_, _, _], _ => rfl, lkF F⟩
  exact s_seq (s_if (j_not (j_val (i_callC c_is_tuple_of (hr.mono (by omega)) rfl (passes_call (takes_of rfl rfl rfl rfl) (fun _ _ _ _ h => h)) (i_cons (iv 2) (i_cons (i_int) (i_cons (i_int) (i_nil))))))) (s_one (s_ret (i_bl))) (s_nil)) (s_seq (s_asg (iv 2) (g_tup rfl (gs_cons (gn (i := 3) sc_is_save.nd) (gs_cons (gn (i := 4) sc_is_save.nd) (gs_nil))))) (s_seq (s_set (i := 5) sc_is_save.nd rfl (.inl rfl) (i_callC c_told_in (hr.mono (by omega)) rfl (passes_call (takes_of rfl rfl rfl rfl) (fun _ _ _ _ h => h)) (i_cons (iv 0) (i_cons (iv 1) (i_cons (iv 3) (i_nil)))))) (s_one (s_ret (i_and (i_cmp op_notNU sd_notN (iv 5) (i_non) (nomark _)) (i_and (i_callC c_is_below (hr.mono (by omega)) rfl (passes_call (takes_of rfl rfl rfl rfl) (fun _ _ _ _ h => h)) (i_cons (iv 4) (i_cons (i_gi (t_BOXES T)) (i_nil)))) (i_one (i_cmp (op_neD (hu64 hr)) sd_ne (iv 4) (iv 5) (nomark _)))))))))
theorem ok_check_saves (T : Top w K mg) (c_is_save : Cl P w K mg base (xcK K) "is_save" ["program", "routine", "save"] 3 (m_is_save)) : Cl P w K mg base (xcK K) "check_saves" ["program", "routine", "saves"] 4 (m_check_saves) := by
  obtain ⟨fd, F⟩ := T.c.def_ 14 (d := d_check_saves) rfl
  refine ⟨fd, def_PD (N := N_check_saves) F sc_check_saves (fun cdv A outer s H E hr => ?_), t_glo_check_saves T, F.kp, F.bindsN fun _ _ _ _ _ _ us hl => match us, hl with | [_, _, _], _ => rfl, lkF F⟩
  exact s_seq (s_if (j_not (j_val (i_bf (cr_all rfl) sd_all rfl (t_all T) rfl (i_cons (i_lc (own := [("save", 3)]) rfl sc_check_saves.nd (i_seq (iv 2)) (blkOk_by (own := [("save", 3)]) (N := N_check_saves) (sc := defScope s_check_saves) (by decide +kernel)) (fun _ _ _ _ _ => gn (i := 3) sc_check_saves.nd) (fun _ _ _ _ _ => ts_nil) (fun _ _ _ _ _ => i_callC c_is_save (hr.mono (by omega)) rfl (passes_call takes0 (fun _ _ _ _ h => h)) (i_cons (iv 0) (i_cons (iv 1) (i_cons (iv 3) (i_nil)))))) (i_nil))))) (s_one (s_raise (own_BadSaves T) rfl rfl (takes_of rfl rfl rfl rfl) (t_glo_BadSaves T) rfl (i_join (.cons (i_str) (.cons (i_fmt (iv 1)) (.nil)))))) (s_nil)) (s_one (s_if (j_not (j_val (i_bf (cr_all rfl) sd_all rfl (t_all T) rfl (i_cons (i_lc (own := [("low", 4), ("high", 5)]) rfl sc_check_saves.nd (i_zip rfl (t_zip T) (iv 2) (i_cut (iv 2) (o_some (i_int)) (o_none))) (blkOk_by (own := [("low", 4), ("high", 5)]) (N := N_check_saves) (sc := defScope s_check_saves) (by decide +kernel)) (fun _ _ _ _ _ => g_tup rfl (gs_cons (gn (i := 4) sc_check_saves.nd) (gs_cons (gn (i := 5) sc_check_saves.nd) (gs_nil)))) (fun _ _ _ _ _ => ts_nil) (fun _ _ _ _ _ => i_cmp (op_ltT (hu0 hr)) sd_ltT (iv 4) (iv 5) (nomark _))) (i_nil))))) (s_one (s_raise (own_BadSaves T) rfl rfl (takes_of rfl rfl rfl rfl) (t_glo_BadSaves T) rfl (i_str))) (s_nil)))
theorem ok_boxes_about (T : Top w K mg)  : Cl P w K mg base (xcK K) "boxes_about" ["saves", "about"] 1 (m_boxes_about) := by
  obtain ⟨fd, F⟩ := T.c.def_ 15 (d := d_boxes_about) rfl
  refine ⟨fd, def_PD (N := N_boxes_about) F sc_boxes_about (fun cdv A outer s H E hr => ?_), t_glo_boxes_about T, F.kp, F.bindsN fun _ _ _ _ _ _ us hl => match us, hl with | [_, _], _ => rfl, lkF F⟩
  exact s_one (s_ret (i_lc (own := [("row", 2), ("box", 3)]) rfl sc_boxes_about.nd (i_seq (iv 0)) (blkOk_by (own := [("row", 2), ("box", 3)]) (N := N_boxes_about) (sc := defScope s_boxes_about) (by decide +kernel)) (fun _ _ _ _ _ => g_tup rfl (gs_cons (gn (i := 2) sc_boxes_about.nd) (gs_cons (gn (i := 3) sc_boxes_about.nd) (gs_nil)))) (fun _ _ _ _ _ => ts_one (j_cmp (op_eqD (hu64 hr)) sd_eq (iv 2) (iv 1) (nomark _))) (fun _ _ _ _ _ => iv 3)))
theorem ok_pushes_of (T : Top w K mg)  : Cl P w K mg base (xcK K) "pushes_of" ["boxes"] 1 (m_pushes_of) := by
  obtain ⟨fd, F⟩ := T.c.def_ 16 (d := d_pushes_of) rfl
  refine ⟨fd, def_KD (N := N_pushes_of) F sc_pushes_of (fun cdv A outer s H E hr => ?_), t_glo_pushes_of T, F.kp, F.bindsN fun _ _ _ _ _ _ us hl => match us, hl with | [_], _ => rfl, lkF F⟩
  exact s_one (s_ret (i_lcN (own := [("box", 1)]) rfl sc_pushes_of.nd (i_seq (iv 0)) (blkOk_by (own := [("box", 1)]) (N := N_pushes_of) (sc := defScope s_pushes_of) (by decide +kernel)) (fun _ _ _ _ _ => gn (i := 1) sc_pushes_of.nd) (fun _ _ _ _ _ => ts_nil) (fun _ _ _ _ _ => i_tup (i_cons (i_str) (i_cons (iv 1) (i_nil))))))
theorem ok_pops_of (T : Top w K mg)  : Cl P w K mg base (xcK K) "pops_of" ["boxes"] 1 (m_pops_of) := by
  obtain ⟨fd, F⟩ := T.c.def_ 17 (d := d_pops_of) rfl
  refine ⟨fd, def_PD (N := N_pops_of) F sc_pops_of (fun cdv A outer s H E hr => ?_), t_glo_pops_of T, F.kp, F.bindsN fun _ _ _ _ _ _ us hl => match us, hl with | [_], _ => rfl, lkF F⟩
  exact s_one (s_ret (i_lc (own := [("box", 1)]) rfl sc_pops_of.nd (i_seq (i_revS (iv 0))) (blkOk_by (own := [("box", 1)]) (N := N_pops_of) (sc := defScope s_pops_of) (by decide +kernel)) (fun _ _ _ _ _ => gn (i := 1) sc_pops_of.nd) (fun _ _ _ _ _ => ts_nil) (fun _ _ _ _ _ => i_tup (i_cons (i_str) (i_cons (iv 1) (i_nil))))))
theorem ok_blocks_of (T : Top w K mg) (c_pops_of : Cl P w K mg base (xcK K) "pops_of" ["boxes"] 1 (m_pops_of)) (c_pushes_of : Cl P w K mg base (xcK K) "pushes_of" ["boxes"] 1 (m_pushes_of)) (c_boxes_about : Cl P w K mg base (xcK K) "boxes_about" ["saves", "about"] 1 (m_boxes_about)) : Cl P w K mg base (xcK K) "blocks_of" ["rows", "saves"] 2 (m_blocks_of) := by
  obtain ⟨fd, F⟩ := T.c.def_ 18 (d := d_blocks_of) rfl
  refine ⟨fd, def_KD (N := N_blocks_of) F sc_blocks_of (fun cdv A outer s H E hr => ?_), t_glo_blocks_of T, F.kp, F.bindsN fun _ _ _ _ _ _ us hl => match us, hl with | [_, _], _ => rfl, lkF F⟩
  exact s_seq (s_set (i := 2) sc_blocks_of.nd rfl (.inl rfl) (i_callC c_boxes_about (hr.mono (by omega)) rfl (passes_call (takes_of rfl rfl rfl rfl) (fun _ _ _ _ h => h)) (i_cons (iv 1) (i_cons (i_gi (t_WHOLE T)) (i_nil))))) (s_seq (s_set (i := 3) sc_blocks_of.nd rfl (.inl rfl) (i_new (i_nil))) (s_seq (s_for (passes_of rfl) rfl (i_enum rfl (t_enumerate T) (iv 0)) (g_tup rfl (gs_cons (gn (i := 4) sc_blocks_of.nd) (gs_cons (gn (i := 5) sc_blocks_of.nd) (gs_nil)))) (s_one (s_if (j_cmp (op_eqD (hu64 hr)) sd_eq (i_ix (hu_of hr) (iv 5) (i_int)) (i_str) (nomark _)) (s_one (s_drop (i_append (iv 3) (i_op op_addU sd_add (i_callC c_pops_of (hr.mono (by omega)) rfl (passes_call (takes_of rfl rfl rfl rfl) (fun _ _ _ _ h => h)) (i_cons (iv 2) (i_nil))) (i_ls (i_cons (iv 5) (i_nil))))))) (s_seq (s_set (i := 6) sc_blocks_of.nd rfl (.inl rfl) (i_callC c_boxes_about (hr.mono (by omega)) rfl (passes_call (takes_of rfl rfl rfl rfl) (fun _ _ _ _ h => h)) (i_cons (iv 1) (i_cons (iv 4) (i_nil))))) (s_one (s_drop (i_append (iv 3) (i_op op_addU sd_add (i_op op_addU sd_add (i_callC c_pushes_of (hr.mono (by omega)) rfl (passes_call (takes_of rfl rfl rfl rfl) (fun _ _ _ _ h => h)) (i_cons (iv 6) (i_nil))) (i_ls (i_cons (iv 5) (i_nil)))) (i_callC c_pops_of (hr.mono (by omega)) rfl (passes_call (takes_of rfl rfl rfl rfl) (fun _ _ _ _ h => h)) (i_cons (iv 6) (i_nil))))))))))) (s_one (s_ret (iv 3)))))
theorem ok_led_anew (T : Top w K mg)  : Cl P w K mg base (xcK K) "led_anew" ["row", "starts"] 1 (m_led_anew) := by
  obtain ⟨fd, F⟩ := T.c.def_ 19 (d := d_led_anew) rfl
  refine ⟨fd, def_PD (N := N_led_anew) F sc_led_anew (fun cdv A outer s H E hr => ?_), t_glo_led_anew T, F.kp, F.bindsN fun _ _ _ _ _ _ us hl => match us, hl with | [_, _], _ => rfl, lkF F⟩
  exact s_seq (s_if (j_cmp (op_eqD (hu64 hr)) sd_eq (i_ix (hu_of hr) (iv 0) (i_int)) (i_str) (nomark _)) (s_one (s_ret (i_tup (i_cons (i_str) (i_cons (i_ix (hu_of hr) (iv 1) (i_ix (hu_of hr) (iv 0) (i_int))) (i_nil)))))) (s_nil)) (s_seq (s_if (j_cmp (op_eqD (hu64 hr)) sd_eq (i_ix (hu_of hr) (iv 0) (i_int)) (i_str) (nomark _)) (s_one (s_ret (i_tup (i_cons (i_str) (i_cons (i_ix (hu_of hr) (iv 0) (i_int)) (i_cons (i_ix (hu_of hr) (iv 1) (i_ix (hu_of hr) (iv 0) (i_int))) (i_nil))))))) (s_nil)) (s_one (s_ret (iv 0))))
theorem ok_saved_rows (T : Top w K mg) (c_led_anew : Cl P w K mg base (xcK K) "led_anew" ["row", "starts"] 1 (m_led_anew)) (c_blocks_of : Cl P w K mg base (xcK K) "blocks_of" ["rows", "saves"] 2 (m_blocks_of)) (c_pushes_of : Cl P w K mg base (xcK K) "pushes_of" ["boxes"] 1 (m_pushes_of)) (c_boxes_about : Cl P w K mg base (xcK K) "boxes_about" ["saves", "about"] 1 (m_boxes_about)) : Cl P w K mg base (xcK K) "saved_rows" ["rows", "saves"] 3 (m_saved_rows) := by
  obtain ⟨fd, F⟩ := T.c.def_ 20 (d := d_saved_rows) rfl
  refine ⟨fd, def_PD (N := N_saved_rows) F sc_saved_rows (fun cdv A outer s H E hr => ?_), t_glo_saved_rows T, F.kp, F.bindsN fun _ _ _ _ _ _ us hl => match us, hl with | [_, _], _ => rfl, lkF F⟩
  exact s_seq (s_set (i := 2) sc_saved_rows.nd rfl (.inl rfl) (i_callC c_pushes_of (hr.mono (by omega)) rfl (passes_call (takes_of rfl rfl rfl rfl) (fun _ _ _ _ h => h)) (i_cons (i_callC c_boxes_about (hr.mono (by omega)) rfl (passes_call (takes_of rfl rfl rfl rfl) (fun _ _ _ _ h => h)) (i_cons (iv 1) (i_cons (i_gi (t_WHOLE T)) (i_nil)))) (i_nil)))) (s_seq (s_set (i := 3) sc_saved_rows.nd rfl (.inl rfl) (i_callC c_blocks_of (hr.mono (by omega)) rfl (passes_call (takes_of rfl rfl rfl rfl) (fun _ _ _ _ h => h)) (i_cons (iv 0) (i_cons (iv 1) (i_nil))))) (s_seq (s_set (i := 4) sc_saved_rows.nd rfl (.inr rfl) (i_new (i_nil))) (s_seq (s_set (i := 5) sc_saved_rows.nd rfl (.inl rfl) (i_bf call_lenU sd_len rfl (t_len T) rfl (i_cons (iv 2) (i_nil)))) (s_seq (s_for (passes_of rfl) rfl (i_seq (iv 3)) (gn (i := 6) sc_saved_rows.nd) (s_seq (s_drop (i_append (iv 4) (iv 5))) (s_one (s_aug (i := 5) sc_saved_rows.nd rfl (.inl rfl) (i_bf call_lenU sd_len rfl (t_len T) rfl (i_cons (iv 6) (i_nil))) ip_add sd_ipAdd)))) (s_seq (s_for (passes_of rfl) rfl (i_seq (iv 3)) (gn (i := 6) sc_saved_rows.nd) (s_one (s_drop (i_extend (iv 2) (i_lc (own := [("row", 7)]) rfl sc_saved_rows.nd (i_seq (iv 6)) (blkOk_by (own := [("row", 7)]) (N := N_saved_rows) (sc := defScope s_saved_rows) (by decide +kernel)) (fun _ _ _ _ _ => gn (i := 7) sc_saved_rows.nd) (fun _ _ _ _ _ => ts_nil) (fun _ _ _ _ _ => i_callC c_led_anew (hr.mono (by omega)) rfl (passes_call takes0 (fun _ _ _ _ h => h)) (i_cons (iv 7) (i_cons (iv 4) (i_nil))))))))) (s_one (s_ret (i_ty call_tupleU sd_tuple rfl (t_tuple T) rfl (i_cons (iv 2) (i_nil))))))))))
theorem ok_with_rows (T : Top w K mg)  : Cl P w K mg base (xcK K) "with_rows" ["program", "routine", "rows"] 1 (m_with_rows) := by
  obtain ⟨fd, F⟩ := T.c.def_ 21 (d := d_with_rows) rfl
  refine ⟨fd, def_PD (N := N_with_rows) F sc_with_rows (fun cdv A outer s H E hr => ?_), t_glo_with_rows T, F.kp, F.bindsN fun _ _ _ _ _ _ us hl => match us, hl with | [_, _, _], _ => rfl, lkF F⟩
  exact s_seq (s_asg (iv 0) (g_tup rfl (gs_cons (gn (i := 3) sc_with_rows.nd) (gs_cons (gn (i := 4) sc_with_rows.nd) (gs_nil))))) (s_seq (s_asg (i_ix (hu_of hr) (iv 4) (iv 1)) (g_tup rfl (gs_cons (gn (i := 5) sc_with_rows.nd) (gs_cons (gn (i := 6) sc_with_rows.nd) (gs_nil))))) (s_one (s_ret (i_tup (i_cons (iv 3) (i_cons (i_tup (i_star (i_cut (iv 4) (o_none) (o_some (iv 1))) (i_cons (i_tup (i_cons (iv 5) (i_cons (iv 2) (i_nil)))) (i_star (i_cut (iv 4) (o_some (i_op op_addU sd_add (iv 1) (i_int))) (o_none)) (i_nil))))) (i_nil)))))))
theorem ok_put_in (T : Top w K mg) (c_with_rows : Cl P w K mg base (xcK K) "with_rows" ["program", "routine", "rows"] 1 (m_with_rows)) (c_saved_rows : Cl P w K mg base (xcK K) "saved_rows" ["rows", "saves"] 3 (m_saved_rows)) (c_rows_of : Cl P w K mg base (xcK K) "rows_of" ["program", "routine"] 1 (m_rows_of)) (c_check_saves : Cl P w K mg base (xcK K) "check_saves" ["program", "routine", "saves"] 4 (m_check_saves)) (c_check_number : Cl P w K mg base (xcK K) "check_number" ["program", "routine"] 2 (m_check_number)) (c_check_program : Cl P w K mg base (xcK K) "check_program" ["program"] 5 (m_check_program)) : Cl P w K mg base (xcK K) "put_in" ["program", "routine", "saves"] 6 (m_put_in) := by
  obtain ⟨fd, F⟩ := T.c.def_ 22 (d := d_put_in) rfl
  refine ⟨fd, def_PD (N := N_put_in) F sc_put_in (fun cdv A outer s H E hr => ?_), t_glo_put_in T, F.kp, F.bindsN fun _ _ _ _ _ _ us hl => match us, hl with | [_, _, _], _ => rfl, lkF F⟩
  exact s_seq (s_drop (i_callC c_check_program (hr.mono (by omega)) rfl (passes_call (takes_of rfl rfl rfl rfl) (fun _ _ _ _ h => h)) (i_cons (iv 0) (i_nil)))) (s_seq (s_drop (i_callC c_check_number (hr.mono (by omega)) rfl (passes_call (takes_of rfl rfl rfl rfl) (fun _ _ _ _ h => h)) (i_cons (iv 0) (i_cons (iv 1) (i_nil))))) (s_seq (s_drop (i_callC c_check_saves (hr.mono (by omega)) rfl (passes_call (takes_of rfl rfl rfl rfl) (fun _ _ _ _ h => h)) (i_cons (iv 0) (i_cons (iv 1) (i_cons (iv 2) (i_nil)))))) (s_seq (s_set (i := 3) sc_put_in.nd rfl (.inl rfl) (i_callC c_saved_rows (hr.mono (by omega)) rfl (passes_call (takes_of rfl rfl rfl rfl) (fun _ _ _ _ h => h)) (i_cons (i_callC c_rows_of (hr.mono (by omega)) rfl (passes_call (takes_of rfl rfl rfl rfl) (fun _ _ _ _ h => h)) (i_cons (iv 0) (i_cons (iv 1) (i_nil)))) (i_cons (iv 2) (i_nil))))) (s_seq (s_if (j_cmp op_gt sd_gt (i_bf call_lenU sd_len rfl (t_len T) rfl (i_cons (iv 3) (i_nil))) (i_gi (t_MOST_ROWS T)) (nomark _)) (s_one (s_raise (own_BadSaves T) rfl rfl (takes_of rfl rfl rfl rfl) (t_glo_BadSaves T) rfl (i_join (.cons (i_str) (.cons (i_fmt (i_gi (t_MOST_ROWS T))) (.cons (i_str) (.nil))))))) (s_nil)) (s_one (s_ret (i_callC c_with_rows (hr.mono (by omega)) rfl (passes_call (takes_of rfl rfl rfl rfl) (fun _ _ _ _ h => h)) (i_cons (iv 0) (i_cons (iv 1) (i_cons (iv 3) (i_nil)))))))))))
theorem ok_mix (T : Top w K mg)  : Cl P w K mg base (xcK K) "_law_mix" ["_law_script", "_law_seed"] 1 (m_mix) := by
  obtain ⟨fd, F⟩ := T.c.def_ 23 (d := d_mix) rfl
  refine ⟨fd, def_KD (N := N_mix) F sc_mix (fun cdv A outer s H E hr => ?_), t_glo_mix T, F.kp, F.bindsN fun _ _ _ _ _ _ us hl => match us, hl with | [_, _], _ => rfl, lkF F⟩
  exact s_seq (s_set (i := 2) sc_mix.nd rfl (.inl rfl) (iv 1)) (s_seq (s_for (passes_of rfl) rfl (i_seq (iv 0)) (gn (i := 3) sc_mix.nd) (s_one (s_set (i := 2) sc_mix.nd rfl (.inl rfl) (i_op op_mod sd_mod (i_op op_addU sd_add (i_op op_addU sd_add (i_op op_mulU sd_mul (iv 2) (i_int)) (i_op op_mod sd_mod (iv 3) (i_int))) (i_int)) (i_int))))) (s_one (s_ret (i_new (i_cons (iv 2) (i_cons (i_ty call_listU sd_listN rfl (t_list T) rfl (i_cons (iv 0) (i_nil))) (i_cons (i_int) (i_nil))))))))
theorem ok_next (T : Top w K mg)  : Cl P w K mg base (xcK K) "_law_next" ["_law_h", "_law_many"] 1 (m_next) := by
  obtain ⟨fd, F⟩ := T.c.def_ 24 (d := d_next) rfl
  refine ⟨fd, def_PD (N := N_next) F sc_next (fun cdv A outer s H E hr => ?_), t_glo_next T, F.kp, F.bindsN fun _ _ _ _ _ _ us hl => match us, hl with | [_, _], _ => rfl, lkF F⟩
  exact s_seq (s_set (i := 2) sc_next.nd rfl (.inl rfl) (i_op op_mod sd_mod (i_ix (hu_of hr) (iv 0) (i_int)) (i_bf (call_maxU rfl) sd_max rfl (t_max T) rfl (i_cons (i_int) (i_cons (i_bf call_lenU sd_len rfl (t_len T) rfl (i_cons (i_ix (hu_of hr) (iv 0) (i_int)) (i_nil))) (i_nil)))))) (s_seq (s_set (i := 3) sc_next.nd rfl (.inl rfl) (i_ifExp (j_cmp (op_neD (hu64 hr)) sd_ne (i_ix (hu_of hr) (iv 0) (i_int)) (i_ls (i_nil)) (nomark _)) (i_ix (hu_of hr) (i_ix (hu_of hr) (iv 0) (i_int)) (iv 2)) (i_int))) (s_seq (s_if (j_cmp op_ge sd_ge (iv 3) (i_op op_pow sd_pow (i_int) (i_int)) (nomark _)) (s_seq (s_asg (i_op op_fdiv sd_div (iv 3) (iv 1)) (g_sub (hu_of hr) (i_ix (hu_of hr) (iv 0) (i_int)) (iv 2))) (s_one (s_ret (i_op op_mod sd_mod (iv 3) (iv 1))))) (s_nil)) (s_seq (s_asg (i_op op_mod sd_mod (i_op op_addU sd_add (i_op op_addU sd_add (i_op op_mulU sd_mul (i_ix (hu_of hr) (iv 0) (i_int)) (i_int)) (i_op op_mulU sd_mul (iv 3) (i_int))) (i_int)) (i_int)) (g_sub (hu_of hr) (iv 0) (i_int))) (s_seq (s_asg (i_op op_addU sd_add (i_ix (hu_of hr) (iv 0) (i_int)) (i_int)) (g_sub (hu_of hr) (iv 0) (i_int))) (s_one (s_ret (i_op op_mod sd_mod (i_op op_fdiv sd_div (i_ix (hu_of hr) (iv 0) (i_int)) (i_int)) (iv 1))))))))
theorem okr_alike (T : Top w K mg)  : ∀ n : Nat, Cl P w K mg base (xcK K) "_law_alike" ["_law_found", "_law_due"] (1 + n) (mm_alike n)
  | 0 => by
    obtain ⟨fd, F⟩ := T.c.def_ 25 (d := d_alike) rfl
    exact ⟨fd, def_bad (N := N_alike) F sc_alike, t_glo_alike T, F.kp, F.bindsN fun _ _ _ _ _ _ us hl => match us, hl with | [_, _], _ => rfl, lkF F⟩
  | n + 1 => by
    have c_alike := okr_alike T  n
    obtain ⟨fd, F⟩ := T.c.def_ 25 (d := d_alike) rfl
    refine ⟨fd, def_PD (N := N_alike) (k := 1 + n) F sc_alike (fun cdv A outer s H E hr => ?_), t_glo_alike T, F.kp, F.bindsN fun _ _ _ _ _ _ us hl => match us, hl with | [_, _], _ => rfl, lkF F⟩
    exact s_seq (s_if (j_val (i_isa2 (t := .tuple) (u := .list) rfl (t_isinstance T) rfl (t_tuple T) rfl rfl (t_list T) rfl (iv 1))) (s_seq (s_if (PW.pt (j_or (j_not (j_val (i_isa2 (t := .tuple) (u := .list) rfl (t_isinstance T) rfl (t_tuple T) rfl rfl (t_list T) rfl (iv 0)))) (j_or1 (j_cmp (op_neD (hu64 hr)) sd_ne (i_isa (t := .list) rfl (t_isinstance T) rfl (t_list T) rfl (iv 0)) (i_isa (t := .list) rfl (t_isinstance T) rfl (t_list T) rfl (iv 1)) (nomark _))))) (s_one (s_ret (i_bl))) (s_nil)) (s_seq (s_if (j_cmp (op_neD (hu64 hr)) sd_ne (i_bf call_lenU sd_len rfl (t_len T) rfl (i_cons (iv 0) (i_nil))) (i_bf call_lenU sd_len rfl (t_len T) rfl (i_cons (iv 1) (i_nil))) (nomark _)) (s_one (s_ret (i_bl))) (s_nil)) (s_one (s_ret (i_cmp (op_eqD (hu64 hr)) sd_eq (i_lc (own := [("_law_k", 2)]) rfl sc_alike.nd (i_rng rfl (t_range T) (i_bf call_lenU sd_len rfl (t_len T) rfl (i_cons (iv 1) (i_nil)))) (blkOk_by (own := [("_law_k", 2)]) (N := N_alike) (sc := defScope s_alike) (by decide +kernel)) (fun _ _ _ _ _ => gn (i := 2) sc_alike.nd) (fun _ _ _ _ _ => ts_one (j_not (j_val (i_callC c_alike (hr.mono (by omega)) rfl (passes_call takes0 (fun _ _ _ _ h => h)) (i_cons (i_ix (hu_of hr) (iv 0) (iv 2)) (i_cons (i_ix (hu_of hr) (iv 1) (iv 2)) (i_nil))))))) (fun _ _ _ _ _ => iv 2)) (i_ls (i_nil)) (nomark _)))))) (s_nil)) (s_seq (s_if (j_cmp op_isNU sd_isN (iv 1) (i_non) (nomark _)) (s_one (s_ret (i_cmp op_isNU sd_isN (iv 0) (i_non) (nomark _)))) (s_nil)) (s_seq (s_if (j_val (i_isa (t := .str) rfl (t_isinstance T) rfl (t_str T) rfl (iv 1))) (s_one (s_ret (i_and (i_isa (t := .str) rfl (t_isinstance T) rfl (t_str T) rfl (iv 0)) (i_one (i_cmp (op_eqD (hu64 hr)) sd_eq (iv 0) (iv 1) (nomark _)))))) (s_nil)) (s_seq (s_if (PW.pt (j_or (j_val (i_isa (t := .bool) rfl (t_isinstance T) rfl (t_bool T) rfl (iv 1))) (j_or1 (j_val (i_isa (t := .bool) rfl (t_isinstance T) rfl (t_bool T) rfl (iv 0)))))) (s_one (s_ret (i_and (i_isa (t := .bool) rfl (t_isinstance T) rfl (t_bool T) rfl (iv 1)) (i_and (i_isa (t := .bool) rfl (t_isinstance T) rfl (t_bool T) rfl (iv 0)) (i_one (i_cmp (op_eqD (hu64 hr)) sd_eq (iv 0) (iv 1) (nomark _))))))) (s_nil)) (s_one (s_ret (i_and (i_isa (t := .int) rfl (t_isinstance T) rfl (t_int T) rfl (iv 0)) (i_one (i_cmp (op_eqD (hu64 hr)) sd_eq (iv 0) (iv 1) (nomark _)))))))))
theorem ok_alike (T : Top w K mg)  : Cl P w K mg base (xcK K) "_law_alike" ["_law_found", "_law_due"] 7 (m_alike) := okr_alike T  6
theorem ok_house (T : Top w K mg) (c_next : Cl P w K mg base (xcK K) "_law_next" ["_law_h", "_law_many"] 1 (m_next)) : Cl P w K mg base (xcK K) "_law_house" ["_law_h"] 2 (m_house) := by
  obtain ⟨fd, F⟩ := T.c.def_ 26 (d := d_house) rfl
  refine ⟨fd, def_PD (N := N_house) F sc_house (fun cdv A outer s H E hr => ?_), t_glo_house T, F.kp, F.bindsN fun _ _ _ _ _ _ us hl => match us, hl with | [_], _ => rfl, lkF F⟩
  exact s_seq (s_set (i := 1) sc_house.nd rfl (.inr rfl) (i_ix (hu_of hr) (i_ls (i_cons (i_int) (i_cons (i_int) (i_cons (i_int) (i_cons (i_int) (i_nil)))))) (i_callC c_next (hr.mono (by omega)) rfl (passes_call (takes_of rfl rfl rfl rfl) (fun _ _ _ _ h => h)) (i_cons (iv 0) (i_cons (i_int) (i_nil)))))) (s_seq (s_set (i := 2) sc_house.nd rfl (.inr rfl) (i_lc (own := [("_law_box", 3)]) rfl sc_house.nd (i_rng rfl (t_range T) (i_int)) (blkOk_by (own := [("_law_box", 3)]) (N := N_house) (sc := defScope s_house) (by decide +kernel)) (fun _ _ _ _ _ => gn (i := 3) sc_house.nd) (fun _ _ _ _ _ => ts_nil) (fun _ _ _ _ _ => i_op op_mulU sd_mul (i_callC c_next (hr.mono (by omega)) rfl (passes_call takes0 (fun _ _ _ _ h => h)) (i_cons (iv 0) (i_cons (iv 1) (i_nil)))) (i_ty call_intU sd_int rfl (t_int T) rfl (i_cons (i_or (i_cmp (op_eqD (hu64 hr)) sd_eq (iv 1) (i_int) (nomark _)) (i_one (i_cmp (op_eqD (hu64 hr)) sd_eq (i_callC c_next (hr.mono (by omega)) rfl (passes_call takes0 (fun _ _ _ _ h => h)) (i_cons (iv 0) (i_cons (i_int) (i_nil)))) (i_int) (nomark _)))) (i_nil)))))) (s_seq (s_set (i := 4) sc_house.nd rfl (.inr rfl) (i_callC c_next (hr.mono (by omega)) rfl (passes_call (takes_of rfl rfl rfl rfl) (fun _ _ _ _ h => h)) (i_cons (iv 0) (i_cons (i_int) (i_nil))))) (s_seq (s_set (i := 5) sc_house.nd rfl (.inl rfl) (i_ty call_tupleU sd_tuple rfl (t_tuple T) rfl (i_cons (i_cut (i_lc (own := [("_law_box", 3)]) rfl sc_house.nd (i_rng rfl (t_range T) (i_int)) (blkOk_by (own := [("_law_box", 3)]) (N := N_house) (sc := defScope s_house) (by decide +kernel)) (fun _ _ _ _ _ => gn (i := 3) sc_house.nd) (fun _ _ _ _ _ => ts_one (j_cmp (op_eqD (hu64 hr)) sd_eq (i_ix (hu_of hr) (iv 2) (iv 3)) (i_int) (nomark _))) (fun _ _ _ _ _ => iv 3)) (o_none) (o_some (i_op op_addU sd_add (i_int) (i_callC c_next (hr.mono (by omega)) rfl (passes_call (takes_of rfl rfl rfl rfl) (fun _ _ _ _ h => h)) (i_cons (iv 0) (i_cons (i_ix (hu_of hr) (i_ls (i_cons (i_int) (i_cons (i_int) (i_nil)))) (i_callC c_next (hr.mono (by omega)) rfl (passes_call (takes_of rfl rfl rfl rfl) (fun _ _ _ _ h => h)) (i_cons (iv 0) (i_cons (i_int) (i_nil))))) (i_nil))))))) (i_nil)))) (s_one (s_ret (i_tup (i_cons (iv 5) (i_cons (iv 4) (i_cons (i_ty call_tupleU sd_tuple rfl (t_tuple T) rfl (i_cons (i_lc (own := [("_law_box", 3)]) rfl sc_house.nd (i_rng rfl (t_range T) (i_int)) (blkOk_by (own := [("_law_box", 3)]) (N := N_house) (sc := defScope s_house) (by decide +kernel)) (fun _ _ _ _ _ => gn (i := 3) sc_house.nd) (fun _ _ _ _ _ => ts_one (PW.pt (j_and (j_cmp (op_eqD (hu64 hr)) sd_eq (i_ix (hu_of hr) (iv 2) (iv 3)) (i_int) (nomark _)) (j_and1 (j_cmp (op_neD (hu64 hr)) sd_ne (iv 3) (iv 4) (nomark _)))))) (fun _ _ _ _ _ => iv 3)) (i_nil))) (i_nil))))))))))
theorem ok_number (T : Top w K mg) (c_next : Cl P w K mg base (xcK K) "_law_next" ["_law_h", "_law_many"] 1 (m_next)) : Cl P w K mg base (xcK K) "_law_number" ["_law_h"] 2 (m_number) := by
  obtain ⟨fd, F⟩ := T.c.def_ 27 (d := d_number) rfl
  refine ⟨fd, def_PD (N := N_number) F sc_number (fun cdv A outer s H E hr => ?_), t_glo_number T, F.kp, F.bindsN fun _ _ _ _ _ _ us hl => match us, hl with | [_], _ => rfl, lkF F⟩
  exact s_one (s_ret (i_ix (hu_of hr) (i_ls (i_cons (i_callC c_next (hr.mono (by omega)) rfl (passes_call (takes_of rfl rfl rfl rfl) (fun _ _ _ _ h => h)) (i_cons (iv 0) (i_cons (i_int) (i_nil)))) (i_cons (i_callC c_next (hr.mono (by omega)) rfl (passes_call (takes_of rfl rfl rfl rfl) (fun _ _ _ _ h => h)) (i_cons (iv 0) (i_cons (i_int) (i_nil)))) (i_nil)))) (i_callC c_next (hr.mono (by omega)) rfl (passes_call (takes_of rfl rfl rfl rfl) (fun _ _ _ _ h => h)) (i_cons (iv 0) (i_cons (i_int) (i_nil))))))
theorem ok_simple (T : Top w K mg) (c_number : Cl P w K mg base (xcK K) "_law_number" ["_law_h"] 2 (m_number)) (c_next : Cl P w K mg base (xcK K) "_law_next" ["_law_h", "_law_many"] 1 (m_next)) : Cl P w K mg base (xcK K) "_law_simple" ["_law_h", "_law_e"] 3 (m_simple) := by
  obtain ⟨fd, F⟩ := T.c.def_ 28 (d := d_simple) rfl
  refine ⟨fd, def_PD (N := N_simple) F sc_simple (fun cdv A outer s H E hr => ?_), t_glo_simple T, F.kp, F.bindsN fun _ _ _ _ _ _ us hl => match us, hl with | [_, _], _ => rfl, lkF F⟩
  exact s_seq (s_setLc (i := 2) (own := [("_law_box", 3)]) rfl sc_simple.nd rfl rfl (sw_true rfl rfl rfl (by decide +kernel)) (i_rng rfl (t_range T) (i_int)) (blkOk_by (own := [("_law_box", 3)]) (N := N_simple) (sc := defScope s_simple) (by decide +kernel)) (fun _ _ _ _ _ => gn (i := 3) sc_simple.nd) (fun _ _ _ _ _ => ts_one (j_cmp (op_eqD (hu64 hr)) sd_eq (i_ix (hu_of hr) (i_ix (hu_of hr) (iv 1) (i_str)) (iv 3)) (i_str) (nomark _))) (fun _ _ _ _ _ => iv 3)) (s_seq (s_set (i := 4) sc_simple.nd rfl (.inl rfl) (i_ix (hu_of hr) (i_ix (hu_of hr) (iv 1) (i_str)) (i_callC c_next (hr.mono (by omega)) rfl (passes_call (takes_of rfl rfl rfl rfl) (fun _ _ _ _ h => h)) (i_cons (iv 0) (i_cons (i_bf call_lenU sd_len rfl (t_len T) rfl (i_cons (i_ix (hu_of hr) (iv 1) (i_str)) (i_nil))) (i_nil)))))) (s_seq (s_set (i := 5) sc_simple.nd rfl (.inl rfl) (i_callC c_next (hr.mono (by omega)) rfl (passes_call (takes_of rfl rfl rfl rfl) (fun _ _ _ _ h => h)) (i_cons (iv 0) (i_cons (i_int) (i_nil))))) (s_seq (s_if (PW.pt (j_or (j_cmp (op_eqD (hu64 hr)) sd_eq (iv 2) (i_ls (i_nil)) (nomark _)) (j_or1 (j_cmp (op_eqD (hu64 hr)) sd_eq (iv 5) (i_int) (nomark _))))) (s_one (s_set (i := 6) sc_simple.nd rfl (.inl rfl) (i_tup (i_cons (i_str) (i_cons (iv 4) (i_cons (i_callC c_number (hr.mono (by omega)) rfl (passes_call (takes_of rfl rfl rfl rfl) (fun _ _ _ _ h => h)) (i_cons (iv 0) (i_nil))) (i_nil))))))) (s_one (s_if (j_cmp (op_eqD (hu64 hr)) sd_eq (iv 5) (i_int) (nomark _)) (s_one (s_set (i := 6) sc_simple.nd rfl (.inl rfl) (i_tup (i_cons (i_str) (i_cons (i_ix (hu_of hr) (iv 2) (i_callC c_next (hr.mono (by omega)) rfl (passes_call (takes_of rfl rfl rfl rfl) (fun _ _ _ _ h => h)) (i_cons (iv 0) (i_cons (i_bf call_lenU sd_len rfl (t_len T) rfl (i_cons (iv 2) (i_nil))) (i_nil))))) (i_nil)))))) (s_one (s_if (j_cmp (op_eqD (hu64 hr)) sd_eq (iv 5) (i_int) (nomark _)) (s_seq (s_setLc (i := 7) (own := [("_law_box", 3)]) rfl sc_simple.nd rfl rfl (sw_true rfl rfl rfl (by decide +kernel)) (i_rng rfl (t_range T) (i_int)) (blkOk_by (own := [("_law_box", 3)]) (N := N_simple) (sc := defScope s_simple) (by decide +kernel)) (fun _ _ _ _ _ => gn (i := 3) sc_simple.nd) (fun _ _ _ _ _ => ts_one (j_cmp (op_neD (hu64 hr)) sd_ne (i_ix (hu_of hr) (i_ix (hu_of hr) (iv 1) (i_str)) (iv 3)) (i_str) (nomark _))) (fun _ _ _ _ _ => iv 3)) (s_one (s_set (i := 6) sc_simple.nd rfl (.inl rfl) (i_tup (i_cons (i_str) (i_cons (iv 4) (i_cons (i_ix (hu_of hr) (iv 7) (i_callC c_next (hr.mono (by omega)) rfl (passes_call (takes_of rfl rfl rfl rfl) (fun _ _ _ _ h => h)) (i_cons (iv 0) (i_cons (i_bf call_lenU sd_len rfl (t_len T) rfl (i_cons (iv 7) (i_nil))) (i_nil))))) (i_nil)))))))) (s_seq (s_par (i := 8) (j := 9) rfl sc_simple.nd rfl rfl (by decide) rfl rfl (i_cons (i_ix (hu_of hr) (iv 2) (i_callC c_next (hr.mono (by omega)) rfl (passes_call (takes_of rfl rfl rfl rfl) (fun _ _ _ _ h => h)) (i_cons (iv 0) (i_cons (i_bf call_lenU sd_len rfl (t_len T) rfl (i_cons (iv 2) (i_nil))) (i_nil))))) (i_cons (i_ix (hu_of hr) (iv 2) (i_callC c_next (hr.mono (by omega)) rfl (passes_call (takes_of rfl rfl rfl rfl) (fun _ _ _ _ h => h)) (i_cons (iv 0) (i_cons (i_bf call_lenU sd_len rfl (t_len T) rfl (i_cons (iv 2) (i_nil))) (i_nil))))) (i_nil))) rfl) (s_one (s_set (i := 6) sc_simple.nd rfl (.inl rfl) (i_tup (i_cons (i_ix (hu_of hr) (i_ls (i_cons (i_str) (i_cons (i_str) (i_nil)))) (i_op op_mod sd_mod (iv 5) (i_int))) (i_cons (iv 4) (i_cons (iv 8) (i_cons (iv 9) (i_nil)))))))))))))) (s_seq (s_drop (i_append (i_ix (hu_of hr) (iv 1) (i_str)) (iv 6))) (s_one (s_if (j_cmp (op_neD (hu64 hr)) sd_ne (i_ix (hu_of hr) (iv 6) (i_int)) (i_str) (nomark _)) (s_one (s_asg (i_ifExp (j_cmp (op_eqD (hu64 hr)) sd_eq (i_ix (hu_of hr) (iv 6) (i_int)) (i_str) (nomark _)) (i_ix (hu_of hr) (i_ix (hu_of hr) (iv 1) (i_str)) (i_ix (hu_of hr) (iv 6) (i_int))) (i_str)) (g_sub (hu_of hr) (i_ix (hu_of hr) (iv 1) (i_str)) (iv 4)))) (s_nil)))))))
theorem ok_calling (T : Top w K mg) (c_next : Cl P w K mg base (xcK K) "_law_next" ["_law_h", "_law_many"] 1 (m_next)) (c_number : Cl P w K mg base (xcK K) "_law_number" ["_law_h"] 2 (m_number)) : Cl P w K mg base (xcK K) "_law_calling" ["_law_h", "_law_e"] 3 (m_calling) := by
  obtain ⟨fd, F⟩ := T.c.def_ 29 (d := d_calling) rfl
  refine ⟨fd, def_PD (N := N_calling) F sc_calling (fun cdv A outer s H E hr => ?_), t_glo_calling T, F.kp, F.bindsN fun _ _ _ _ _ _ us hl => match us, hl with | [_, _], _ => rfl, lkF F⟩
  exact s_seq (s_set (i := 2) sc_calling.nd rfl (.inl rfl) (i_callC c_next (hr.mono (by omega)) rfl (passes_call (takes_of rfl rfl rfl rfl) (fun _ _ _ _ h => h)) (i_cons (iv 0) (i_cons (i_bf call_lenU sd_len rfl (t_len T) rfl (i_cons (i_ix (hu_of hr) (iv 1) (i_str)) (i_nil))) (i_nil))))) (s_seq (s_asg (i_ix (hu_of hr) (i_ix (hu_of hr) (iv 1) (i_str)) (i_ix (hu_of hr) (i_ix (hu_of hr) (iv 1) (i_str)) (iv 2))) (g_tup rfl (gs_cons (gn (i := 3) sc_calling.nd) (gs_cons (gn (i := 4) sc_calling.nd) (gs_cons (gn (i := 5) sc_calling.nd) (gs_nil)))))) (s_seq (s_set (i := 6) sc_calling.nd rfl (.inr rfl) (i_lc (own := [("_law_box", 7)]) rfl sc_calling.nd (i_rng rfl (t_range T) (i_int)) (blkOk_by (own := [("_law_box", 7)]) (N := N_calling) (sc := defScope s_calling) (by decide +kernel)) (fun _ _ _ _ _ => gn (i := 7) sc_calling.nd) (fun _ _ _ _ _ => ts_one (j_cmp op_notIn_seq sd_notIn (iv 7) (i_ix (hu_of hr) (iv 1) (i_str)) rfl)) (fun _ _ _ _ _ => iv 7))) (s_seq (s_if (j_cmp (op_neD (hu64 hr)) sd_ne (i_lc (own := [("_law_box", 7)]) rfl sc_calling.nd (i_seq (i_op op_addU sd_add (iv 3) (i_tup (i_cons (iv 4) (i_nil))))) (blkOk_by (own := [("_law_box", 7)]) (N := N_calling) (sc := defScope s_calling) (by decide +kernel)) (fun _ _ _ _ _ => gn (i := 7) sc_calling.nd) (fun _ _ _ _ _ => ts_one (j_cmp op_in_seq sd_in (iv 7) (iv 6) rfl)) (fun _ _ _ _ _ => iv 7)) (i_ls (i_nil)) (nomark _)) (s_one (s_retN)) (s_nil)) (s_seq (s_for (passes_of rfl) rfl (i_seq (iv 3)) (gn (i := 7) sc_calling.nd) (s_one (s_if (j_cmp (op_neD (hu64 hr)) sd_ne (i_ix (hu_of hr) (i_ix (hu_of hr) (iv 1) (i_str)) (iv 7)) (i_str) (nomark _)) (s_seq (s_drop (i_append (i_ix (hu_of hr) (iv 1) (i_str)) (i_tup (i_cons (i_str) (i_cons (iv 7) (i_cons (i_callC c_number (hr.mono (by omega)) rfl (passes_call (takes_of rfl rfl rfl rfl) (fun _ _ _ _ h => h)) (i_cons (iv 0) (i_nil))) (i_nil))))))) (s_one (s_asg (i_str) (g_sub (hu_of hr) (i_ix (hu_of hr) (iv 1) (i_str)) (iv 7))))) (s_nil)))) (s_seq (s_setLc (i := 8) (own := [("_law_box", 7)]) rfl sc_calling.nd rfl rfl (sw_true rfl rfl rfl (by decide +kernel)) (i_rng rfl (t_range T) (i_int)) (blkOk_by (own := [("_law_box", 7)]) (N := N_calling) (sc := defScope s_calling) (by decide +kernel)) (fun _ _ _ _ _ => gn (i := 7) sc_calling.nd) (fun _ _ _ _ _ => ts_one (PW.pt (j_and (j_cmp op_notIn_seq sd_notIn (iv 7) (iv 5) rfl) (j_and (j_cmp (op_neD (hu64 hr)) sd_ne (i_ix (hu_of hr) (i_ix (hu_of hr) (iv 1) (i_str)) (iv 7)) (i_str) (nomark _)) (j_and1 (j_cmp (op_neD (hu64 hr)) sd_ne (iv 7) (iv 4) (nomark _))))))) (fun _ _ _ _ _ => iv 7)) (s_seq (s_setLc (i := 9) (own := [("_law_box", 7)]) rfl sc_calling.nd rfl rfl (sw_true rfl rfl rfl (by decide +kernel)) (i_seq (iv 8)) (blkOk_by (own := [("_law_box", 7)]) (N := N_calling) (sc := defScope s_calling) (by decide +kernel)) (fun _ _ _ _ _ => gn (i := 7) sc_calling.nd) (fun _ _ _ _ _ => ts_one (PW.pt (j_or (j_cmp op_in_seq sd_in (iv 7) (iv 6) rfl) (j_or1 (j_cmp (op_eqD (hu64 hr)) sd_eq (i_callC c_next (hr.mono (by omega)) rfl (passes_call takes0 (fun _ _ _ _ h => h)) (i_cons (iv 0) (i_cons (i_int) (i_nil)))) (i_int) (nomark _)))))) (fun _ _ _ _ _ => iv 7)) (s_seq (s_drop (i_extend (i_ix (hu_of hr) (iv 1) (i_str)) (i_lc (own := [("_law_box", 7)]) rfl sc_calling.nd (i_seq (iv 9)) (blkOk_by (own := [("_law_box", 7)]) (N := N_calling) (sc := defScope s_calling) (by decide +kernel)) (fun _ _ _ _ _ => gn (i := 7) sc_calling.nd) (fun _ _ _ _ _ => ts_nil) (fun _ _ _ _ _ => i_tup (i_cons (i_str) (i_cons (iv 7) (i_nil))))))) (s_seq (s_drop (i_append (i_ix (hu_of hr) (iv 1) (i_str)) (i_tup (i_cons (i_str) (i_cons (iv 2) (i_nil)))))) (s_seq (s_drop (i_extend (i_ix (hu_of hr) (iv 1) (i_str)) (i_lc (own := [("_law_box", 7)]) rfl sc_calling.nd (i_rev rfl (t_reversed T) (iv 9)) (blkOk_by (own := [("_law_box", 7)]) (N := N_calling) (sc := defScope s_calling) (by decide +kernel)) (fun _ _ _ _ _ => gn (i := 7) sc_calling.nd) (fun _ _ _ _ _ => ts_nil) (fun _ _ _ _ _ => i_tup (i_cons (i_str) (i_cons (iv 7) (i_nil))))))) (s_seq (s_for (passes_of rfl) rfl (i_seq (iv 8)) (gn (i := 7) sc_calling.nd) (s_one (s_asg (i_ifExp (j_cmp op_in_seq sd_in (iv 7) (iv 9) rfl) (i_ix (hu_of hr) (i_ix (hu_of hr) (iv 1) (i_str)) (iv 7)) (i_str)) (g_sub (hu_of hr) (i_ix (hu_of hr) (iv 1) (i_str)) (iv 7))))) (s_one (s_asg (i_str) (g_sub (hu_of hr) (i_ix (hu_of hr) (iv 1) (i_str)) (iv 4))))))))))))))
theorem ok_zeroed (T : Top w K mg) (c_next : Cl P w K mg base (xcK K) "_law_next" ["_law_h", "_law_many"] 1 (m_next)) (c_simple : Cl P w K mg base (xcK K) "_law_simple" ["_law_h", "_law_e"] 3 (m_simple)) : Cl P w K mg base (xcK K) "_law_zeroed" ["_law_h", "_law_e"] 4 (m_zeroed) := by
  obtain ⟨fd, F⟩ := T.c.def_ 30 (d := d_zeroed) rfl
  refine ⟨fd, def_PD (N := N_zeroed) F sc_zeroed (fun cdv A outer s H E hr => ?_), t_glo_zeroed T, F.kp, F.bindsN fun _ _ _ _ _ _ us hl => match us, hl with | [_, _], _ => rfl, lkF F⟩
  exact s_seq (s_setLc (i := 2) (own := [("_law_box", 3)]) rfl sc_zeroed.nd rfl rfl (sw_true rfl rfl rfl (by decide +kernel)) (i_rng rfl (t_range T) (i_int)) (blkOk_by (own := [("_law_box", 3)]) (N := N_zeroed) (sc := defScope s_zeroed) (by decide +kernel)) (fun _ _ _ _ _ => gn (i := 3) sc_zeroed.nd) (fun _ _ _ _ _ => ts_one (j_cmp (op_eqD (hu64 hr)) sd_eq (i_ix (hu_of hr) (i_ix (hu_of hr) (iv 1) (i_str)) (iv 3)) (i_str) (nomark _))) (fun _ _ _ _ _ => iv 3)) (s_seq (s_if (j_cmp (op_eqD (hu64 hr)) sd_eq (iv 2) (i_ls (i_nil)) (nomark _)) (s_one (s_retN)) (s_nil)) (s_seq (s_set (i := 4) sc_zeroed.nd rfl (.inl rfl) (i_ix (hu_of hr) (iv 2) (i_callC c_next (hr.mono (by omega)) rfl (passes_call (takes_of rfl rfl rfl rfl) (fun _ _ _ _ h => h)) (i_cons (iv 0) (i_cons (i_bf call_lenU sd_len rfl (t_len T) rfl (i_cons (iv 2) (i_nil))) (i_nil)))))) (s_seq (s_set (i := 5) sc_zeroed.nd rfl (.inl rfl) (i_bf call_lenU sd_len rfl (t_len T) rfl (i_cons (i_ix (hu_of hr) (iv 1) (i_str)) (i_nil)))) (s_seq (s_drop (i_append (i_ix (hu_of hr) (iv 1) (i_str)) (i_tup (i_cons (i_str) (i_cons (iv 4) (i_cons (i_int) (i_nil))))))) (s_seq (s_set (i := 6) sc_zeroed.nd rfl (.inl rfl) (i_ty call_listU sd_list rfl (t_list T) rfl (i_cons (i_ix (hu_of hr) (iv 1) (i_str)) (i_nil)))) (s_seq (s_for (passes_of rfl) rfl (i_rng rfl (t_range T) (i_op op_addU sd_add (i_int) (i_callC c_next (hr.mono (by omega)) rfl (passes_call (takes_of rfl rfl rfl rfl) (fun _ _ _ _ h => h)) (i_cons (iv 0) (i_cons (i_int) (i_nil)))))) (gn (i := 7) sc_zeroed.nd) (s_one (s_drop (i_callC c_simple (hr.mono (by omega)) rfl (passes_call (takes_of rfl rfl rfl rfl) (fun _ _ _ _ h => h)) (i_cons (iv 0) (i_cons (iv 1) (i_nil))))))) (s_seq (s_if (PW.pt (j_and (j_cmp (op_eqD (hu64 hr)) sd_eq (i_callC c_next (hr.mono (by omega)) rfl (passes_call (takes_of rfl rfl rfl rfl) (fun _ _ _ _ h => h)) (i_cons (iv 0) (i_cons (i_int) (i_nil)))) (i_int) (nomark _)) (j_and (j_cmp (op_eqD (hu64 hr)) sd_eq (i_ix (hu_of hr) (i_ix (hu_of hr) (iv 1) (i_str)) (iv 4)) (i_str) (nomark _)) (j_and1 (j_cmp (op_eqD (hu64 hr)) sd_eq (iv 6) (i_ix (hu_of hr) (iv 1) (i_str)) (nomark _)))))) (s_one (s_drop (i_append (i_ix (hu_of hr) (iv 1) (i_str)) (i_tup (i_cons (i_str) (i_cons (iv 5) (i_nil))))))) (s_nil)) (s_seq (s_asg (i_tup (i_cons (i_str) (i_cons (iv 4) (i_cons (i_bf call_lenU sd_len rfl (t_len T) rfl (i_cons (i_ix (hu_of hr) (iv 1) (i_str)) (i_nil))) (i_nil))))) (g_sub (hu_of hr) (i_ix (hu_of hr) (iv 1) (i_str)) (iv 5))) (s_one (s_for (passes_of rfl) rfl (i_rng rfl (t_range T) (i_int)) (gn (i := 3) sc_zeroed.nd) (s_one (s_if (j_cmp (op_neD (hu64 hr)) sd_ne (i_ix (hu_of hr) (i_ix (hu_of hr) (iv 1) (i_str)) (iv 3)) (i_ix (hu_of hr) (iv 6) (iv 3)) (nomark _)) (s_one (s_asg (i_str) (g_sub (hu_of hr) (i_ix (hu_of hr) (iv 1) (i_str)) (iv 3)))) (s_nil)))))))))))))
theorem ok_kept (T : Top w K mg) (c_number : Cl P w K mg base (xcK K) "_law_number" ["_law_h"] 2 (m_number)) (c_next : Cl P w K mg base (xcK K) "_law_next" ["_law_h", "_law_many"] 1 (m_next)) (c_calling : Cl P w K mg base (xcK K) "_law_calling" ["_law_h", "_law_e"] 3 (m_calling)) (c_zeroed : Cl P w K mg base (xcK K) "_law_zeroed" ["_law_h", "_law_e"] 4 (m_zeroed)) (c_simple : Cl P w K mg base (xcK K) "_law_simple" ["_law_h", "_law_e"] 3 (m_simple)) : Cl P w K mg base (xcK K) "_law_kept" ["_law_h", "_law_houses", "_law_owners", "_law_number_here", "_law_most"] 5 (m_kept) := by
  obtain ⟨fd, F⟩ := T.c.def_ 31 (d := d_kept) rfl
  refine ⟨fd, def_PD (N := N_kept) F sc_kept (fun cdv A outer s H E hr => ?_), t_glo_kept T, F.kp, F.bindsN fun _ _ _ _ _ _ us hl => match us, hl with | [_, _, _, _, _], _ => rfl, lkF F⟩
  exact s_seq (s_asg (i_ix (hu_of hr) (iv 1) (i_ix (hu_of hr) (iv 2) (iv 3))) (g_tup rfl (gs_cons (gn (i := 5) sc_kept.nd) (gs_cons (gn (i := 6) sc_kept.nd) (gs_cons (gn (i := 7) sc_kept.nd) (gs_nil)))))) (s_seq (s_set (i := 8) sc_kept.nd rfl (.inr rfl) (i_lc (own := [("_law_box", 9)]) rfl sc_kept.nd (i_seq (iv 7)) (blkOk_by (own := [("_law_box", 9)]) (N := N_kept) (sc := defScope s_kept) (by decide +kernel)) (fun _ _ _ _ _ => gn (i := 9) sc_kept.nd) (fun _ _ _ _ _ => ts_one (j_cmp (op_eqD (hu64 hr)) sd_eq (i_callC c_next (hr.mono (by omega)) rfl (passes_call takes0 (fun _ _ _ _ h => h)) (i_cons (iv 0) (i_cons (i_int) (i_nil)))) (i_int) (nomark _))) (fun _ _ _ _ _ => iv 9))) (s_seq (s_set (i := 10) sc_kept.nd rfl (.inl rfl) (i_dks (d_cons (i_lcN (own := [("_law_box", 9)]) rfl sc_kept.nd (i_seq (iv 8)) (blkOk_by (own := [("_law_box", 9)]) (N := N_kept) (sc := defScope s_kept) (by decide +kernel)) (fun _ _ _ _ _ => gn (i := 9) sc_kept.nd) (fun _ _ _ _ _ => ts_nil) (fun _ _ _ _ _ => i_tup (i_cons (i_str) (i_cons (iv 9) (i_nil))))) (d_cons (iv 1) (d_cons (iv 2) (d_nil)))))) (s_seq (s_asg (i_lcN (own := [("_law_box", 9)]) rfl sc_kept.nd (i_rng rfl (t_range T) (i_int)) (blkOk_by (own := [("_law_box", 9)]) (N := N_kept) (sc := defScope s_kept) (by decide +kernel)) (fun _ _ _ _ _ => gn (i := 9) sc_kept.nd) (fun _ _ _ _ _ => ts_nil) (fun _ _ _ _ _ => i_ifExp (j_cmp op_in_seq sd_in (iv 9) (iv 5) rfl) (i_str) (i_ifExp (j_cmp op_in_seq sd_in (iv 9) (iv 7) rfl) (i_ty call_strU sd_str rfl (t_str T) rfl (i_cons (iv 9) (i_nil))) (i_str)))) (g_sub (hu_of hr) (iv 10) (i_str))) (s_seq (s_asg (i_lc (own := [("_law_box", 9)]) rfl sc_kept.nd (i_rng rfl (t_range T) (i_int)) (blkOk_by (own := [("_law_box", 9)]) (N := N_kept) (sc := defScope s_kept) (by decide +kernel)) (fun _ _ _ _ _ => gn (i := 9) sc_kept.nd) (fun _ _ _ _ _ => ts_one (PW.pt (j_or (j_cmp op_notIn_seq sd_notIn (iv 9) (iv 7) rfl) (j_or1 (j_cmp op_in_seq sd_in (iv 9) (iv 8) rfl))))) (fun _ _ _ _ _ => iv 9)) (g_sub (hu_of hr) (iv 10) (i_str))) (s_seq (s_for (passes_of rfl) rfl (i_rng rfl (t_range T) (i_callC c_next (hr.mono (by omega)) rfl (passes_call (takes_of rfl rfl rfl rfl) (fun _ _ _ _ h => h)) (i_cons (iv 0) (i_cons (i_op op_addU sd_add (iv 4) (i_int)) (i_nil))))) (gn (i := 11) sc_kept.nd) (s_seq (s_set (i := 12) sc_kept.nd rfl (.inl rfl) (i_callC c_next (hr.mono (by omega)) rfl (passes_call (takes_of rfl rfl rfl rfl) (fun _ _ _ _ h => h)) (i_cons (iv 0) (i_cons (i_int) (i_nil))))) (s_one (s_if (j_cmp op_lt sd_lt (iv 12) (i_int) (nomark _)) (s_one (s_drop (i_callC c_calling (hr.mono (by omega)) rfl (passes_call (takes_of rfl rfl rfl rfl) (fun _ _ _ _ h => h)) (i_cons (iv 0) (i_cons (iv 10) (i_nil)))))) (s_one (s_if (j_cmp (op_eqD (hu64 hr)) sd_eq (iv 12) (i_int) (nomark _)) (s_one (s_drop (i_callC c_zeroed (hr.mono (by omega)) rfl (passes_call (takes_of rfl rfl rfl rfl) (fun _ _ _ _ h => h)) (i_cons (iv 0) (i_cons (iv 10) (i_nil)))))) (s_one (s_drop (i_callC c_simple (hr.mono (by omega)) rfl (passes_call (takes_of rfl rfl rfl rfl) (fun _ _ _ _ h => h)) (i_cons (iv 0) (i_cons (iv 10) (i_nil)))))))))))) (s_seq (s_if (j_cmp (op_neD (hu64 hr)) sd_ne (i_ix (hu_of hr) (i_ix (hu_of hr) (iv 10) (i_str)) (iv 6)) (i_str) (nomark _)) (s_one (s_drop (i_append (i_ix (hu_of hr) (iv 10) (i_str)) (i_tup (i_cons (i_str) (i_cons (iv 6) (i_cons (i_callC c_number (hr.mono (by omega)) rfl (passes_call (takes_of rfl rfl rfl rfl) (fun _ _ _ _ h => h)) (i_cons (iv 0) (i_nil))) (i_nil)))))))) (s_nil)) (s_seq (s_set (i := 13) sc_kept.nd rfl (.inl rfl) (i_op op_addU sd_add (i_op op_addU sd_add (i_ix (hu_of hr) (iv 10) (i_str)) (i_lc (own := [("_law_box", 9)]) rfl sc_kept.nd (i_rev rfl (t_reversed T) (iv 8)) (blkOk_by (own := [("_law_box", 9)]) (N := N_kept) (sc := defScope s_kept) (by decide +kernel)) (fun _ _ _ _ _ => gn (i := 9) sc_kept.nd) (fun _ _ _ _ _ => ts_nil) (fun _ _ _ _ _ => i_tup (i_cons (i_str) (i_cons (iv 9) (i_nil)))))) (i_ls (i_cons (i_tup (i_cons (i_str) (i_nil))) (i_nil))))) (s_seq (s_if (j_cmp op_gt sd_gt (i_bf call_lenU sd_len rfl (t_len T) rfl (i_cons (iv 13) (i_nil))) (i_int) (nomark _)) (s_one (s_set (i := 13) sc_kept.nd rfl (.inl rfl) (i_ls (i_cons (i_tup (i_cons (i_str) (i_cons (iv 6) (i_cons (i_int) (i_nil))))) (i_cons (i_tup (i_cons (i_str) (i_nil))) (i_nil)))))) (s_nil)) (s_one (s_ret (i_tup (i_cons (i_ix (hu_of hr) (iv 2) (iv 3)) (i_cons (i_ty call_tupleU sd_tuple rfl (t_tuple T) rfl (i_cons (iv 13) (i_nil))) (i_nil))))))))))))))
theorem ok_program (T : Top w K mg) (c_kept : Cl P w K mg base (xcK K) "_law_kept" ["_law_h", "_law_houses", "_law_owners", "_law_number_here", "_law_most"] 5 (m_kept)) (c_next : Cl P w K mg base (xcK K) "_law_next" ["_law_h", "_law_many"] 1 (m_next)) (c_house : Cl P w K mg base (xcK K) "_law_house" ["_law_h"] 2 (m_house)) : Cl P w K mg base (xcK K) "_law_program" ["_law_h", "_law_most"] 6 (m_program) := by
  obtain ⟨fd, F⟩ := T.c.def_ 32 (d := d_program) rfl
  refine ⟨fd, def_PD (N := N_program) F sc_program (fun cdv A outer s H E hr => ?_), t_glo_program T, F.kp, F.bindsN fun _ _ _ _ _ _ us hl => match us, hl with | [_, _], _ => rfl, lkF F⟩
  exact s_seq (s_set (i := 2) sc_program.nd rfl (.inr rfl) (i_ty call_tupleU sd_tuple rfl (t_tuple T) rfl (i_cons (i_lc (own := [("_law_k", 3)]) rfl sc_program.nd (i_rng rfl (t_range T) (i_op op_addU sd_add (i_int) (i_callC c_next (hr.mono (by omega)) rfl (passes_call (takes_of rfl rfl rfl rfl) (fun _ _ _ _ h => h)) (i_cons (iv 0) (i_cons (i_int) (i_nil)))))) (blkOk_by (own := [("_law_k", 3)]) (N := N_program) (sc := defScope s_program) (by decide +kernel)) (fun _ _ _ _ _ => gn (i := 3) sc_program.nd) (fun _ _ _ _ _ => ts_nil) (fun _ _ _ _ _ => i_callC c_house (hr.mono (by omega)) rfl (passes_call takes0 (fun _ _ _ _ h => h)) (i_cons (iv 0) (i_nil)))) (i_nil)))) (s_seq (s_set (i := 4) sc_program.nd rfl (.inr rfl) (i_lc (own := [("_law_k", 3)]) rfl sc_program.nd (i_rng rfl (t_range T) (i_op op_addU sd_add (i_int) (i_callC c_next (hr.mono (by omega)) rfl (passes_call (takes_of rfl rfl rfl rfl) (fun _ _ _ _ h => h)) (i_cons (iv 0) (i_cons (iv 1) (i_nil)))))) (blkOk_by (own := [("_law_k", 3)]) (N := N_program) (sc := defScope s_program) (by decide +kernel)) (fun _ _ _ _ _ => gn (i := 3) sc_program.nd) (fun _ _ _ _ _ => ts_nil) (fun _ _ _ _ _ => i_callC c_next (hr.mono (by omega)) rfl (passes_call takes0 (fun _ _ _ _ h => h)) (i_cons (iv 0) (i_cons (i_bf call_lenU sd_len rfl (t_len T) rfl (i_cons (iv 2) (i_nil))) (i_nil)))))) (s_seq (s_set (i := 5) sc_program.nd rfl (.inr rfl) (i_ix (hu_of hr) (i_ls (i_cons (i_int) (i_cons (i_int) (i_nil)))) (i_callC c_next (hr.mono (by omega)) rfl (passes_call (takes_of rfl rfl rfl rfl) (fun _ _ _ _ h => h)) (i_cons (iv 0) (i_cons (i_int) (i_nil)))))) (s_one (s_ret (i_tup (i_cons (iv 2) (i_cons (i_ty call_tupleU sd_tuple rfl (t_tuple T) rfl (i_cons (i_lc (own := [("_law_number_here", 6)]) rfl sc_program.nd (i_rng rfl (t_range T) (i_bf call_lenU sd_len rfl (t_len T) rfl (i_cons (iv 4) (i_nil)))) (blkOk_by (own := [("_law_number_here", 6)]) (N := N_program) (sc := defScope s_program) (by decide +kernel)) (fun _ _ _ _ _ => gn (i := 6) sc_program.nd) (fun _ _ _ _ _ => ts_nil) (fun _ _ _ _ _ => i_callC c_kept (hr.mono (by omega)) rfl (passes_call takes0 (fun _ _ _ _ h => h)) (i_cons (iv 0) (i_cons (iv 2) (i_cons (iv 4) (i_cons (iv 6) (i_cons (iv 5) (i_nil)))))))) (i_nil))) (i_nil))))))))
theorem ok_wild_row (T : Top w K mg) (c_next : Cl P w K mg base (xcK K) "_law_next" ["_law_h", "_law_many"] 1 (m_next)) (c_number : Cl P w K mg base (xcK K) "_law_number" ["_law_h"] 2 (m_number)) : Cl P w K mg base (xcK K) "_law_wild_row" ["_law_h", "_law_rows", "_law_routines"] 3 (m_wild_row) := by
  obtain ⟨fd, F⟩ := T.c.def_ 33 (d := d_wild_row) rfl
  refine ⟨fd, def_PD (N := N_wild_row) F sc_wild_row (fun cdv A outer s H E hr => ?_), t_glo_wild_row T, F.kp, F.bindsN fun _ _ _ _ _ _ us hl => match us, hl with | [_, _, _], _ => rfl, lkF F⟩
  exact s_seq (s_set (i := 3) sc_wild_row.nd rfl (.inl rfl) (i_ls (i_cons (i_str) (i_cons (i_str) (i_cons (i_str) (i_cons (i_str) (i_cons (i_str) (i_cons (i_str) (i_cons (i_str) (i_cons (i_str) (i_cons (i_str) (i_cons (i_str) (i_cons (i_str) (i_cons (i_str) (i_cons (i_str) (i_cons (i_str) (i_nil))))))))))))))))) (s_seq (s_set (i := 3) sc_wild_row.nd rfl (.inl rfl) (i_ix (hu_of hr) (iv 3) (i_callC c_next (hr.mono (by omega)) rfl (passes_call (takes_of rfl rfl rfl rfl) (fun _ _ _ _ h => h)) (i_cons (iv 0) (i_cons (i_int) (i_nil)))))) (s_seq (s_setLc (i := 4) (own := [("_law_k", 5)]) rfl sc_wild_row.nd rfl rfl (sw_true rfl rfl rfl (by decide +kernel)) (i_rng rfl (t_range T) (i_int)) (blkOk_by (own := [("_law_k", 5)]) (N := N_wild_row) (sc := defScope s_wild_row) (by decide +kernel)) (fun _ _ _ _ _ => gn (i := 5) sc_wild_row.nd) (fun _ _ _ _ _ => ts_nil) (fun _ _ _ _ _ => i_callC c_next (hr.mono (by omega)) rfl (passes_call takes0 (fun _ _ _ _ h => h)) (i_cons (iv 0) (i_cons (i_int) (i_nil))))) (s_seq (s_if (j_cmp op_in_seq sd_in (iv 3) (i_tup (i_cons (i_str) (i_cons (i_str) (i_cons (i_str) (i_cons (i_str) (i_cons (i_str) (i_cons (i_str) (i_nil)))))))) rfl) (s_one (s_ret (i_op op_addU sd_add (i_tup (i_cons (iv 3) (i_nil))) (i_ty call_tupleU sd_tuple rfl (t_tuple T) rfl (i_cons (i_cut (iv 4) (o_none) (o_some (i_get2 (hu_of hr) (i_dc (d_cons (i_int) (d_cons (i_int) (d_cons (i_int) (d_nil))))) (iv 3) (i_int) (m2_of rfl rfl rfl rfl)))) (i_nil)))))) (s_nil)) (s_seq (s_if (j_cmp (op_eqD (hu64 hr)) sd_eq (iv 3) (i_str) (nomark _)) (s_one (s_ret (i_tup (i_cons (iv 3) (i_cons (i_ix (hu_of hr) (iv 4) (i_int)) (i_cons (i_callC c_number (hr.mono (by omega)) rfl (passes_call (takes_of rfl rfl rfl rfl) (fun _ _ _ _ h => h)) (i_cons (iv 0) (i_nil))) (i_nil))))))) (s_nil)) (s_seq (s_if (j_cmp (op_eqD (hu64 hr)) sd_eq (iv 3) (i_str) (nomark _)) (s_one (s_ret (i_tup (i_cons (iv 3) (i_cons (i_ix (hu_of hr) (iv 4) (i_int)) (i_cons (i_callC c_next (hr.mono (by omega)) rfl (passes_call (takes_of rfl rfl rfl rfl) (fun _ _ _ _ h => h)) (i_cons (iv 0) (i_cons (iv 1) (i_nil)))) (i_nil))))))) (s_nil)) (s_one (s_ret (i_ix (hu_of hr) (i_dc (d_cons (i_tup (i_cons (i_str) (i_cons (i_callC c_next (hr.mono (by omega)) rfl (passes_call (takes_of rfl rfl rfl rfl) (fun _ _ _ _ h => h)) (i_cons (iv 0) (i_cons (iv 1) (i_nil)))) (i_nil)))) (d_cons (i_tup (i_cons (i_str) (i_cons (i_callC c_next (hr.mono (by omega)) rfl (passes_call (takes_of rfl rfl rfl rfl) (fun _ _ _ _ h => h)) (i_cons (iv 0) (i_cons (iv 2) (i_nil)))) (i_nil)))) (d_cons (i_tup (i_cons (i_str) (i_nil))) (d_nil))))) (iv 3)))))))))
theorem ok_odd (T : Top w K mg) (c_next : Cl P w K mg base (xcK K) "_law_next" ["_law_h", "_law_many"] 1 (m_next)) (c_wild_row : Cl P w K mg base (xcK K) "_law_wild_row" ["_law_h", "_law_rows", "_law_routines"] 3 (m_wild_row)) : Cl P w K mg base (xcK K) "_law_odd" ["_law_h", "_law_program_here", "_law_turns"] 4 (m_odd) := by
  obtain ⟨fd, F⟩ := T.c.def_ 34 (d := d_odd) rfl
  refine ⟨fd, def_PD (N := N_odd) F sc_odd (fun cdv A outer s H E hr => ?_), t_glo_odd T, F.kp, F.bindsN fun _ _ _ _ _ _ us hl => match us, hl with | [_, _, _], _ => rfl, lkF F⟩
  exact s_seq (s_asg (iv 1) (g_tup rfl (gs_cons (gn (i := 3) sc_odd.nd) (gs_cons (gn (i := 4) sc_odd.nd) (gs_nil))))) (s_seq (s_for (passes_of rfl) rfl (i_rng rfl (t_range T) (iv 2)) (gn (i := 5) sc_odd.nd) (s_seq (s_set (i := 6) sc_odd.nd rfl (.inl rfl) (i_callC c_next (hr.mono (by omega)) rfl (passes_call (takes_of rfl rfl rfl rfl) (fun _ _ _ _ h => h)) (i_cons (iv 0) (i_cons (i_bf call_lenU sd_len rfl (t_len T) rfl (i_cons (iv 4) (i_nil))) (i_nil))))) (s_seq (s_asg (i_ix (hu_of hr) (iv 4) (iv 6)) (g_tup rfl (gs_cons (gn (i := 7) sc_odd.nd) (gs_cons (gn (i := 8) sc_odd.nd) (gs_nil))))) (s_seq (s_set (i := 9) sc_odd.nd rfl (.inl rfl) (i_callC c_next (hr.mono (by omega)) rfl (passes_call (takes_of rfl rfl rfl rfl) (fun _ _ _ _ h => h)) (i_cons (iv 0) (i_cons (i_bf call_lenU sd_len rfl (t_len T) rfl (i_cons (iv 8) (i_nil))) (i_nil))))) (s_seq (s_set (i := 10) sc_odd.nd rfl (.inl rfl) (i_callC c_wild_row (hr.mono (by omega)) rfl (passes_call (takes_of rfl rfl rfl rfl) (fun _ _ _ _ h => h)) (i_cons (iv 0) (i_cons (i_bf call_lenU sd_len rfl (t_len T) rfl (i_cons (iv 8) (i_nil))) (i_cons (i_bf call_lenU sd_len rfl (t_len T) rfl (i_cons (iv 4) (i_nil))) (i_nil)))))) (s_seq (s_set (i := 11) sc_odd.nd rfl (.inl rfl) (i_callC c_next (hr.mono (by omega)) rfl (passes_call (takes_of rfl rfl rfl rfl) (fun _ _ _ _ h => h)) (i_cons (iv 0) (i_cons (i_int) (i_nil))))) (s_seq (s_set (i := 12) sc_odd.nd rfl (.inl rfl) (i_ls (i_cons (i_op op_addU sd_add (i_op op_addU sd_add (i_cut (iv 8) (o_none) (o_some (iv 9))) (i_tup (i_cons (iv 10) (i_nil)))) (i_cut (iv 8) (o_some (i_op op_addU sd_add (iv 9) (i_int))) (o_none))) (i_cons (i_op op_addU sd_add (i_op op_addU sd_add (i_cut (iv 8) (o_none) (o_some (iv 9))) (i_tup (i_cons (iv 10) (i_nil)))) (i_cut (iv 8) (o_some (iv 9)) (o_none))) (i_cons (i_op op_addU sd_add (i_cut (iv 8) (o_none) (o_some (iv 9))) (i_cut (iv 8) (o_some (i_op op_addU sd_add (iv 9) (i_int))) (o_none))) (i_cons (iv 8) (i_nil))))))) (s_seq (s_set (i := 12) sc_odd.nd rfl (.inl rfl) (i_ix (hu_of hr) (iv 12) (iv 11))) (s_seq (s_set (i := 13) sc_odd.nd rfl (.inr rfl) (i_bf call_lenU sd_len rfl (t_len T) rfl (i_cons (iv 12) (i_nil)))) (s_seq (s_set (i := 12) sc_odd.nd rfl (.inl rfl) (i_ty call_tupleU sd_tuple rfl (t_tuple T) rfl (i_cons (i_lc (own := [("_law_one", 14)]) rfl sc_odd.nd (i_seq (iv 12)) (blkOk_by (own := [("_law_one", 14)]) (N := N_odd) (sc := defScope s_odd) (by decide +kernel)) (fun _ _ _ _ _ => gn (i := 14) sc_odd.nd) (fun _ _ _ _ _ => ts_nil) (fun _ _ _ _ _ => i_ifExp (j_cmp op_in_seq sd_in (i_ix (hu_of hr) (iv 14) (i_int)) (i_tup (i_cons (i_str) (i_cons (i_str) (i_nil)))) rfl) (i_op op_addU sd_add (i_cut (iv 14) (o_none) (o_some (i_un un_neg sd_neg (i_int)))) (i_tup (i_cons (i_bf (call_minU rfl) sd_min rfl (t_min T) rfl (i_cons (i_ix (hu_of hr) (iv 14) (i_un un_neg sd_neg (i_int))) (i_cons (i_op op_sub sd_sub (iv 13) (i_int)) (i_nil)))) (i_nil)))) (iv 14))) (i_nil)))) (s_seq (s_if (PW.pt (j_and (j_cmp (op_eqD (hu64 hr)) sd_eq (iv 11) (i_int) (nomark _)) (j_and1 (j_cmp op_gt sd_gt (i_bf call_lenU sd_len rfl (t_len T) rfl (i_cons (iv 3) (i_nil))) (i_int) (nomark _))))) (s_one (s_set (i := 7) sc_odd.nd rfl (.inl rfl) (i_callC c_next (hr.mono (by omega)) rfl (passes_call (takes_of rfl rfl rfl rfl) (fun _ _ _ _ h => h)) (i_cons (iv 0) (i_cons (i_bf call_lenU sd_len rfl (t_len T) rfl (i_cons (iv 3) (i_nil))) (i_nil)))))) (s_nil)) (s_one (s_if (PW.pt (j_and (j_chain op_lt sd_lt op_lt sd_lt (i_int) (iv 13) (i_int)) (j_and1 (j_cmp op_in_seq sd_in (i_ix (hu_of hr) (i_ix (hu_of hr) (iv 12) (i_un un_neg sd_neg (i_int))) (i_int)) (i_tup (i_cons (i_str) (i_cons (i_str) (i_nil)))) rfl)))) (s_one (s_set (i := 4) sc_odd.nd rfl (.inl rfl) (i_op op_addU sd_add (i_op op_addU sd_add (i_cut (iv 4) (o_none) (o_some (iv 6))) (i_tup (i_cons (i_tup (i_cons (iv 7) (i_cons (iv 12) (i_nil)))) (i_nil)))) (i_cut (iv 4) (o_some (i_op op_addU sd_add (iv 6) (i_int))) (o_none))))) (s_nil)))))))))))))) (s_one (s_ret (i_tup (i_cons (iv 3) (i_cons (iv 4) (i_nil)))))))
theorem ok_wild (T : Top w K mg) (c_next : Cl P w K mg base (xcK K) "_law_next" ["_law_h", "_law_many"] 1 (m_next)) (c_wild_row : Cl P w K mg base (xcK K) "_law_wild_row" ["_law_h", "_law_rows", "_law_routines"] 3 (m_wild_row)) (c_house : Cl P w K mg base (xcK K) "_law_house" ["_law_h"] 2 (m_house)) : Cl P w K mg base (xcK K) "_law_wild" ["_law_h", "_law_most"] 4 (m_wild) := by
  obtain ⟨fd, F⟩ := T.c.def_ 35 (d := d_wild) rfl
  refine ⟨fd, def_PD (N := N_wild) F sc_wild (fun cdv A outer s H E hr => ?_), t_glo_wild T, F.kp, F.bindsN fun _ _ _ _ _ _ us hl => match us, hl with | [_, _], _ => rfl, lkF F⟩
  exact s_seq (s_set (i := 2) sc_wild.nd rfl (.inl rfl) (i_ty call_tupleU sd_tuple rfl (t_tuple T) rfl (i_cons (i_lc (own := [("_law_k", 3)]) rfl sc_wild.nd (i_rng rfl (t_range T) (i_op op_addU sd_add (i_int) (i_callC c_next (hr.mono (by omega)) rfl (passes_call (takes_of rfl rfl rfl rfl) (fun _ _ _ _ h => h)) (i_cons (iv 0) (i_cons (i_int) (i_nil)))))) (blkOk_by (own := [("_law_k", 3)]) (N := N_wild) (sc := defScope s_wild) (by decide +kernel)) (fun _ _ _ _ _ => gn (i := 3) sc_wild.nd) (fun _ _ _ _ _ => ts_nil) (fun _ _ _ _ _ => i_callC c_house (hr.mono (by omega)) rfl (passes_call takes0 (fun _ _ _ _ h => h)) (i_cons (iv 0) (i_nil)))) (i_nil)))) (s_seq (s_set (i := 4) sc_wild.nd rfl (.inr rfl) (i_op op_addU sd_add (i_int) (i_callC c_next (hr.mono (by omega)) rfl (passes_call (takes_of rfl rfl rfl rfl) (fun _ _ _ _ h => h)) (i_cons (iv 0) (i_cons (i_int) (i_nil)))))) (s_seq (s_set (i := 5) sc_wild.nd rfl (.inl rfl) (i_new (i_nil))) (s_seq (s_for (passes_of rfl) rfl (i_rng rfl (t_range T) (iv 4)) (gn (i := 3) sc_wild.nd) (s_seq (s_set (i := 6) sc_wild.nd rfl (.inr rfl) (i_op op_addU sd_add (i_int) (i_callC c_next (hr.mono (by omega)) rfl (passes_call (takes_of rfl rfl rfl rfl) (fun _ _ _ _ h => h)) (i_cons (iv 0) (i_cons (iv 1) (i_nil)))))) (s_seq (s_set (i := 7) sc_wild.nd rfl (.inl rfl) (i_op op_addU sd_add (i_lc (own := [("_law_row", 8)]) rfl sc_wild.nd (i_rng rfl (t_range T) (i_op op_sub sd_sub (iv 6) (i_int))) (blkOk_by (own := [("_law_row", 8)]) (N := N_wild) (sc := defScope s_wild) (by decide +kernel)) (fun _ _ _ _ _ => gn (i := 8) sc_wild.nd) (fun _ _ _ _ _ => ts_nil) (fun _ _ _ _ _ => i_callC c_wild_row (hr.mono (by omega)) rfl (passes_call takes0 (fun _ _ _ _ h => h)) (i_cons (iv 0) (i_cons (iv 6) (i_cons (iv 4) (i_nil)))))) (i_ls (i_cons (i_ix (hu_of hr) (i_ls (i_cons (i_tup (i_cons (i_str) (i_nil))) (i_cons (i_tup (i_cons (i_str) (i_cons (i_int) (i_nil)))) (i_nil)))) (i_callC c_next (hr.mono (by omega)) rfl (passes_call (takes_of rfl rfl rfl rfl) (fun _ _ _ _ h => h)) (i_cons (iv 0) (i_cons (i_int) (i_nil))))) (i_nil))))) (s_one (s_drop (i_append (iv 5) (i_tup (i_cons (i_callC c_next (hr.mono (by omega)) rfl (passes_call (takes_of rfl rfl rfl rfl) (fun _ _ _ _ h => h)) (i_cons (iv 0) (i_cons (i_bf call_lenU sd_len rfl (t_len T) rfl (i_cons (iv 2) (i_nil))) (i_nil)))) (i_cons (i_ty call_tupleU sd_tuple rfl (t_tuple T) rfl (i_cons (iv 7) (i_nil))) (i_nil)))))))))) (s_one (s_ret (i_tup (i_cons (iv 2) (i_cons (i_ty call_tupleU sd_tuple rfl (t_tuple T) rfl (i_cons (iv 5) (i_nil))) (i_nil)))))))))
theorem ok_any (T : Top w K mg) (c_odd : Cl P w K mg base (xcK K) "_law_odd" ["_law_h", "_law_program_here", "_law_turns"] 4 (m_odd)) (c_next : Cl P w K mg base (xcK K) "_law_next" ["_law_h", "_law_many"] 1 (m_next)) (c_program : Cl P w K mg base (xcK K) "_law_program" ["_law_h", "_law_most"] 6 (m_program)) (c_wild : Cl P w K mg base (xcK K) "_law_wild" ["_law_h", "_law_most"] 4 (m_wild)) : Cl P w K mg base (xcK K) "_law_any" ["_law_h"] 7 (m_any) := by
  obtain ⟨fd, F⟩ := T.c.def_ 36 (d := d_any) rfl
  refine ⟨fd, def_PD (N := N_any) F sc_any (fun cdv A outer s H E hr => ?_), t_glo_any T, F.kp, F.bindsN fun _ _ _ _ _ _ us hl => match us, hl with | [_], _ => rfl, lkF F⟩
  exact s_seq (s_set (i := 1) sc_any.nd rfl (.inl rfl) (i_callC c_next (hr.mono (by omega)) rfl (passes_call (takes_of rfl rfl rfl rfl) (fun _ _ _ _ h => h)) (i_cons (iv 0) (i_cons (i_int) (i_nil))))) (s_seq (s_if (j_cmp (op_eqD (hu64 hr)) sd_eq (iv 1) (i_int) (nomark _)) (s_one (s_ret (i_callC c_wild (hr.mono (by omega)) rfl (passes_call (takes_of rfl rfl rfl rfl) (fun _ _ _ _ h => h)) (i_cons (iv 0) (i_cons (i_ix (hu_of hr) (i_ls (i_cons (i_int) (i_cons (i_int) (i_cons (i_int) (i_nil))))) (i_callC c_next (hr.mono (by omega)) rfl (passes_call (takes_of rfl rfl rfl rfl) (fun _ _ _ _ h => h)) (i_cons (iv 0) (i_cons (i_int) (i_nil))))) (i_nil)))))) (s_nil)) (s_seq (s_set (i := 2) sc_any.nd rfl (.inl rfl) (i_callC c_program (hr.mono (by omega)) rfl (passes_call (takes_of rfl rfl rfl rfl) (fun _ _ _ _ h => h)) (i_cons (iv 0) (i_cons (i_int) (i_nil))))) (s_one (s_ret (i_ifExp (j_cmp (op_eqD (hu64 hr)) sd_eq (iv 1) (i_int) (nomark _)) (iv 2) (i_callC c_odd (hr.mono (by omega)) rfl (passes_call (takes_of rfl rfl rfl rfl) (fun _ _ _ _ h => h)) (i_cons (iv 0) (i_cons (iv 2) (i_cons (i_op op_addU sd_add (i_int) (i_callC c_next (hr.mono (by omega)) rfl (passes_call (takes_of rfl rfl rfl rfl) (fun _ _ _ _ h => h)) (i_cons (iv 0) (i_cons (i_int) (i_nil))))) (i_nil))))))))))
theorem ok_saves (T : Top w K mg) (c_next : Cl P w K mg base (xcK K) "_law_next" ["_law_h", "_law_many"] 1 (m_next)) : Cl P w K mg base (xcK K) "_law_saves" ["_law_h", "_law_program_here", "_law_number_here", "_law_most"] 2 (m_saves) := by
  obtain ⟨fd, F⟩ := T.c.def_ 37 (d := d_saves) rfl
  refine ⟨fd, def_PD (N := N_saves) F sc_saves (fun cdv A outer s H E hr => ?_), t_glo_saves T, F.kp, F.bindsN fun _ _ _ _ _ _ us hl => match us, hl with | [_, _, _, _], _ => rfl, lkF F⟩
  exact s_seq (s_set (i := 4) sc_saves.nd rfl (.inr rfl) (i_ix (hu_of hr) (i_ix (hu_of hr) (i_ix (hu_of hr) (iv 1) (i_int)) (iv 2)) (i_int))) (s_seq (s_set (i := 5) sc_saves.nd rfl (.inl rfl) (i_op op_addU sd_add (i_ls (i_cons (i_un un_neg sd_neg (i_int)) (i_cons (i_un un_neg sd_neg (i_int)) (i_nil)))) (i_lc (own := [("_law_row", 6)]) rfl sc_saves.nd (i_rng rfl (t_range T) (i_bf call_lenU sd_len rfl (t_len T) rfl (i_cons (iv 4) (i_nil)))) (blkOk_by (own := [("_law_row", 6)]) (N := N_saves) (sc := defScope s_saves) (by decide +kernel)) (fun _ _ _ _ _ => gn (i := 6) sc_saves.nd) (fun _ _ _ _ _ => ts_one (j_cmp (op_eqD (hu64 hr)) sd_eq (i_ix (hu_of hr) (i_ix (hu_of hr) (iv 4) (iv 6)) (i_int)) (i_str) (nomark _))) (fun _ _ _ _ _ => iv 6)))) (s_seq (s_set (i := 7) sc_saves.nd rfl (.inl rfl) (i_new (i_nil))) (s_seq (s_for (passes_of rfl) rfl (i_rng rfl (t_range T) (i_callC c_next (hr.mono (by omega)) rfl (passes_call (takes_of rfl rfl rfl rfl) (fun _ _ _ _ h => h)) (i_cons (iv 0) (i_cons (i_op op_addU sd_add (iv 3) (i_int)) (i_nil))))) (gn (i := 8) sc_saves.nd) (s_seq (s_set (i := 9) sc_saves.nd rfl (.inl rfl) (i_ix (hu_of hr) (iv 5) (i_callC c_next (hr.mono (by omega)) rfl (passes_call (takes_of rfl rfl rfl rfl) (fun _ _ _ _ h => h)) (i_cons (iv 0) (i_cons (i_bf call_lenU sd_len rfl (t_len T) rfl (i_cons (iv 5) (i_nil))) (i_nil)))))) (s_seq (s_set (i := 10) sc_saves.nd rfl (.inl rfl) (i_ix (hu_of hr) (i_ix (hu_of hr) (i_ix (hu_of hr) (iv 1) (i_int)) (i_ix (hu_of hr) (i_ix (hu_of hr) (i_ix (hu_of hr) (iv 1) (i_int)) (i_ifExp (j_cmp op_lt sd_lt (iv 9) (i_int) (nomark _)) (iv 2) (i_ix (hu_of hr) (i_ix (hu_of hr) (iv 4) (iv 9)) (i_int)))) (i_int))) (i_int))) (s_one (s_drop (i_append (iv 7) (i_tup (i_cons (iv 9) (i_cons (i_op op_mod sd_mod (i_op op_addU sd_add (i_op op_addU sd_add (iv 10) (i_int)) (i_callC c_next (hr.mono (by omega)) rfl (passes_call (takes_of rfl rfl rfl rfl) (fun _ _ _ _ h => h)) (i_cons (iv 0) (i_cons (i_int) (i_nil))))) (i_int)) (i_nil)))))))))) (s_one (s_ret (i_sortSetP rfl (t_sorted T) rfl (t_set T) rfl (hu64 hr) (iv 7)))))))
theorem ok_put_in_ (T : Top w K mg)  : Cl P w K mg base (xcK K) "_law_put_in" ["_law_program_here", "_law_number_here", "_law_saves_here"] 1 (m_put_in_) := by
  obtain ⟨fd, F⟩ := T.c.def_ 38 (d := d_put_in_) rfl
  refine ⟨fd, def_PD (N := N_put_in_) F sc_put_in_ (fun cdv A outer s H E hr => ?_), t_glo_put_in_ T, F.kp, F.bindsN fun _ _ _ _ _ _ us hl => match us, hl with | [_, _, _], _ => rfl, lkF F⟩
  exact s_seq (s_asg (iv 0) (g_tup rfl (gs_cons (gn (i := 3) sc_put_in_.nd) (gs_cons (gn (i := 4) sc_put_in_.nd) (gs_nil))))) (s_seq (s_asg (i_ix (hu_of hr) (iv 4) (iv 1)) (g_tup rfl (gs_cons (gn (i := 5) sc_put_in_.nd) (gs_cons (gn (i := 6) sc_put_in_.nd) (gs_nil))))) (s_seq (s_setLc (i := 7) (own := [("_law_row", 8), ("_law_box", 9)]) rfl sc_put_in_.nd rfl rfl (sw_true rfl rfl rfl (by decide +kernel)) (i_seq (iv 2)) (blkOk_by (own := [("_law_row", 8), ("_law_box", 9)]) (N := N_put_in_) (sc := defScope s_put_in_) (by decide +kernel)) (fun _ _ _ _ _ => g_tup rfl (gs_cons (gn (i := 8) sc_put_in_.nd) (gs_cons (gn (i := 9) sc_put_in_.nd) (gs_nil)))) (fun _ _ _ _ _ => ts_one (j_cmp (op_eqD (hu64 hr)) sd_eq (iv 8) (i_un un_neg sd_neg (i_int)) (nomark _))) (fun _ _ _ _ _ => iv 9)) (s_seq (s_setLcN (i := 10) (own := [("_law_box", 9)]) rfl sc_put_in_.nd rfl rfl (sw_true rfl rfl rfl (by decide +kernel)) (i_seq (iv 7)) (blkOk_by (own := [("_law_box", 9)]) (N := N_put_in_) (sc := defScope s_put_in_) (by decide +kernel)) (fun _ _ _ _ _ => gn (i := 9) sc_put_in_.nd) (fun _ _ _ _ _ => ts_nil) (fun _ _ _ _ _ => i_tup (i_cons (i_str) (i_cons (iv 9) (i_nil))))) (s_seq (s_set (i := 11) sc_put_in_.nd rfl (.inr rfl) (i_new (i_nil))) (s_seq (s_for (passes_of rfl) rfl (i_rng rfl (t_range T) (i_bf call_lenU sd_len rfl (t_len T) rfl (i_cons (iv 6) (i_nil)))) (gn (i := 12) sc_put_in_.nd) (s_seq (s_drop (i_append (iv 11) (i_bf call_lenU sd_len rfl (t_len T) rfl (i_cons (iv 10) (i_nil))))) (s_seq (s_setLc (i := 13) (own := [("_law_row", 8), ("_law_box", 9)]) rfl sc_put_in_.nd rfl rfl (sw_true rfl rfl rfl (by decide +kernel)) (i_seq (iv 2)) (blkOk_by (own := [("_law_row", 8), ("_law_box", 9)]) (N := N_put_in_) (sc := defScope s_put_in_) (by decide +kernel)) (fun _ _ _ _ _ => g_tup rfl (gs_cons (gn (i := 8) sc_put_in_.nd) (gs_cons (gn (i := 9) sc_put_in_.nd) (gs_nil)))) (fun _ _ _ _ _ => ts_one (j_cmp (op_eqD (hu64 hr)) sd_eq (iv 8) (iv 12) (nomark _))) (fun _ _ _ _ _ => iv 9)) (s_seq (s_drop (i_extend (iv 10) (i_lc (own := [("_law_box", 9)]) rfl sc_put_in_.nd (i_seq (iv 13)) (blkOk_by (own := [("_law_box", 9)]) (N := N_put_in_) (sc := defScope s_put_in_) (by decide +kernel)) (fun _ _ _ _ _ => gn (i := 9) sc_put_in_.nd) (fun _ _ _ _ _ => ts_nil) (fun _ _ _ _ _ => i_tup (i_cons (i_str) (i_cons (iv 9) (i_nil))))))) (s_seq (s_if (j_cmp (op_eqD (hu64 hr)) sd_eq (i_ix (hu_of hr) (iv 6) (iv 12)) (i_tup (i_cons (i_str) (i_nil))) (nomark _)) (s_one (s_drop (i_extend (iv 10) (i_lc (own := [("_law_box", 9)]) rfl sc_put_in_.nd (i_seq (i_revS (iv 7))) (blkOk_by (own := [("_law_box", 9)]) (N := N_put_in_) (sc := defScope s_put_in_) (by decide +kernel)) (fun _ _ _ _ _ => gn (i := 9) sc_put_in_.nd) (fun _ _ _ _ _ => ts_nil) (fun _ _ _ _ _ => i_tup (i_cons (i_str) (i_cons (iv 9) (i_nil)))))))) (s_nil)) (s_seq (s_drop (i_append (iv 10) (i_ix (hu_of hr) (iv 6) (iv 12)))) (s_one (s_drop (i_extend (iv 10) (i_lc (own := [("_law_box", 9)]) rfl sc_put_in_.nd (i_seq (i_revS (iv 13))) (blkOk_by (own := [("_law_box", 9)]) (N := N_put_in_) (sc := defScope s_put_in_) (by decide +kernel)) (fun _ _ _ _ _ => gn (i := 9) sc_put_in_.nd) (fun _ _ _ _ _ => ts_nil) (fun _ _ _ _ _ => i_tup (i_cons (i_str) (i_cons (iv 9) (i_nil)))))))))))))) (s_seq (s_setLc (i := 10) (own := [("_law_row", 8)]) rfl sc_put_in_.nd rfl rfl (sw_true rfl rfl rfl (by decide +kernel)) (i_seq (iv 10)) (blkOk_by (own := [("_law_row", 8)]) (N := N_put_in_) (sc := defScope s_put_in_) (by decide +kernel)) (fun _ _ _ _ _ => gn (i := 8) sc_put_in_.nd) (fun _ _ _ _ _ => ts_nil) (fun _ _ _ _ _ => i_ifExp (j_cmp op_in_seq sd_in (i_ix (hu_of hr) (iv 8) (i_int)) (i_tup (i_cons (i_str) (i_cons (i_str) (i_nil)))) rfl) (i_op op_addU sd_add (i_cut (iv 8) (o_none) (o_some (i_un un_neg sd_neg (i_int)))) (i_tup (i_cons (i_ix (hu_of hr) (iv 11) (i_ix (hu_of hr) (iv 8) (i_un un_neg sd_neg (i_int)))) (i_nil)))) (iv 8))) (s_one (s_ret (i_tup (i_cons (iv 3) (i_cons (i_op op_addU sd_add (i_op op_addU sd_add (i_cut (iv 4) (o_none) (o_some (iv 1))) (i_tup (i_cons (i_tup (i_cons (iv 5) (i_cons (i_ty call_tupleU sd_tuple rfl (t_tuple T) rfl (i_cons (iv 10) (i_nil))) (i_nil)))) (i_nil)))) (i_cut (iv 4) (o_some (i_op op_addU sd_add (iv 1) (i_int))) (o_none))) (i_nil))))))))))))
theorem ok_law (T : Top w K mg) (c_put_in : Cl P w K mg base (xcK K) "put_in" ["program", "routine", "saves"] 6 (m_put_in)) (c_next : Cl P w K mg base (xcK K) "_law_next" ["_law_h", "_law_many"] 1 (m_next)) (c_alike : Cl P w K mg base (xcK K) "_law_alike" ["_law_found", "_law_due"] 7 (m_alike)) (c_put_in_ : Cl P w K mg base (xcK K) "_law_put_in" ["_law_program_here", "_law_number_here", "_law_saves_here"] 1 (m_put_in_)) (c_saves : Cl P w K mg base (xcK K) "_law_saves" ["_law_h", "_law_program_here", "_law_number_here", "_law_most"] 2 (m_saves)) (c_any : Cl P w K mg base (xcK K) "_law_any" ["_law_h"] 7 (m_any)) (c_mix : Cl P w K mg base (xcK K) "_law_mix" ["_law_script", "_law_seed"] 1 (m_mix)) (tb : LamX.TabB base mg (He.cT K ("law", none)).1 (He.cT K ("law", none)).2) : Cl P w K mg base (xcK K) "law" ["_law_script"] 9 (m_law) := by
  obtain ⟨fd, F⟩ := T.c.def_ 39 (d := d_law) rfl
  refine ⟨fd, def_KC (pd := ("law", none)) (N := N_law) F sc_law (fun A outer s H E hr => ?_), t_glo_law T, F.kp, F.bindsN fun _ _ _ _ _ _ us hl => match us, hl with | [_], _ => rfl, lkF F⟩
  exact s_seq (s_set (i := 1) sc_law.nd rfl (.inl rfl) (i_callC c_mix (hr.mono (by omega)) rfl (passes_call (takes_of rfl rfl rfl rfl) (fun _ _ _ _ h => h)) (i_cons (iv 0) (i_cons (i_int) (i_nil))))) (s_seq (s_for (passes_of rfl) rfl (i_rng rfl (t_range T) (i_int)) (gn (i := 2) sc_law.nd) (s_seq (s_set (i := 3) sc_law.nd rfl (.inr rfl) (i_callC c_any (hr.mono (by omega)) rfl (passes_call (takes_of rfl rfl rfl rfl) (fun _ _ _ _ h => h)) (i_cons (iv 1) (i_nil)))) (s_seq (s_set (i := 4) sc_law.nd rfl (.inr rfl) (i_callC c_next (hr.mono (by omega)) rfl (passes_call (takes_of rfl rfl rfl rfl) (fun _ _ _ _ h => h)) (i_cons (iv 1) (i_cons (i_bf call_lenU sd_len rfl (t_len T) rfl (i_cons (i_ix (hu_of hr) (iv 3) (i_int)) (i_nil))) (i_nil))))) (s_seq (s_set (i := 5) sc_law.nd rfl (.inl rfl) (i_callC c_saves (hr.mono (by omega)) rfl (passes_call (takes_of rfl rfl rfl rfl) (fun _ _ _ _ h => h)) (i_cons (iv 1) (i_cons (iv 3) (i_cons (iv 4) (i_cons (i_int) (i_nil))))))) (s_seq (s_set (i := 6) sc_law.nd rfl (.inl rfl) (i_callC c_put_in_ (hr.mono (by omega)) rfl (passes_call (takes_of rfl rfl rfl rfl) (fun _ _ _ _ h => h)) (i_cons (iv 3) (i_cons (iv 4) (i_cons (iv 5) (i_nil)))))) (s_seq (s_set (i := 7) sc_law.nd rfl (.inr rfl) (i_ty call_listU sd_list rfl (t_list T) rfl (i_cons (iv 5) (i_nil)))) (s_seq (s_if (j_cmp op_gt sd_gt (i_bf call_lenU sd_len rfl (t_len T) rfl (i_cons (i_ix (hu_of hr) (i_ix (hu_of hr) (i_ix (hu_of hr) (iv 6) (i_int)) (iv 4)) (i_int)) (i_nil))) (i_int) (nomark _)) (s_one (s_if (j_cmp (op_neD (hu64 hr)) sd_ne (i_kindT (k := 6) T tb (hr.mono (by omega)) (fun _ _ _ _ _ _ _ hr => i_callC c_put_in (hr.mono (by omega)) rfl (passes_call (takes_of rfl rfl rfl rfl) (fun _ _ _ _ h => h)) (i_cons (iv 3) (i_cons (iv 4) (i_cons (iv 7) (i_nil)))))) (i_str) (nomark _)) (s_one (s_ret (i_bl))) (s_nil))) (s_one (s_if (PW.pt (j_or (j_not (j_val (i_callC c_alike (hr.mono (by omega)) rfl (passes_call (takes_of rfl rfl rfl rfl) (fun _ _ _ _ h => h)) (i_cons (i_callC c_put_in (hr.mono (by omega)) rfl (passes_call (takes_of rfl rfl rfl rfl) (fun _ _ _ _ h => h)) (i_cons (iv 3) (i_cons (iv 4) (i_cons (iv 7) (i_nil))))) (i_cons (iv 6) (i_nil)))))) (j_or1 (j_cmp (op_neD (hu64 hr)) sd_ne (iv 7) (iv 5) (nomark _))))) (s_one (s_ret (i_bl))) (s_nil)))) (s_seq (s_set (i := 8) sc_law.nd rfl (.inr rfl) (i_ix (hu_of hr) (i_ix (hu_of hr) (i_ix (hu_of hr) (iv 3) (i_int)) (iv 4)) (i_int))) (s_seq (s_setLc (i := 9) (own := [("_law_row", 16)]) rfl sc_law.nd rfl rfl (sw_true rfl rfl rfl (by decide +kernel)) (i_rng rfl (t_range T) (i_bf call_lenU sd_len rfl (t_len T) rfl (i_cons (iv 8) (i_nil)))) (blkOk_by (own := [("_law_row", 16)]) (N := N_law) (sc := defScope s_law) (by decide +kernel)) (fun _ _ _ _ _ => gn (i := 16) sc_law.nd) (fun _ _ _ _ _ => ts_one (j_cmp (op_neD (hu64 hr)) sd_ne (i_ix (hu_of hr) (i_ix (hu_of hr) (iv 8) (iv 16)) (i_int)) (i_str) (nomark _))) (fun _ _ _ _ _ => iv 16)) (s_seq (s_set (i := 10) sc_law.nd rfl (.inl rfl) (i_callC c_next (hr.mono (by omega)) rfl (passes_call (takes_of rfl rfl rfl rfl) (fun _ _ _ _ h => h)) (i_cons (iv 1) (i_cons (i_int) (i_nil))))) (s_seq (s_set (i := 11) sc_law.nd rfl (.inl rfl) (i_ix (hu_of hr) (i_ix (hu_of hr) (i_ix (hu_of hr) (iv 3) (i_int)) (i_ix (hu_of hr) (i_ix (hu_of hr) (i_ix (hu_of hr) (iv 3) (i_int)) (iv 4)) (i_int))) (i_int))) (s_seq (s_set (i := 12) sc_law.nd rfl (.inl rfl) (i_ls (i_cons (i_tup (i_cons (i_ix (hu_of hr) (iv 9) (i_callC c_next (hr.mono (by omega)) rfl (passes_call (takes_of rfl rfl rfl rfl) (fun _ _ _ _ h => h)) (i_cons (iv 1) (i_cons (i_bf call_lenU sd_len rfl (t_len T) rfl (i_cons (iv 9) (i_nil))) (i_nil))))) (i_cons (i_int) (i_nil)))) (i_cons (i_tup (i_cons (i_op op_addU sd_add (i_bf call_lenU sd_len rfl (t_len T) rfl (i_cons (iv 8) (i_nil))) (iv 10)) (i_cons (i_int) (i_nil)))) (i_cons (i_tup (i_cons (i_op op_sub sd_sub (i_un un_neg sd_neg (i_int)) (iv 10)) (i_cons (i_int) (i_nil)))) (i_cons (i_tup (i_cons (i_un un_neg sd_neg (i_int)) (i_cons (i_op op_addU sd_add (i_int) (iv 10)) (i_nil)))) (i_cons (i_tup (i_cons (i_un un_neg sd_neg (i_int)) (i_cons (i_un un_neg sd_neg (i_int)) (i_nil)))) (i_nil)))))))) (s_seq (s_set (i := 12) sc_law.nd rfl (.inl rfl) (i_op op_addU sd_addN (iv 12) (i_ls (i_cons (i_tup (i_cons (i_un un_neg sd_neg (i_int)) (i_nil))) (i_cons (i_tup (i_nil)) (i_cons (i_tup (i_cons (i_un un_neg sd_neg (i_int)) (i_cons (iv 11) (i_nil)))) (i_nil))))))) (s_seq (s_drop (i_extend (iv 12) (i_lc (own := [("_law_k", 17)]) rfl sc_law.nd (i_rng rfl (t_range T) (i_bf call_lenU sd_len rfl (t_len T) rfl (i_cons (iv 8) (i_nil)))) (blkOk_by (own := [("_law_k", 17)]) (N := N_law) (sc := defScope s_law) (by decide +kernel)) (fun _ _ _ _ _ => gn (i := 17) sc_law.nd) (fun _ _ _ _ _ => ts_one (j_cmp (op_eqD (hu64 hr)) sd_eq (i_ix (hu_of hr) (i_ix (hu_of hr) (iv 8) (iv 17)) (i_int)) (i_str) (nomark _))) (fun _ _ _ _ _ => i_tup (i_cons (iv 17) (i_cons (i_ix (hu_of hr) (i_ix (hu_of hr) (i_ix (hu_of hr) (iv 3) (i_int)) (i_ix (hu_of hr) (i_ix (hu_of hr) (i_ix (hu_of hr) (iv 3) (i_int)) (i_ix (hu_of hr) (i_ix (hu_of hr) (iv 8) (iv 17)) (i_int))) (i_int))) (i_int)) (i_nil))))))) (s_seq (s_set (i := 13) sc_law.nd rfl (.inl rfl) (i_op op_addU sd_add (iv 5) (i_ls (i_cons (i_ix (hu_of hr) (iv 12) (i_callC c_next (hr.mono (by omega)) rfl (passes_call (takes_of rfl rfl rfl rfl) (fun _ _ _ _ h => h)) (i_cons (iv 1) (i_cons (i_bf call_lenU sd_len rfl (t_len T) rfl (i_cons (iv 12) (i_nil))) (i_nil))))) (i_nil))))) (s_seq (s_set (i := 14) sc_law.nd rfl (.inl rfl) (i_op op_mulU sd_mul (i_ls (i_cons (i_tup (i_cons (i_un un_neg sd_neg (i_int)) (i_cons (i_op op_mod sd_mod (i_op op_addU sd_add (i_op op_addU sd_add (iv 11) (i_int)) (i_op op_mod sd_mod (iv 10) (i_int))) (i_int)) (i_nil)))) (i_nil))) (i_int))) (s_seq (s_set (i := 15) sc_law.nd rfl (.inr rfl) (i_ix (hu_of hr) (i_ls (i_cons (iv 13) (i_cons (iv 13) (i_cons (iv 14) (i_cons (i_revS (i_bf (call_sortN rfl (hu10 hr)) sd_sortL rfl (t_sorted T) rfl (i_cons (i_ls (i_cons (i_tup (i_cons (i_un un_neg sd_neg (i_int)) (i_cons (i_op op_mod sd_mod (i_op op_addU sd_add (iv 11) (i_int)) (i_int)) (i_nil)))) (i_cons (i_tup (i_cons (i_un un_neg sd_neg (i_int)) (i_cons (i_op op_mod sd_mod (i_op op_addU sd_add (iv 11) (i_int)) (i_int)) (i_nil)))) (i_nil)))) (i_nil)))) (i_nil)))))) (i_callC c_next (hr.mono (by omega)) rfl (passes_call (takes_of rfl rfl rfl rfl) (fun _ _ _ _ h => h)) (i_cons (iv 1) (i_cons (i_int) (i_nil)))))) (s_one (s_if (j_cmp (op_neD (hu64 hr)) sd_ne (i_kindT (k := 6) T tb (hr.mono (by omega)) (fun _ _ _ _ _ _ _ hr => i_callC c_put_in (hr.mono (by omega)) rfl (passes_call (takes_of rfl rfl rfl rfl) (fun _ _ _ _ h => h)) (i_cons (iv 3) (i_cons (iv 4) (i_cons (iv 15) (i_nil)))))) (i_str) (nomark _)) (s_one (s_ret (i_bl))) (s_nil)))))))))))))))))))) (s_one (s_ret (i_bl))))
end
end

/-! Gk11_r -/
section
open PySem PySem.Spec PyProof.Rows L2
abbrev hk : PySem.W.Hook := He.hookX 5 fal fnl tbl [("law", none)] exB
def ob (s : PySem.W.SharedT) : He.AlX := He.obsX 5 fal fnl tbl [("law", none)] exB (HandSHeadRun.getT s)
theorem ob_eq (s : PySem.W.SharedT) : ob s = hk.obs s.abs := He.obsX_eq (HandSHeadRun.getT_eq s)
abbrev Rw : PySem.W.OpenRow := PySem.W.OpenLaw.row PySem.Challenge.rw_callpact_k11_saves_put_in
def ln0 : List PySem.Str := ["PactError", "BadProgram", "BadNumber", "TooMany", "NotLet", "BadStates", "BadGiven", "BadFuel", "BadNoise", "BadSaves", "BadText", "BOXES", "NUMBERS", "MOST_HOUSES", "MOST_ROUTINES", "MOST_ROWS", "PLACES", "is_below", "is_tuple_of", "are_rising_boxes", "is_house", "is_row", "check_houses", "check_rows"]
def ln1 : List PySem.Str := ["check_routines", "check_program", "check_number", "house_of", "rows_of", "WHOLE", "told_in", "is_save", "check_saves", "boxes_about", "pushes_of", "pops_of", "blocks_of", "led_anew", "saved_rows", "with_rows", "put_in", "_law_mix", "_law_next", "_law_alike", "_law_house", "_law_number", "_law_simple", "_law_calling"]
def ln2 : List PySem.Str := ["_law_zeroed", "_law_kept", "_law_wild_row", "_law_program", "_law_odd", "_law_wild", "_law_any", "_law_saves", "_law_put_in", "_law_kind"]
def loose : List PySem.Str := ln0 ++ ln1 ++ ln2
set_option maxHeartbeats 0 in
theorem runF (w : World) : HandSHeadRun.RunEq Rw (PySem.W.view Rw.prog [62]) hk ob 6000 loose (w.withFollow "special-get-raises" false) := by
  intro os
  kernel_rfl
theorem runT (w : World) : HandSHeadRun.RunEq Rw (PySem.W.view Rw.prog [62]) hk ob 6000 loose (w.withFollow "special-get-raises" true) := by
  intro os
  kernel_rfl
theorem run (w : World) : HandSHeadRun.RunEq Rw (PySem.W.view Rw.prog [62]) hk ob 6000 loose w :=
  PySem.W.byRow2 "special-get-raises" (P := fun w => HandSHeadRun.RunEq Rw (PySem.W.view Rw.prog [62]) hk ob 6000 loose w) runF runT w
end

/-! Pure0 -/
/-! Pure0: what a piece of the small machine tells, from behind to the front. No Python here. -/
section
open PySem L2
structure Post {α : Type} (r : R α) (Q : α → Store → Prop) : Prop where
  told : match r with
    | .ok a S => Q a S
    | _ => False
section
variable {α β : Type} {S : Store} {env : Env} {Q : PV → Store → Prop} {QB : Bool → Store → Prop} {QA : List PV → Store → Prop} {QS : Fl × Env → Store → Prop}
theorem Post.ok {a : α} {Q : α → Store → Prop} : Post (.ok a S) Q ↔ Q a S := ⟨fun h => h.told, fun h => ⟨h⟩⟩
theorem Post.bad {Q : α → Store → Prop} : Post .bad Q ↔ False := ⟨fun h => h.told, fun h => h.elim⟩
theorem Post.exc {e : PExc} {Q : α → Store → Prop} : Post (.exc e S) Q ↔ False := ⟨fun h => h.told, fun h => h.elim⟩
theorem Post.bind {r : R α} {f : α → Store → R β} {Q : β → Store → Prop} : Post (r.bind f) Q ↔ Post r fun a S => Post (f a S) Q := by
  cases r with
  | ok a S =>
    show Post (f a S) Q ↔ _
    exact (Post.ok (Q := fun a S => Post (f a S) Q)).symm
  | exc e S => exact ⟨fun h => (Post.exc.mp h).elim, fun h => (Post.exc.mp h).elim⟩
  | bad => exact ⟨fun h => (Post.bad.mp h).elim, fun h => (Post.bad.mp h).elim⟩
theorem Post.nox {r : R α} {Q : α → Store → Prop} : Post r.nox Q ↔ Post r Q := by
  cases r with
  | ok a S => exact Iff.rfl
  | exc e S => exact ⟨fun h => (Post.bad.mp h).elim, fun h => (Post.exc.mp h).elim⟩
  | bad => exact Iff.rfl
theorem Post.ite {c : Prop} [Decidable c] {a b : R α} {Q : α → Store → Prop} : Post (if c then a else b) Q ↔ if c then Post a Q else Post b Q := by by_cases h : c <;> simp [h]
theorem Post.mono {r : R α} {Q Q' : α → Store → Prop} (h : Post r Q) (m : ∀ a S, Q a S → Q' a S) : Post r Q' := by
  cases r with
  | ok a S => exact ⟨m a S h.told⟩
  | exc e S => exact (Post.exc.mp h).elim
  | bad => exact (Post.bad.mp h).elim
theorem Post.out {r : R α} {Q : α → Store → Prop} (h : Post r Q) : ∃ a S, r = .ok a S ∧ Q a S := by
  cases r with
  | ok a S => exact ⟨a, S, rfl, h.told⟩
  | exc e S => exact (Post.exc.mp h).elim
  | bad => exact (Post.bad.mp h).elim
theorem Post.of {r : R α} {a : α} {S : Store} {Q : α → Store → Prop} (e : r = .ok a S) (h : Q a S) : Post r Q := by rw [e]; exact ⟨h⟩
/-! expressions -/
theorem w_var {i : Nat} {x : PV} (h : env[i]? = some (some x)) : Post (eVar i env S) Q ↔ Q x S := by unfold eVar; rw [h]; exact Post.ok
theorem w_c {x : PV} : Post (eC x env S) Q ↔ Q x S := Post.ok
theorem w_un {op : Op1} {a : XE} : Post (eUn op a env S) Q ↔ Post (a env S) fun x S => Post (op x S) Q := Post.bind
theorem w_op {op : Op2} {a b : XE} : Post (eOp op a b env S) Q ↔ Post (a env S) fun x S => Post (b env S) fun y S => Post (op x y S) Q := by unfold eOp; rw [Post.bind]; simp only [Post.bind]
theorem w_nil : Post (aNil env S) QA ↔ QA [] S := Post.ok
theorem w_cons {a : XE} {r : XA} : Post (aCons a r env S) QA ↔ Post (a env S) fun x S => Post (r env S) fun xs S => QA (x :: xs) S := by unfold aCons; rw [Post.bind]; simp only [Post.bind, Post.ok]
theorem w_call {f : XF} {a : XA} : Post (eCall f a env S) Q ↔ Post (a env S) fun xs S => Post (f xs S) Q := Post.bind
theorem w_bf {f : Bf} {a : XA} : Post (eBf f a env S) Q ↔ Post (a env S) fun xs S => Post (f xs S) Q := Post.bind
theorem w_tup {a : XA} : Post (eTup a env S) Q ↔ Post (a env S) fun xs S => Post (if xs.length ≤ lim then R.ok (.tup xs) S else .bad) Q := Post.bind
theorem w_ls {a : XA} : Post (eLs a env S) Q ↔ Post (a env S) fun xs S => Post (if xs.length ≤ lim then R.ok (.ls xs) S else .bad) Q := Post.bind
theorem w_new {a : XA} : Post (eNew a env S) Q ↔ Post (a env S) fun xs S => Post (if xs.length ≤ lim then R.ok (.loc S.length) (S ++ [.lst xs]) else .bad) Q := Post.bind
theorem w_ifE {c : XB} {a b : XE} : Post (eIf c a b env S) Q ↔ Post (c env S) fun k S => if k = true then Post (a env S) Q else Post (b env S) Q := by unfold eIf; rw [Post.bind]; simp only [Post.ite]
theorem w_and {a b : XE} : Post (eAnd a b env S) Q ↔ Post (a env S) fun x S => match x with | .bl true => Post (b env S) Q | .bl false => Q (.bl false) S | _ => False := by
  unfold eAnd
  rw [Post.bind]
  constructor <;> (intro h; refine h.mono fun x S h => ?_; split at h <;> simp_all [Post.ok, Post.bad, Post.exc])
theorem w_or {a b : XE} : Post (eOr a b env S) Q ↔ Post (a env S) fun x S => match x with | .bl true => Q (.bl true) S | .bl false => Post (b env S) Q | _ => False := by
  unfold eOr
  rw [Post.bind]
  constructor <;> (intro h; refine h.mono fun x S h => ?_; split at h <;> simp_all [Post.ok, Post.bad, Post.exc])
theorem w_not {a : XE} : Post (eNot a env S) Q ↔ Post (a env S) fun x S => match x with | .bl k => Q (.bl (!k)) S | _ => False := by
  unfold eNot
  rw [Post.bind]
  constructor <;> (intro h; refine h.mono fun x S h => ?_; split at h <;> simp_all [Post.ok, Post.bad, Post.exc])
theorem w_val {a : XE} : Post (bVal a env S) QB ↔ Post (a env S) fun x S => match x with | .bl k => QB k S | _ => False := by
  unfold bVal
  rw [Post.bind]
  constructor <;> (intro h; refine h.mono fun x S h => ?_; split at h <;> simp_all [Post.ok, Post.bad, Post.exc])
theorem w_bAnd {a b : XB} : Post (bAnd a b env S) QB ↔ Post (a env S) fun k S => if k = true then Post (b env S) QB else QB false S := by unfold bAnd; rw [Post.bind]; simp only [Post.ite, Post.ok]
theorem w_bOr {a b : XB} : Post (bOr a b env S) QB ↔ Post (a env S) fun k S => if k = true then QB true S else Post (b env S) QB := by unfold bOr; rw [Post.bind]; simp only [Post.ite, Post.ok]
theorem w_bNot {a : XB} : Post (bNot a env S) QB ↔ Post (a env S) fun k S => QB (!k) S := by unfold bNot; rw [Post.bind]; simp only [Post.ok]
theorem w_yes : Post (bYes env S) QB ↔ QB true S := Post.ok
/-! statements -/
theorem w_sNil : Post (sNil env S) QS ↔ QS (.nx, env) S := Post.ok
theorem w_seq {a b : XS} : Post (sSeq a b env S) QS ↔ Post (a env S) fun p S => match p.1 with | .nx => Post (b p.2 S) QS | f => QS (f, p.2) S := by
  unfold sSeq
  rw [Post.bind]
  constructor <;> (intro h; refine h.mono fun x S h => ?_; obtain ⟨f, env⟩ := x; cases f <;> simp_all [Post.ok, Post.bad, Post.exc])
theorem w_asg {e : XE} {g : XG} : Post (sAsg e g env S) QS ↔ Post (e env S) fun x S => Post (g x env S) fun env S => QS (.nx, env) S := by unfold sAsg; rw [Post.bind]; simp only [Post.bind, Post.ok]
theorem w_drop {e : XE} : Post (sDrop e env S) QS ↔ Post (e env S) fun _ S => QS (.nx, env) S := by unfold sDrop; rw [Post.bind]; simp only [Post.ok]
theorem w_ret {e : XE} : Post (sRet e env S) QS ↔ Post (e env S) fun x S => QS (.rt x, env) S := by unfold sRet; rw [Post.bind]; simp only [Post.ok]
theorem w_retN : Post (sRetN env S) QS ↔ QS (.rt .non, env) S := Post.ok
theorem w_if {c : XB} {a b : XS} : Post (sIf c a b env S) QS ↔ Post (c env S) fun k S => if k = true then Post (a env S) QS else Post (b env S) QS := by unfold sIf; rw [Post.bind]; simp only [Post.ite]
theorem w_gNm {i : Nat} {x : PV} {QE : Env → Store → Prop} : Post (gNm i x env S) QE ↔ QE (env.set i (some x)) S := Post.ok
/-! loops: by the item's number -/
theorem for_inv {it : It} {all : List PV} {g : XG} {b : XS} {QS : Fl × Env → Store → Prop} (I : Nat → Env → Store → Prop)
    (h : ∀ i env S x, I i env S → all[i]? = some x → it.items S = some all ∧ Post (g x env S) fun env S => Post (b env S) fun p S => match p.1 with
      | .nx => I (i + 1) p.2 S
      | .ct => I (i + 1) p.2 S
      | .bk => QS (.nx, p.2) S
      | .rt v => QS (.rt v, p.2) S)
    (he : ∀ env S, I all.length env S → it.items S = some all ∧ QS (.nx, env) S) : ∀ (r : List PV) (i : Nat), all.drop i = r → i ≤ all.length → ∀ env S, I i env S → Post (forGo it all g b r env S) QS
  | [], i, hr, hi, env, S, hI => by
    have e : i = all.length := by
      have := congrArg List.length hr
      simp at this
      omega
    subst e
    obtain ⟨h1, h2⟩ := he env S hI
    unfold forGo
    rw [if_pos h1]
    exact Post.ok.mpr h2
  | x :: r, i, hr, hi, env, S, hI => by
    have hlt : i < all.length := by
      have := congrArg List.length hr
      simp at this
      omega
    have hx : all[i]? = some x := by
      have := List.getElem?_drop (xs := all) (i := i) (j := 0)
      rw [hr] at this
      simpa using this.symm
    have hr2 : all.drop (i + 1) = r := by
      rw [← List.drop_drop, hr]
      rfl
    obtain ⟨h1, h2⟩ := h i env S x hI hx
    unfold forGo
    rw [if_pos h1, Post.bind]
    refine h2.mono fun env S h3 => ?_
    rw [Post.bind]
    refine h3.mono fun p S h4 => ?_
    obtain ⟨f, env2⟩ := p
    cases f with
    | nx => exact for_inv I h he r (i + 1) hr2 hlt _ _ h4
    | ct => exact for_inv I h he r (i + 1) hr2 hlt _ _ h4
    | bk => exact Post.ok.mpr h4
    | rt v => exact Post.ok.mpr h4
theorem w_for {i : XI} {g : XG} {b : XS} (it : It) (all : List PV) (S1 : Store) (h0 : i env S = .ok it S1) (ha : it.items S1 = some all) (I : Nat → Env → Store → Prop) (hs : I 0 env S1)
    (h : ∀ i env S x, I i env S → all[i]? = some x → it.items S = some all ∧ Post (g x env S) fun env S => Post (b env S) fun p S => match p.1 with
      | .nx => I (i + 1) p.2 S
      | .ct => I (i + 1) p.2 S
      | .bk => QS (.nx, p.2) S
      | .rt v => QS (.rt v, p.2) S)
    (he : ∀ env S, I all.length env S → it.items S = some all ∧ QS (.nx, env) S) : Post (sFor i g b env S) QS := by
  unfold sFor
  rw [h0]
  simp only [R.bind_ok, ha]
  exact for_inv I h he all 0 rfl (Nat.zero_le _) env S1 hs
/-- a comprehension: by the items that were taken -/
theorem lc_inv {it : It} {all : List PV} {g : XG} {t : XB} {e : XE} {env : Env} {QA : List PV → Store → Prop} (I : Nat → List PV → Store → Prop)
    (h : ∀ i acc S x, I i acc S → all[i]? = some x → it.items S = some all ∧ Post (g x env S) fun env S => Post (t env S) fun k S => if k = true then Post (e env S) fun y S => acc.length < lim ∧ I (i + 1) (acc ++ [y]) S else I (i + 1) acc S)
    (he : ∀ acc S, I all.length acc S → it.items S = some all ∧ QA acc S) : ∀ (r : List PV) (i : Nat), all.drop i = r → i ≤ all.length → ∀ acc S, I i acc S → Post (lcGo it all g t e env r acc S) QA
  | [], i, hr, hi, acc, S, hI => by
    have e : i = all.length := by
      have := congrArg List.length hr
      simp at this
      omega
    subst e
    obtain ⟨h1, h2⟩ := he acc S hI
    unfold lcGo
    rw [if_pos h1]
    exact Post.ok.mpr h2
  | x :: r, i, hr, hi, acc, S, hI => by
    have hlt : i < all.length := by
      have := congrArg List.length hr
      simp at this
      omega
    have hx : all[i]? = some x := by
      have := List.getElem?_drop (xs := all) (i := i) (j := 0)
      rw [hr] at this
      simpa using this.symm
    have hr2 : all.drop (i + 1) = r := by
      rw [← List.drop_drop, hr]
      rfl
    obtain ⟨h1, h2⟩ := h i acc S x hI hx
    unfold lcGo
    rw [if_pos h1, Post.bind, Post.nox]
    refine h2.mono fun env S h3 => ?_
    rw [Post.bind, Post.nox]
    refine h3.mono fun k S h4 => ?_
    cases k with
    | true =>
      simp only [if_true] at h4 ⊢
      rw [Post.bind, Post.nox]
      refine h4.mono fun y S h5 => ?_
      rw [if_pos h5.1]
      exact lc_inv I h he r (i + 1) hr2 hlt _ _ h5.2
    | false =>
      simp only [Bool.false_eq_true, if_false] at h4 ⊢
      exact lc_inv I h he r (i + 1) hr2 hlt _ _ h4
theorem w_lc {i : XI} {g : XG} {t : XB} {e : XE} {own : List Nat} (it : It) (all : List PV) (S1 : Store) (h0 : i env S = .ok it S1) (ha : it.items S1 = some all) (I : Nat → List PV → Store → Prop) (hs : I 0 [] S1)
    (h : ∀ i acc S x, I i acc S → all[i]? = some x → it.items S = some all ∧ Post (g x (wipeE env own) S) fun env S => Post (t env S) fun k S => if k = true then Post (e env S) fun y S => acc.length < lim ∧ I (i + 1) (acc ++ [y]) S else I (i + 1) acc S)
    (he : ∀ acc S, I all.length acc S → it.items S = some all ∧ Q (.ls acc) S) : Post (eLc i g t e own env S) Q := by
  unfold eLc xLc
  rw [h0]
  simp only [R.bind_ok, ha]
  rw [Post.bind]
  exact (lc_inv (QA := fun xs S => Q (.ls xs) S) I h he all 0 rfl (Nat.zero_le _) [] S1 hs).mono fun _ _ h => Post.ok.mpr h
theorem w_lcN {i : XI} {g : XG} {t : XB} {e : XE} {own : List Nat} (it : It) (all : List PV) (S1 : Store) (h0 : i env S = .ok it S1) (ha : it.items S1 = some all) (I : Nat → List PV → Store → Prop) (hs : I 0 [] S1)
    (h : ∀ i acc S x, I i acc S → all[i]? = some x → it.items S = some all ∧ Post (g x (wipeE env own) S) fun env S => Post (t env S) fun k S => if k = true then Post (e env S) fun y S => acc.length < lim ∧ I (i + 1) (acc ++ [y]) S else I (i + 1) acc S)
    (he : ∀ acc S, I all.length acc S → it.items S = some all ∧ Q (.loc S.length) (S ++ [.lst acc])) : Post (eLcN i g t e own env S) Q := by
  unfold eLcN xLc
  rw [h0]
  simp only [R.bind_ok, ha]
  rw [Post.bind]
  exact (lc_inv (QA := fun (xs : List PV) (S : Store) => Q (PV.loc S.length) (S ++ [Cell.lst xs])) I h he all 0 rfl (Nat.zero_le _) [] S1 hs).mono fun _ _ h => Post.ok.mpr h
/-! defs -/
theorem w_fnK {np many : Nat} {b : XS} {args : List PV} (hl : args.length = np) (h : Post (b (args.map some ++ List.replicate (many - args.length) none) S) fun p S => match p.1 with | .rt v => Q v S | .nx => Q .non S | _ => False) : Post (fnK np many b args S) Q := by
  unfold fnK
  rw [if_pos hl, Post.bind]
  refine h.mono fun p S h => ?_
  obtain ⟨f, e⟩ := p
  cases f <;> first | exact Post.ok.mpr h | exact h.elim
/-- .. where no list was made -/
theorem w_fnP {np many : Nat} {b : XS} {args : List PV} (hl : args.length = np) (h : Post (b (args.map some ++ List.replicate (many - args.length) none) S) fun p S' => match p.1 with
    | .rt v => Post (leave S.length v S') Q
    | .nx => Post (leave S.length .non S') Q
    | _ => False) : Post (fnP np many b args S) Q := by
  unfold fnP
  rw [if_pos hl, Post.bind]
  refine h.mono fun p S h => ?_
  obtain ⟨f, e⟩ := p
  cases f <;> first | exact h | exact h.elim
theorem leave_same {n : Nat} {v : PV} (h : S.length = n) : Post (leave n v S) Q ↔ Q v S := by unfold leave; rw [if_pos h]; exact Post.ok
end
end

/-! PureB -/
/-! PureB: operations from behind; the head-first step. -/
section
open PySem L2
section
variable {S : Store} {env : Env} {Q : PV → Store → Prop} {i j : Int} {x y z : PV} {xs ys : List PV} {l : Nat}
theorem w_add : Post (oAdd (.int i) (.int j) S) Q ↔ Q (.int (i + j)) S := Post.ok
theorem w_sub : Post (oSub (.int i) (.int j) S) Q ↔ Q (.int (i - j)) S := Post.ok
theorem w_mul (h : mulOk i j = true) : Post (oMul (.int i) (.int j) S) Q ↔ Q (.int (i * j)) S := by unfold oMul; simp only []; rw [if_pos h]; exact Post.ok
theorem w_mulC (h : -(2 ^ 64) < j ∧ j < 2 ^ 64) : Post (oMul (.int i) (.int j) S) Q ↔ Q (.int (i * j)) S := w_mul (by unfold mulOk; rw [decide_eq_true h.1, decide_eq_true h.2]; simp)
theorem w_div (h : 0 < j ∧ j < 1073741824) : Post (oDiv (.int i) (.int j) S) Q ↔ Q (.int (i / j)) S := by unfold oDiv; simp only []; rw [if_pos h]; exact Post.ok
theorem w_mod (h : 0 < j) : Post (oMod (.int i) (.int j) S) Q ↔ Q (.int (i % j)) S := by unfold oMod; simp only []; rw [if_pos h]; exact Post.ok
theorem w_pow (h : 0 ≤ j ∧ j ≤ 1000 ∧ i.natAbs < 2 ^ 64) : Post (oPow (.int i) (.int j) S) Q ↔ Q (.int (i ^ j.toNat)) S := by unfold oPow; simp only []; rw [if_pos h]; exact Post.ok
theorem w_neg : Post (oNeg (.int i) S) Q ↔ Q (.int (-i)) S := Post.ok
theorem w_lt : Post (oLt (.int i) (.int j) S) Q ↔ Q (.bl (decide (i < j))) S := Post.ok
theorem w_le : Post (oLe (.int i) (.int j) S) Q ↔ Q (.bl (decide (i ≤ j))) S := Post.ok
theorem w_gt : Post (oGt (.int i) (.int j) S) Q ↔ Q (.bl (decide (j < i))) S := Post.ok
theorem w_ge : Post (oGe (.int i) (.int j) S) Q ↔ Q (.bl (decide (j ≤ i))) S := Post.ok
theorem w_isN : Post (oIsN x .non S) Q ↔ Q (.bl x.isNon) S := Post.ok
theorem w_max : Post (bMax [.int i, .int j] S) Q ↔ Q (.int (if j > i then j else i)) S := Post.ok
theorem w_min : Post (bMin [.int i, .int j] S) Q ↔ Q (.int (if j < i then j else i)) S := Post.ok
theorem w_len (h : seqOf S x = some xs) : Post (bLen [x] S) Q ↔ Q (.int xs.length) S := by unfold bLen; simp only [h]; exact Post.ok
theorem w_ix (h : seqOf S x = some xs) (h2 : atI xs i = some y) : Post (oIx x (.int i) S) Q ↔ Q y S := by unfold oIx; simp only [h, h2]; exact Post.ok
theorem w_ix0 (h : seqOf S x = some xs) (h2 : xs[0]? = some y) : Post (oIx x (.int 0) S) Q ↔ Q y S := w_ix h (by rw [show (0 : Int) = ((0 : Nat) : Int) from rfl, L2.atI_nat (j := 0)]; exact h2)
theorem w_ix1 (h : seqOf S x = some xs) (h2 : xs[1]? = some y) : Post (oIx x (.int 1) S) Q ↔ Q y S := w_ix h (by rw [show (1 : Int) = ((1 : Nat) : Int) from rfl, L2.atI_nat (j := 1)]; exact h2)
theorem w_ix2 (h : seqOf S x = some xs) (h2 : xs[2]? = some y) : Post (oIx x (.int 2) S) Q ↔ Q y S := w_ix h (by rw [show (2 : Int) = ((2 : Nat) : Int) from rfl, L2.atI_nat (j := 2)]; exact h2)
theorem w_ix3 (h : seqOf S x = some xs) (h2 : xs[3]? = some y) : Post (oIx x (.int 3) S) Q ↔ Q y S := w_ix h (by rw [show (3 : Int) = ((3 : Nat) : Int) from rfl, L2.atI_nat (j := 3)]; exact h2)
theorem w_ix4 (h : seqOf S x = some xs) (h2 : xs[4]? = some y) : Post (oIx x (.int 4) S) Q ↔ Q y S := w_ix h (by rw [show (4 : Int) = ((4 : Nat) : Int) from rfl, L2.atI_nat (j := 4)]; exact h2)
theorem w_ix5 (h : seqOf S x = some xs) (h2 : xs[5]? = some y) : Post (oIx x (.int 5) S) Q ↔ Q y S := w_ix h (by rw [show (5 : Int) = ((5 : Nat) : Int) from rfl, L2.atI_nat (j := 5)]; exact h2)
theorem w_ixS {ks : List Str} {vs : List PV} {k : Str} (h : dksOf S x = some (ks, vs)) (h2 : lookS ks vs k = some y) : Post (oIx x (.str k) S) Q ↔ Q y S := by unfold oIx; simp only [h, h2]; exact Post.ok
theorem w_eqI : Post (oEq (.int i) (.int j) S) Q ↔ Q (.bl (i == j)) S := by unfold oEq; simp [res, plain, eqv]; exact Post.ok
theorem w_neI : Post (oNe (.int i) (.int j) S) Q ↔ Q (.bl (!(i == j))) S := by unfold oNe; simp [res, plain, eqv]; exact Post.ok
theorem w_eqS {a b : Str} (h : PyData.strOk a = true) (h2 : PyData.strOk b = true) : Post (oEq (.str a) (.str b) S) Q ↔ Q (.bl (decide (a = b))) S := by unfold oEq; simp [res, plain, eqv, h, h2]; exact Post.ok
theorem w_neS {a b : Str} (h : PyData.strOk a = true) (h2 : PyData.strOk b = true) : Post (oNe (.str a) (.str b) S) Q ↔ Q (.bl (!decide (a = b))) S := by unfold oNe; simp [res, plain, eqv, h, h2]; exact Post.ok
/-- == of lists of ints and the empty list -/
theorem plain_ints : ∀ (ns : List Int), (ns.map PV.int).all (plain 19) = true
  | [] => rfl
  | _ :: r => by rw [List.map_cons, List.all_cons, plain_ints r]; rfl
theorem res_ints (n : Nat) : ∀ (ns : List Int), (ns.map PV.int).map (res n S) = ns.map PV.int
  | [] => rfl
  | i :: r => by
    rw [List.map_cons, List.map_cons, res_ints n r]
    cases n <;> rfl
theorem eq_ints (h : S[l]? = some (.lst (xs))) {ns : List Int} (e : xs = ns.map .int) : plain 20 (res 20 S (.loc l)) = true ∧ eqv (res 20 S (.loc l)) (.ls []) = ns.isEmpty := by
  subst e
  have r : res 20 S (.loc l) = .ls (ns.map .int) := by
    show (match S[l]? with | some (.lst xs) => PV.ls (xs.map (res 19 S)) | _ => .loc l) = _
    rw [h]
    show PV.ls ((ns.map PV.int).map (res 19 S)) = _
    rw [res_ints]
  rw [r]
  refine ⟨?_, ?_⟩
  · show (ns.map PV.int).all (plain 19) = true
    exact plain_ints ns
  · cases ns <;> rfl
theorem w_neE {ns : List Int} (h : S[l]? = some (.lst (ns.map .int))) : Post (oNe (.loc l) (.ls []) S) Q ↔ Q (.bl (!ns.isEmpty)) S := by
  obtain ⟨h1, h2⟩ := eq_ints h rfl
  unfold oNe
  rw [if_pos ⟨h1, rfl⟩]
  show Post (R.ok (PV.bl (!eqv (res 20 S (.loc l)) (.ls []))) S) Q ↔ _
  rw [h2]
  exact Post.ok
theorem w_eqE {ns : List Int} (h : S[l]? = some (.lst (ns.map .int))) : Post (oEq (.loc l) (.ls []) S) Q ↔ Q (.bl ns.isEmpty) S := by
  obtain ⟨h1, h2⟩ := eq_ints h rfl
  unfold oEq
  rw [if_pos ⟨h1, rfl⟩]
  show Post (R.ok (PV.bl (eqv (res 20 S (.loc l)) (.ls []))) S) Q ↔ _
  rw [h2]
  exact Post.ok
theorem w_tupK (h : xs.length ≤ lim) {Q : PV → Store → Prop} : Post (if xs.length ≤ lim then R.ok (PV.tup xs) S else .bad) Q ↔ Q (.tup xs) S := by rw [if_pos h]; exact Post.ok
theorem w_lsK (h : xs.length ≤ lim) {Q : PV → Store → Prop} : Post (if xs.length ≤ lim then R.ok (PV.ls xs) S else .bad) Q ↔ Q (.ls xs) S := by rw [if_pos h]; exact Post.ok
theorem w_newK (h : xs.length ≤ lim) {Q : PV → Store → Prop} : Post (if xs.length ≤ lim then R.ok (PV.loc S.length) (S ++ [Cell.lst xs]) else .bad) Q ↔ Q (.loc S.length) (S ++ [.lst xs]) := by rw [if_pos h]; exact Post.ok
theorem w_setL {k : Nat} {QU : Unit → Store → Prop} (h : S[l]? = some (.lst xs)) (h2 : ixOf xs.length i = some k) : Post (oSet (.loc l) (.int i) x S) QU ↔ QU () (S.set l (.lst (xs.set k x))) := by unfold oSet; simp only [h, h2]; exact Post.ok
theorem w_setS {k : Str} {ks : List Str} {vs : List PV} {QU : Unit → Store → Prop} (h : S[l]? = some (.dks ks vs)) (h2 : ks.length < lim) : Post (oSet (.loc l) (.str k) x S) QU ↔ QU () (S.set l (.dks (putS ks vs k x).1 (putS ks vs k x).2)) := by unfold oSet; simp only [h]; rw [if_pos h2]; exact Post.ok
theorem w_gSb {o i : XE} {QE : Env → Store → Prop} : Post (gSb o i x env S) QE ↔ Post (o env S) fun ov S => Post (i env S) fun iv S => Post (oSet ov iv x S) fun _ S => QE env S := by unfold gSb; rw [Post.bind]; simp only [Post.bind, Post.ok]
theorem w_gTp {gs : List XG} {QE : Env → Store → Prop} (h : seqOf S x = some xs) (h2 : xs.length = gs.length) : Post (gTp gs x env S) QE ↔ Post (gTp.go gs xs env S) QE := by unfold gTp; simp only [h]; rw [if_pos h2]
theorem w_go0 {QE : Env → Store → Prop} : Post (gTp.go [] xs env S) QE ↔ QE env S := by unfold gTp.go; exact Post.ok
theorem w_go1 {g : XG} {gs : List XG} {QE : Env → Store → Prop} : Post (gTp.go (g :: gs) (x :: xs) env S) QE ↔ Post (g x env S) fun env S => Post (gTp.go gs xs env S) QE := by
  show Post (R.bind _ _) _ ↔ _
  rw [Post.bind]
theorem w_t {α : Type} {a b : α} {P : α → Prop} : (if True then P a else P b) ↔ P a := by simp
/-- a comprehension's run over what is walked -/
def LcP (it : It) (g : XG) (t : XB) (e : XE) (env : Env) (S : Store) (QA : List PV → Store → Prop) : Prop := ∃ all, it.items S = some all ∧ Post (lcGo it all g t e env all [] S) QA
theorem w_eLc {i : XI} {g : XG} {t : XB} {e : XE} {own : List Nat} : Post (eLc i g t e own env S) Q ↔ Post (i env S) fun it S => LcP it g t e (wipeE env own) S fun xs S => Q (.ls xs) S := by
  unfold eLc xLc
  rw [Post.bind, Post.bind]
  constructor
  · intro h
    refine h.mono fun it S h => ?_
    cases ha : it.items S with
    | none => simp only [ha] at h; exact (Post.bad.mp h).elim
    | some all => simp only [ha] at h; exact ⟨all, ha, h.mono fun _ _ h => Post.ok.mp h⟩
  · intro h
    refine h.mono fun it S h => ?_
    obtain ⟨all, ha, h⟩ := h
    simp only [ha]
    exact h.mono fun _ _ h => Post.ok.mpr h
theorem w_eLcN {i : XI} {g : XG} {t : XB} {e : XE} {own : List Nat} : Post (eLcN i g t e own env S) Q ↔ Post (i env S) fun it S => LcP it g t e (wipeE env own) S fun (xs : List PV) (S : Store) => Q (PV.loc S.length) (S ++ [Cell.lst xs]) := by
  unfold eLcN xLc
  rw [Post.bind, Post.bind]
  constructor
  · intro h
    refine h.mono fun it S h => ?_
    cases ha : it.items S with
    | none => simp only [ha] at h; exact (Post.bad.mp h).elim
    | some all => simp only [ha] at h; exact ⟨all, ha, h.mono fun _ _ h => Post.ok.mp h⟩
  · intro h
    refine h.mono fun it S h => ?_
    obtain ⟨all, ha, h⟩ := h
    simp only [ha]
    exact h.mono fun _ _ h => Post.ok.mpr h
theorem w_iSeq {a : XE} {QI : It → Store → Prop} : Post (iSeq a env S) QI ↔ Post (a env S) fun x S => QI (.seq x) S := by unfold iSeq; rw [Post.bind]; simp only [Post.ok]
theorem w_iEnum {a : XE} {QI : It → Store → Prop} : Post (iEnum a env S) QI ↔ Post (a env S) fun x S => QI (.enum x) S := by unfold iEnum; rw [Post.bind]; simp only [Post.ok]
theorem w_iRev {a : XE} {QI : It → Store → Prop} : Post (iRev a env S) QI ↔ Post (a env S) fun x S => QI (.rev x) S := by unfold iRev; rw [Post.bind]; simp only [Post.ok]
theorem w_iZip {a b : XE} {QI : It → Store → Prop} : Post (iZip a b env S) QI ↔ Post (a env S) fun x S => Post (b env S) fun y S => QI (.zip x y) S := by unfold iZip; rw [Post.bind]; simp only [Post.bind, Post.ok]
def rngOk (x : PV) (S : Store) : R It := match x with
  | .int j => if -(lim : Int) ≤ j ∧ j ≤ lim then .ok (.rng 0 j.toNat) S else .bad
  | _ => .bad
theorem w_iRng {a : XE} {QI : It → Store → Prop} : Post (iRng a env S) QI ↔ Post (a env S) fun x S => Post (rngOk x S) QI := by unfold iRng; rw [Post.bind]; exact Iff.rfl
theorem w_rng {QI : It → Store → Prop} (h : -1000000 ≤ j ∧ j ≤ 1000000) : Post (rngOk (.int j) S) QI ↔ QI (.rng 0 j.toNat) S := by unfold rngOk; simp only []; rw [if_pos (by unfold lim; omega)]; exact Post.ok
/-- a for's run over what is walked -/
def ForP (it : It) (g : XG) (b : XS) (env : Env) (S : Store) (QS : Fl × Env → Store → Prop) : Prop := ∃ all, it.items S = some all ∧ Post (forGo it all g b all env S) QS
theorem w_sFor {i : XI} {g : XG} {b : XS} {QS : Fl × Env → Store → Prop} : Post (sFor i g b env S) QS ↔ Post (i env S) fun it S => ForP it g b env S QS := by
  unfold sFor
  rw [Post.bind]
  constructor
  · intro h
    refine h.mono fun it S h => ?_
    cases ha : it.items S with
    | none => simp only [ha] at h; exact (Post.bad.mp h).elim
    | some all => simp only [ha] at h; exact ⟨all, ha, h⟩
  · intro h
    refine h.mono fun it S h => ?_
    obtain ⟨all, ha, h⟩ := h
    simp only [ha]
    exact h
theorem w_list (h : seqOf S x = some xs) : Post (bList [x] S) Q ↔ Q (.ls xs) S := by unfold bList; simp only [h]; exact Post.ok
theorem w_listN (h : seqOf S x = some xs) : Post (bListN [x] S) Q ↔ Q (.loc S.length) (S ++ [.lst xs]) := by unfold bListN; simp only [h]; exact Post.ok
theorem w_tuple (h : seqOf S x = some xs) : Post (bTuple [x] S) Q ↔ Q (.tup xs) S := by unfold bTuple; simp only [h]; exact Post.ok
theorem w_intI : Post (bInt [.int i] S) Q ↔ Q (.int i) S := Post.ok
theorem w_intB {k : Bool} : Post (bInt [.bl k] S) Q ↔ Q (.int (if k = true then 1 else 0)) S := Post.ok
theorem w_eCut {o : XE} {lo hi : Option XE} : Post (eCut o lo hi env S) Q ↔ Post (o env S) fun x S => Post (ePart lo env S) fun i S => Post (ePart hi env S) fun j S => Post (oCut x i j S) Q := by unfold eCut; rw [Post.bind]; simp only [Post.bind]
theorem w_ePart0 {QO : Option Int → Store → Prop} : Post (ePart none env S) QO ↔ QO none S := Post.ok
theorem w_ePart1 {f : XE} {QO : Option Int → Store → Prop} : Post (ePart (some f) env S) QO ↔ Post (f env S) fun x S => match x with | .int i => QO (some i) S | _ => False := by
  unfold ePart
  simp only []
  rw [Post.bind]
  constructor <;> (intro h; refine h.mono fun x S h => ?_; cases x <;> first | exact Post.ok.mp h | exact Post.ok.mpr h | exact (Post.bad.mp h).elim | exact False.elim h)
theorem w_cutL {lo hi : Option Int} : Post (oCut (.ls xs) lo hi S) Q ↔ Q (.ls (cut xs lo hi)) S := Post.ok
theorem w_cutT {lo hi : Option Int} : Post (oCut (.tup xs) lo hi S) Q ↔ Q (.tup (cut xs lo hi)) S := Post.ok
theorem w_in (h : seqOf S y = some xs) (hf : flat x = true) (ha : xs.all flat = true) : Post (oIn x y S) Q ↔ Q (.bl (inSeq x xs)) S := by unfold oIn; simp only [h]; rw [if_pos ⟨hf, ha⟩]; exact Post.ok
theorem w_notIn (h : seqOf S y = some xs) (hf : flat x = true) (ha : xs.all flat = true) : Post (oNotIn x y S) Q ↔ Q (.bl (!inSeq x xs)) S := by unfold oNotIn; simp only [h]; rw [if_pos ⟨hf, ha⟩]; exact Post.ok
theorem w_addT (h : xs.length + ys.length ≤ lim) : Post (oAdd (.tup xs) (.tup ys) S) Q ↔ Q (.tup (xs ++ ys)) S := by unfold oAdd; simp only []; rw [if_pos h]; exact Post.ok
theorem ixOf_nat {n k : Nat} (h : k < n) : ixOf n (k : Int) = some k := by
  unfold ixOf
  rw [if_pos (by omega), if_pos (by omega)]
  simp
theorem w_ff {A B : Prop} : (if false = true then A else B) ↔ B := by simp
theorem w_tt {A B : Prop} : (if true = true then A else B) ↔ A := by simp
theorem w_nf {A B : Prop} : (if (!false) = true then A else B) ↔ A := by simp
theorem w_nt {A B : Prop} : (if (!true) = true then A else B) ↔ B := by simp
theorem w_no {p A B : Prop} [Decidable p] (h : ¬p) : (if p then A else B) ↔ B := by rw [if_neg h]
theorem w_yes' {p A B : Prop} [Decidable p] (h : p) : (if p then A else B) ↔ A := by rw [if_pos h]
end
end
local macro_rules | `(tactic| array_get_dec) => `(tactic| ((with_reducible refine (w_neS ?wh ?wk).mpr ?_); (case wh => decide +kernel); (case wk => decide +kernel)))
local macro_rules | `(tactic| array_get_dec) => `(tactic| ((with_reducible refine (w_eqS ?wh ?wk).mpr ?_); (case wh => decide +kernel); (case wk => decide +kernel)))
local macro_rules | `(tactic| array_get_dec) => `(tactic| ((with_reducible refine (w_newK ?wh).mpr ?_); (case wh => exact Nat.le_of_ble_eq_true rfl)))
local macro_rules | `(tactic| array_get_dec) => `(tactic| ((with_reducible refine (w_lsK ?wh).mpr ?_); (case wh => exact Nat.le_of_ble_eq_true rfl)))
local macro_rules | `(tactic| array_get_dec) => `(tactic| ((with_reducible refine (w_tupK ?wh).mpr ?_); (case wh => exact Nat.le_of_ble_eq_true rfl)))
local macro_rules | `(tactic| array_get_dec) => `(tactic| ((with_reducible refine (w_pow ?wh).mpr ?_); (case wh => decide)))
local macro_rules | `(tactic| array_get_dec) => `(tactic| ((with_reducible refine (w_mod ?wh).mpr ?_); (case wh => omega)))
local macro_rules | `(tactic| array_get_dec) => `(tactic| ((with_reducible refine (w_div ?wh).mpr ?_); (case wh => constructor <;> omega)))
local macro_rules | `(tactic| array_get_dec) => `(tactic| ((with_reducible refine (w_mulC ?wh).mpr ?_); (case wh => constructor <;> omega)))
local macro_rules | `(tactic| array_get_dec) => `(tactic| ((with_reducible refine (w_gTp (xs := ?wx) ?wh ?wk).mpr ?_); (case wh => rfl); (case wk => rfl)))
local macro_rules | `(tactic| array_get_dec) => `(tactic| ((with_reducible refine (w_ixS (ks := ?wx) (vs := ?wz) (y := ?wy) ?wh ?wk).mpr ?_); (case wh => rfl); (case wk => rfl)))
local macro_rules | `(tactic| array_get_dec) => `(tactic| ((with_reducible refine (w_ix5 (xs := ?wx) (y := ?wy) ?wh ?wk).mpr ?_); (case wh => rfl); (case wk => rfl)))
local macro_rules | `(tactic| array_get_dec) => `(tactic| ((with_reducible refine (w_ix4 (xs := ?wx) (y := ?wy) ?wh ?wk).mpr ?_); (case wh => rfl); (case wk => rfl)))
local macro_rules | `(tactic| array_get_dec) => `(tactic| ((with_reducible refine (w_ix3 (xs := ?wx) (y := ?wy) ?wh ?wk).mpr ?_); (case wh => rfl); (case wk => rfl)))
local macro_rules | `(tactic| array_get_dec) => `(tactic| ((with_reducible refine (w_ix2 (xs := ?wx) (y := ?wy) ?wh ?wk).mpr ?_); (case wh => rfl); (case wk => rfl)))
local macro_rules | `(tactic| array_get_dec) => `(tactic| ((with_reducible refine (w_ix1 (xs := ?wx) (y := ?wy) ?wh ?wk).mpr ?_); (case wh => rfl); (case wk => rfl)))
local macro_rules | `(tactic| array_get_dec) => `(tactic| ((with_reducible refine (w_ix0 (xs := ?wx) (y := ?wy) ?wh ?wk).mpr ?_); (case wh => rfl); (case wk => rfl)))
local macro_rules | `(tactic| array_get_dec) => `(tactic| ((with_reducible refine (w_len (xs := ?wx) ?wh).mpr ?_); (case wh => rfl)))
local macro_rules | `(tactic| array_get_dec) => `(tactic| ((with_reducible refine (w_eqE (ns := ?wx) ?wh).mpr ?_); (case wh => rfl)))
local macro_rules | `(tactic| array_get_dec) => `(tactic| ((with_reducible refine (w_neE (ns := ?wx) ?wh).mpr ?_); (case wh => rfl)))
local macro_rules | `(tactic| array_get_dec) => `(tactic| ((with_reducible refine (w_var (x := ?wx) ?wh).mpr ?_); (case wh => rfl)))
local macro_rules | `(tactic| array_get_dec) => `(tactic| (with_reducible refine w_neI.mpr ?_))
local macro_rules | `(tactic| array_get_dec) => `(tactic| (with_reducible refine w_eqI.mpr ?_))
local macro_rules | `(tactic| array_get_dec) => `(tactic| (with_reducible refine w_min.mpr ?_))
local macro_rules | `(tactic| array_get_dec) => `(tactic| (with_reducible refine w_max.mpr ?_))
local macro_rules | `(tactic| array_get_dec) => `(tactic| (with_reducible refine w_isN.mpr ?_))
local macro_rules | `(tactic| array_get_dec) => `(tactic| (with_reducible refine w_ge.mpr ?_))
local macro_rules | `(tactic| array_get_dec) => `(tactic| (with_reducible refine w_gt.mpr ?_))
local macro_rules | `(tactic| array_get_dec) => `(tactic| (with_reducible refine w_le.mpr ?_))
local macro_rules | `(tactic| array_get_dec) => `(tactic| (with_reducible refine w_lt.mpr ?_))
local macro_rules | `(tactic| array_get_dec) => `(tactic| (with_reducible refine w_neg.mpr ?_))
local macro_rules | `(tactic| array_get_dec) => `(tactic| (with_reducible refine w_sub.mpr ?_))
local macro_rules | `(tactic| array_get_dec) => `(tactic| (with_reducible refine w_add.mpr ?_))
local macro_rules | `(tactic| array_get_dec) => `(tactic| (with_reducible refine w_go1.mpr ?_))
local macro_rules | `(tactic| array_get_dec) => `(tactic| (with_reducible refine w_go0.mpr ?_))
local macro_rules | `(tactic| array_get_dec) => `(tactic| (with_reducible refine w_gSb.mpr ?_))
local macro_rules | `(tactic| array_get_dec) => `(tactic| (with_reducible refine w_retN.mpr ?_))
local macro_rules | `(tactic| array_get_dec) => `(tactic| (with_reducible refine w_yes.mpr ?_))
local macro_rules | `(tactic| array_get_dec) => `(tactic| (with_reducible refine w_sNil.mpr ?_))
local macro_rules | `(tactic| array_get_dec) => `(tactic| (with_reducible refine w_gNm.mpr ?_))
local macro_rules | `(tactic| array_get_dec) => `(tactic| (with_reducible refine w_c.mpr ?_))
local macro_rules | `(tactic| array_get_dec) => `(tactic| (with_reducible refine w_not.mpr ?_))
local macro_rules | `(tactic| array_get_dec) => `(tactic| (with_reducible refine w_or.mpr ?_))
local macro_rules | `(tactic| array_get_dec) => `(tactic| (with_reducible refine w_and.mpr ?_))
local macro_rules | `(tactic| array_get_dec) => `(tactic| (with_reducible refine w_ifE.mpr ?_))
local macro_rules | `(tactic| array_get_dec) => `(tactic| (with_reducible refine w_nil.mpr ?_))
local macro_rules | `(tactic| array_get_dec) => `(tactic| (with_reducible refine w_cons.mpr ?_))
local macro_rules | `(tactic| array_get_dec) => `(tactic| (with_reducible refine w_new.mpr ?_))
local macro_rules | `(tactic| array_get_dec) => `(tactic| (with_reducible refine w_ls.mpr ?_))
local macro_rules | `(tactic| array_get_dec) => `(tactic| (with_reducible refine w_tup.mpr ?_))
local macro_rules | `(tactic| array_get_dec) => `(tactic| (with_reducible refine w_bf.mpr ?_))
local macro_rules | `(tactic| array_get_dec) => `(tactic| (with_reducible refine w_call.mpr ?_))
local macro_rules | `(tactic| array_get_dec) => `(tactic| (with_reducible refine w_un.mpr ?_))
local macro_rules | `(tactic| array_get_dec) => `(tactic| (with_reducible refine w_op.mpr ?_))
local macro_rules | `(tactic| array_get_dec) => `(tactic| (with_reducible refine w_bNot.mpr ?_))
local macro_rules | `(tactic| array_get_dec) => `(tactic| (with_reducible refine w_bOr.mpr ?_))
local macro_rules | `(tactic| array_get_dec) => `(tactic| (with_reducible refine w_bAnd.mpr ?_))
local macro_rules | `(tactic| array_get_dec) => `(tactic| (with_reducible refine w_val.mpr ?_))
local macro_rules | `(tactic| array_get_dec) => `(tactic| (with_reducible refine w_if.mpr ?_))
local macro_rules | `(tactic| array_get_dec) => `(tactic| (with_reducible refine w_ret.mpr ?_))
local macro_rules | `(tactic| array_get_dec) => `(tactic| (with_reducible refine w_drop.mpr ?_))
local macro_rules | `(tactic| array_get_dec) => `(tactic| ((with_reducible refine (w_tuple (xs := ?wx) ?wh).mpr ?_); (case wh => rfl)))
local macro_rules | `(tactic| array_get_dec) => `(tactic| ((with_reducible refine (w_listN (xs := ?wx) ?wh).mpr ?_); (case wh => rfl)))
local macro_rules | `(tactic| array_get_dec) => `(tactic| ((with_reducible refine (w_list (xs := ?wx) ?wh).mpr ?_); (case wh => rfl)))
local macro_rules | `(tactic| array_get_dec) => `(tactic| ((with_reducible refine (w_rng ?wh).mpr ?_); (case wh => constructor <;> omega)))
local macro_rules | `(tactic| array_get_dec) => `(tactic| (with_reducible refine w_cutT.mpr ?_))
local macro_rules | `(tactic| array_get_dec) => `(tactic| (with_reducible refine w_cutL.mpr ?_))
local macro_rules | `(tactic| array_get_dec) => `(tactic| (with_reducible refine w_ePart1.mpr ?_))
local macro_rules | `(tactic| array_get_dec) => `(tactic| (with_reducible refine w_ePart0.mpr ?_))
local macro_rules | `(tactic| array_get_dec) => `(tactic| (with_reducible refine w_eCut.mpr ?_))
local macro_rules | `(tactic| array_get_dec) => `(tactic| (with_reducible refine w_intB.mpr ?_))
local macro_rules | `(tactic| array_get_dec) => `(tactic| (with_reducible refine w_intI.mpr ?_))
local macro_rules | `(tactic| array_get_dec) => `(tactic| (with_reducible refine w_sFor.mpr ?_))
local macro_rules | `(tactic| array_get_dec) => `(tactic| (with_reducible refine w_iRng.mpr ?_))
local macro_rules | `(tactic| array_get_dec) => `(tactic| (with_reducible refine w_iZip.mpr ?_))
local macro_rules | `(tactic| array_get_dec) => `(tactic| (with_reducible refine w_iRev.mpr ?_))
local macro_rules | `(tactic| array_get_dec) => `(tactic| (with_reducible refine w_iEnum.mpr ?_))
local macro_rules | `(tactic| array_get_dec) => `(tactic| (with_reducible refine w_iSeq.mpr ?_))
local macro_rules | `(tactic| array_get_dec) => `(tactic| (with_reducible refine w_eLcN.mpr ?_))
local macro_rules | `(tactic| array_get_dec) => `(tactic| (with_reducible refine w_eLc.mpr ?_))
local macro_rules | `(tactic| array_get_dec) => `(tactic| (with_reducible refine w_nt.mpr ?_))
local macro_rules | `(tactic| array_get_dec) => `(tactic| (with_reducible refine w_nf.mpr ?_))
local macro_rules | `(tactic| array_get_dec) => `(tactic| (with_reducible refine w_tt.mpr ?_))
local macro_rules | `(tactic| array_get_dec) => `(tactic| (with_reducible refine w_ff.mpr ?_))
local macro_rules | `(tactic| array_get_dec) => `(tactic| (with_reducible refine w_asg.mpr ?_))
local macro_rules | `(tactic| array_get_dec) => `(tactic| (with_reducible refine w_seq.mpr ?_))
section
open PySem L2
end

/-! PureA -/
/-! PureA: the draws. -/
section
open PySem L2
/-- what is drawn from: the script's numbers, the mixed number, how many were drawn -/
structure Hs where
  l : List Int
  a : Int
  c : Int
def Hs.st (g : Hs) (rest : Store) : Store := .lst (g.l.map .int) :: .lst [.int g.a, .loc 0, .int g.c] :: rest
structure Hs.Ok (g : Hs) : Prop where
  len : g.l.length ≤ 63
  c0 : 0 ≤ g.c
theorem next_spec (g : Hs) (rest : Store) (n : Int) (hg : g.Ok) (h0 : 0 < n) (h1 : n < 1073741824) :
    Post (m_next [.loc 1, .int n] (g.st rest)) fun v S => ∃ r g', v = .int r ∧ S = Hs.st g' rest ∧ g'.Ok ∧ 0 ≤ r ∧ r < n := by
  unfold m_next
  refine w_fnP rfl ?_
  ((repeat array_get_dec) <;> (try dsimp only))
  have hat : ∀ ns : List Int, ns ≠ [] → ∃ k : Nat, g.c % (if ((ns.map PV.int).length : Int) > 1 then ((ns.map PV.int).length : Int) else 1) = k ∧ k < ns.length := by
    intro ns hn
    have hp : 0 < ns.length := List.length_pos_iff.mpr hn
    rw [List.length_map]
    split
    · refine ⟨(g.c % ns.length).toNat, ?_, ?_⟩
      · have := Int.emod_nonneg g.c (b := (ns.length : Int)) (by omega)
        omega
      · have := Int.emod_nonneg g.c (b := (ns.length : Int)) (by omega)
        have := Int.emod_lt_of_pos g.c (b := (ns.length : Int)) (by omega)
        omega
    · exact ⟨0, by omega, hp⟩
  by_cases hl : g.l = []
  · generalize (g.c % if ((g.l.map PV.int).length : Int) > 1 then ((g.l.map PV.int).length : Int) else 1) = at'
    rw [if_neg (by rw [hl]; decide)]
    ((repeat array_get_dec) <;> (try dsimp only))
    rw [if_neg (by decide)]
    ((repeat array_get_dec) <;> (try dsimp only))
    refine (w_setL rfl rfl).mpr ?_
    ((repeat array_get_dec) <;> (try dsimp only))
    refine (w_setL rfl rfl).mpr ?_
    ((repeat array_get_dec) <;> (try dsimp only))
    refine (leave_same rfl).mpr ?_
    exact ⟨_, ⟨g.l, (g.a * 48271 + 0 * 69621 + 11) % 2147483647, g.c + 1⟩, rfl, rfl, ⟨hg.len, by have := hg.c0; show 0 ≤ g.c + 1; omega⟩, Int.emod_nonneg _ (by omega), Int.emod_lt_of_pos _ h0⟩
  · obtain ⟨k, hk, hk2⟩ := hat g.l hl
    have hx : atI (g.l.map PV.int) (k : Int) = some (.int g.l[k]) := by
      rw [L2.atI_nat (j := k)]
      rw [List.getElem?_map, List.getElem?_eq_getElem hk2]
      rfl
    rw [hk]
    rw [if_pos (by cases h : g.l with | nil => exact absurd h hl | cons _ _ => rfl)]
    ((repeat array_get_dec) <;> (try dsimp only))
    refine (w_ix rfl hx).mpr ?_
    ((repeat array_get_dec) <;> (try dsimp only))
    split
    · ((repeat array_get_dec) <;> (try dsimp only))
      refine (w_setL rfl (ixOf_nat (by rw [List.length_map]; exact hk2))).mpr ?_
      ((repeat array_get_dec) <;> (try dsimp only))
      refine (leave_same rfl).mpr ?_
      refine ⟨_, ⟨g.l.set k (g.l[k] / n), g.a, g.c⟩, rfl, ?_, ⟨by rw [List.length_set]; exact hg.len, hg.c0⟩, Int.emod_nonneg _ (by omega), Int.emod_lt_of_pos _ h0⟩
      unfold Hs.st
      rw [List.map_set]
      rfl
    · ((repeat array_get_dec) <;> (try dsimp only))
      refine (w_setL rfl rfl).mpr ?_
      ((repeat array_get_dec) <;> (try dsimp only))
      refine (w_setL rfl rfl).mpr ?_
      ((repeat array_get_dec) <;> (try dsimp only))
      refine (leave_same rfl).mpr ?_
      exact ⟨_, ⟨g.l, (g.a * 48271 + g.l[k] * 69621 + 11) % 2147483647, g.c + 1⟩, rfl, rfl, ⟨hg.len, by have := hg.c0; show 0 ≤ g.c + 1; omega⟩, Int.emod_nonneg _ (by omega), Int.emod_lt_of_pos _ h0⟩
end

/-! PureC -/
/-! PureC: houses, numbers. -/
section
open PySem L2
/-- [x for x in range(n) if p(x)]: what is taken, the store as it was -/
theorem lc_filter {env : Env} {S : Store} {QA : List PV → Store → Prop} {v n : Nat} {t : XB} (hn : n ≤ 1000) (hv : v < env.length) (p : Nat → Bool)
    (ht : ∀ i, i < n → Post (t (env.set v (some (.int (i : Int)))) S) fun k S' => k = p i ∧ S' = S) (hQ : QA (((List.range n).filter p).map fun (i : Nat) => PV.int (i : Int)) S) : LcP (.rng 0 n) (gNm v) t (eVar v) env S QA := by
  refine ⟨upto 0 n, rfl, lc_inv (fun i acc S' => i ≤ n ∧ acc = ((List.range i).filter p).map (fun (i : Nat) => PV.int (i : Int)) ∧ S' = S) ?_ ?_ _ 0 rfl (Nat.zero_le _) _ _ ⟨Nat.zero_le _, rfl, rfl⟩⟩
  · rintro i acc S' x ⟨hi, rfl, rfl⟩ hx
    refine ⟨rfl, ?_⟩
    have hlt : i < n := by
      have := (List.getElem?_eq_some_iff.mp hx).1
      rw [upto_length] at this
      exact this
    rw [upto_get hlt] at hx
    cases hx
    refine w_gNm.mpr ?_
    rw [Int.zero_add]
    refine (ht i hlt).mono ?_
    rintro k S2 ⟨rfl, rfl⟩
    have hr : (List.range (i + 1)).filter p = (List.range i).filter p ++ (if p i = true then [i] else []) := by
      rw [List.range_succ, List.filter_append]
      by_cases hp : p i = true <;> simp [hp]
    by_cases hp : p i = true
    · rw [if_pos hp]
      refine (w_var (x := .int (i : Int)) ?_).mpr ⟨?_, hlt, ?_, rfl⟩
      · rw [List.getElem?_set_self hv]
      · rw [List.length_map]
        exact Nat.lt_of_le_of_lt (Nat.le_trans (List.length_filter_le _ _) (by rw [List.length_range]; omega)) (by decide : 1000 < lim)
      · rw [hr, if_pos hp, List.map_append]
        rfl
    · rw [if_neg hp]
      refine ⟨hlt, ?_, rfl⟩
      rw [hr, if_neg hp, List.append_nil]
  · rintro acc S' ⟨_, rfl, rfl⟩
    rw [upto_length]
    exact ⟨rfl, hQ⟩
end
section
open PySem L2
/-- [e for x in range(n)], e draws -/
theorem lc_draws {env : LW.Env} {g : Hs} {rest : Store} {QA : List PV → Store → Prop} {v n : Nat} {e : XE} (hg : g.Ok) (hn : n ≤ 1000) (P : Nat → PV → Prop)
    (he : ∀ i g, i < n → Hs.Ok g → Post (e (env.set v (some (.int (i : Int)))) (g.st rest)) fun x S => ∃ g', S = Hs.st g' rest ∧ g'.Ok ∧ P i x)
    (hQ : ∀ xs g', Hs.Ok g' → xs.length = n → (∀ i x, xs[i]? = some x → P i x) → QA xs (g'.st rest)) : LcP (.rng 0 n) (gNm v) bYes e env (g.st rest) QA := by
  refine ⟨upto 0 n, rfl, lc_inv (fun i acc S' => i ≤ n ∧ acc.length = i ∧ (∀ j x, acc[j]? = some x → P j x) ∧ ∃ g', Hs.Ok g' ∧ S' = g'.st rest) ?_ ?_ _ 0 rfl (Nat.zero_le _) _ _ ⟨Nat.zero_le _, rfl, fun j x h => (by cases h), g, hg, rfl⟩⟩
  · rintro i acc S' x ⟨hi, hl, hP, g', hg', rfl⟩ hx
    refine ⟨rfl, ?_⟩
    have hlt : i < n := by
      have := (List.getElem?_eq_some_iff.mp hx).1
      rw [upto_length] at this
      exact this
    rw [upto_get hlt] at hx
    cases hx
    refine w_gNm.mpr (w_yes.mpr ?_)
    rw [Int.zero_add, if_pos rfl]
    refine (he i g' hlt hg').mono ?_
    rintro y S2 ⟨g2, rfl, hg2, hy⟩
    refine ⟨by rw [hl]; exact Nat.lt_of_lt_of_le hlt (Nat.le_trans hn (by decide)), hlt, by rw [List.length_append, hl]; rfl, fun j z hz => ?_, g2, hg2, rfl⟩
    rcases Nat.lt_or_ge j acc.length with h | h
    · rw [List.getElem?_append_left h] at hz
      exact hP j z hz
    · rw [List.getElem?_append_right h] at hz
      have : j - acc.length = 0 := by
        have := (List.getElem?_eq_some_iff.mp hz).1
        simp at this
        omega
      rw [this] at hz
      cases hz
      have : j = i := by omega
      rw [this]
      exact hy
  · rintro acc S' ⟨_, hl, hP, g', hg', rfl⟩
    rw [upto_length] at hl
    exact ⟨rfl, hQ acc g' hg' hl hP⟩
theorem number_spec (g : Hs) (rest : Store) (hg : g.Ok) : Post (m_number [.loc 1] (g.st rest)) fun v S => ∃ r g', v = .int r ∧ S = Hs.st g' rest ∧ g'.Ok ∧ 0 ≤ r ∧ r < 1000 := by
  unfold m_number
  refine w_fnP rfl ?_
  ((repeat array_get_dec) <;> (try dsimp only))
  ((refine Post.mono (next_spec _ _ _ hg ?hn0 ?hn1) ?_); (case hn0 => omega); (case hn1 => omega))
  rintro _ _ ⟨r1, g1, rfl, rfl, hg1, a1, b1⟩
  ((repeat array_get_dec) <;> (try dsimp only))
  ((refine Post.mono (next_spec _ _ _ hg1 ?hn0 ?hn1) ?_); (case hn0 => omega); (case hn1 => omega))
  rintro _ _ ⟨r2, g2, rfl, rfl, hg2, a2, b2⟩
  ((repeat array_get_dec) <;> (try dsimp only))
  ((refine Post.mono (next_spec _ _ _ hg2 ?hn0 ?hn1) ?_); (case hn0 => omega); (case hn1 => omega))
  rintro _ _ ⟨r3, g3, rfl, rfl, hg3, a3, b3⟩
  rcases (by omega : r3 = 0 ∨ r3 = 1) with rfl | rfl
  · ((repeat array_get_dec) <;> (try dsimp only))
    refine (leave_same rfl).mpr ?_
    exact ⟨_, _, rfl, rfl, hg3, a1, by omega⟩
  · ((repeat array_get_dec) <;> (try dsimp only))
    refine (leave_same rfl).mpr ?_
    exact ⟨_, _, rfl, rfl, hg3, a2, by omega⟩
/-- boxes, rising -/
def Boxes (xs : List Nat) : Prop := xs.Pairwise (· < ·) ∧ ∀ x ∈ xs, x < 6
def ivs (xs : List Nat) : List PV := xs.map fun (i : Nat) => PV.int (i : Int)
structure House where
  ins : List Nat
  out : Nat
  kept : List Nat
structure House.Ok (h : House) : Prop where
  ins : Boxes h.ins
  out : h.out < 6
  kept : Boxes h.kept
  apart : ∀ b ∈ h.kept, b ∉ h.ins ∧ b ≠ h.out
def House.pv (h : House) : PV := .tup [.tup (ivs h.ins), .int h.out, .tup (ivs h.kept)]
theorem boxes_filter (p : Nat → Bool) : Boxes ((List.range 6).filter p) := ⟨List.Pairwise.filter _ List.pairwise_lt_range, fun x h => List.mem_range.mp (List.mem_filter.mp h).1⟩
theorem Boxes.sub {xs ys : List Nat} (h : Boxes ys) (s : xs.Sublist ys) : Boxes xs := ⟨h.1.sublist s, fun x hx => h.2 x (s.subset hx)⟩
theorem cut_ivs (l : List Nat) (lo hi : Option Int) : ∃ l', cut (ivs l) lo hi = ivs l' ∧ l'.Sublist l := by
  unfold cut ivs
  rw [← List.map_drop, ← List.map_take]
  exact ⟨_, rfl, (List.take_sublist _ _).trans (List.drop_sublist _ _)⟩
theorem ints_of : ∀ {xs : List PV}, (∀ (i : Nat) (x : PV), xs[i]? = some x → ∃ s : Int, x = .int s) → ∃ ss : List Int, xs = ss.map .int
  | [], _ => ⟨[], rfl⟩
  | x :: r, h => by
    obtain ⟨s, rfl⟩ := h 0 x rfl
    obtain ⟨ss, rfl⟩ := ints_of (xs := r) fun i x hx => h (i + 1) x hx
    exact ⟨s :: ss, rfl⟩
theorem house_spec (g : Hs) (rest : Store) (hg : g.Ok) : Post (m_house [.loc 1] (g.st rest)) fun v S => ∃ h g', v = House.pv h ∧ h.Ok ∧ S = Hs.st g' rest ∧ g'.Ok := by
  unfold m_house
  refine w_fnP rfl ?_
  ((repeat array_get_dec) <;> (try dsimp only))
  ((refine Post.mono (next_spec _ _ _ hg ?hn0 ?hn1) ?_); (case hn0 => omega); (case hn1 => omega))
  rintro _ _ ⟨r1, g1, rfl, rfl, hg1, a1, b1⟩
  ((repeat array_get_dec) <;> (try dsimp only))
  obtain ⟨few, hf, hfew⟩ : ∃ few : Int, (few = 3 ∨ few = 2) ∧ atI [PV.int 3, PV.int 3, PV.int 3, PV.int 2] r1 = some (.int few) := by
    rcases (by omega : r1 = 0 ∨ r1 = 1 ∨ r1 = 2 ∨ r1 = 3) with rfl | rfl | rfl | rfl
    · exact ⟨3, .inl rfl, rfl⟩
    · exact ⟨3, .inl rfl, rfl⟩
    · exact ⟨3, .inl rfl, rfl⟩
    · exact ⟨2, .inr rfl, rfl⟩
  refine (w_ix rfl hfew).mpr ?_
  ((repeat array_get_dec) <;> (try dsimp only))
  refine lc_draws (P := fun _ x => ∃ s : Int, x = .int s) hg1 (by decide) (fun i g0 hi hg0 => ?_) (fun sorts0 g2 hg2 hl hP => ?_)
  · ((repeat array_get_dec) <;> (try dsimp only))
    ((refine Post.mono (next_spec _ _ _ hg0 ?hn0 ?hn1) ?_); (case hn0 => omega); (case hn1 => omega))
    rintro _ _ ⟨r2, g3, rfl, rfl, hg3, a2, b2⟩
    ((repeat array_get_dec) <;> (try dsimp only))
    cases hk : (few == 3) with
    | true =>
      ((repeat array_get_dec) <;> (try dsimp only))
      exact ⟨g3, rfl, hg3, _, rfl⟩
    | false =>
      ((repeat array_get_dec) <;> (try dsimp only))
      ((refine Post.mono (next_spec _ _ _ hg3 ?hn0 ?hn1) ?_); (case hn0 => omega); (case hn1 => omega))
      rintro _ _ ⟨r3, g4, rfl, rfl, hg4, a3, b3⟩
      ((repeat array_get_dec) <;> (try dsimp only))
      exact ⟨g4, rfl, hg4, _, rfl⟩
  · obtain ⟨sorts, rfl⟩ := ints_of hP
    rw [List.length_map] at hl
    have at6 : ∀ i : Nat, i < 6 → ∃ s : Int, sorts[i]? = some s ∧ atI (sorts.map PV.int) (i : Int) = some (.int s) := fun i hi => by
      have h6 : i < sorts.length := by rw [hl]; exact hi
      refine ⟨sorts[i], List.getElem?_eq_getElem h6, ?_⟩
      rw [L2.atI_nat (j := i)]
      rw [List.getElem?_map, List.getElem?_eq_getElem h6]
      rfl
    ((repeat array_get_dec) <;> (try dsimp only))
    ((refine Post.mono (next_spec _ _ _ hg2 ?hn0 ?hn1) ?_); (case hn0 => omega); (case hn1 => omega))
    rintro _ _ ⟨out, g3, rfl, rfl, hg3, a3, b3⟩
    ((repeat array_get_dec) <;> (try dsimp only))
    refine lc_filter (n := 6) (by decide) (by show 3 < 6; decide) (fun i => match sorts[i]? with | some s => s == 0 | none => false) (fun i hi => ?_) ?_
    · obtain ⟨s, h1, h2⟩ := at6 i hi
      ((repeat array_get_dec) <;> (try dsimp only))
      refine (w_ix rfl h2).mpr ?_
      ((repeat array_get_dec) <;> (try dsimp only))
      rw [h1]
      exact ⟨rfl, rfl⟩
    · ((repeat array_get_dec) <;> (try dsimp only))
      ((refine Post.mono (next_spec _ _ _ hg3 ?hn0 ?hn1) ?_); (case hn0 => omega); (case hn1 => omega))
      rintro _ _ ⟨r4, g4, rfl, rfl, hg4, a4, b4⟩
      obtain ⟨mx, hm, hmx⟩ : ∃ mx : Int, (mx = 3 ∨ mx = 6) ∧ atI [PV.int 3, PV.int 6] r4 = some (.int mx) := by
        rcases (by omega : r4 = 0 ∨ r4 = 1) with rfl | rfl
        · exact ⟨3, .inl rfl, rfl⟩
        · exact ⟨6, .inr rfl, rfl⟩
      refine (w_ix rfl hmx).mpr ?_
      ((repeat array_get_dec) <;> (try dsimp only))
      ((refine Post.mono (next_spec _ _ _ hg4 ?hn0 ?hn1) ?_); (case hn0 => omega); (case hn1 => omega))
      rintro _ _ ⟨r5, g5, rfl, rfl, hg5, a5, b5⟩
      ((repeat array_get_dec) <;> (try dsimp only))
      obtain ⟨ins, e1, hins⟩ := cut_ivs ((List.range 6).filter fun i => match sorts[i]? with | some s => s == 0 | none => false) none (some (1 + r5))
      rw [show ivs _ = List.map _ _ from rfl] at e1
      rw [e1]
      refine lc_filter (n := 6) (by decide) (by show 3 < 6; decide) (fun i => match sorts[i]? with | some s => s == 1 && !((i : Int) == out) | none => false) (fun i hi => ?_) ?_
      · obtain ⟨s, h1, h2⟩ := at6 i hi
        ((repeat array_get_dec) <;> (try dsimp only))
        refine (w_ix rfl h2).mpr ?_
        ((repeat array_get_dec) <;> (try dsimp only))
        rw [h1]
        split
        · rename_i hs
          ((repeat array_get_dec) <;> (try dsimp only))
          refine ⟨?_, rfl⟩
          show _ = (s == 1 && _)
          rw [hs]
          rfl
        · rename_i hs
          refine ⟨?_, rfl⟩
          show _ = (s == 1 && _)
          rw [Bool.not_eq_true] at hs
          rw [hs]
          rfl
      · ((repeat array_get_dec) <;> (try dsimp only))
        refine (leave_same rfl).mpr ?_
        refine ⟨⟨ins, out.toNat, (List.range 6).filter fun i => match sorts[i]? with | some s => s == 1 && !((i : Int) == out) | none => false⟩, g5, ?_, ⟨(boxes_filter _).sub hins, by show out.toNat < 6; omega, ?_, fun b hb => ?_⟩, rfl, hg5⟩
        rotate_left
        · exact boxes_filter (fun i => match sorts[i]? with | some s => s == 1 && !((i : Int) == out) | none => false)
        rotate_left
        · unfold House.pv
          rw [Int.toNat_of_nonneg a3]
          rfl
        · obtain ⟨hb1, hb2⟩ := List.mem_filter.mp hb
          have hb6 : b < 6 := List.mem_range.mp hb1
          obtain ⟨s, h1, h2⟩ := at6 b hb6
          rw [h1] at hb2
          simp only [Bool.and_eq_true, beq_iff_eq, Bool.not_eq_true', beq_eq_false_iff_ne] at hb2
          refine ⟨fun z => ?_, fun z => ?_⟩
          · have := (List.mem_filter.mp (hins.subset z)).2
            rw [h1] at this
            simp only [beq_iff_eq] at this
            omega
          · apply hb2.2
            have z : b = out.toNat := z
            omega
end

/-! PureD -/
/-! PureD: what is handed in is a program. -/
section
open PySem L2
/-- isinstance of a value whose kind is seen -/
def isaR (t : Ty) (x : PV) (S : Store) : R PV := match isTy S x t with
  | some k => .ok (.bl k) S
  | none => .bad
theorem w_isa {t : Ty} {a : XE} {env : LW.Env} {S : Store} {Q : PV → Store → Prop} : Post (eIsa t a env S) Q ↔ Post (a env S) fun x S => Post (isaR t x S) Q := by
  unfold eIsa
  rw [Post.bind]
  exact Iff.rfl
theorem w_isaK {S : Store} {Q : PV → Store → Prop} {x : PV} {t : Ty} {k : Bool} (h : isTy S x t = some k) : Post (isaR t x S) Q ↔ Q (.bl k) S := by unfold isaR; rw [h]; exact Post.ok
theorem w_chain {o1 o2 : Op2} {a b c : XE} {env : LW.Env} {S : Store} {Q : PV → Store → Prop} : Post (eChain o1 o2 a b c env S) Q ↔ Post (a env S) fun x S => Post (b env S) fun y S => Post (o1 x y S) fun k S => match k with
    | .bl true => Post (c env S) fun z S => Post (o2 y z S) Q
    | .bl false => Q (.bl false) S
    | _ => False := by
  unfold eChain
  simp only [Post.bind]
  constructor
  · intro h
    refine h.mono fun x S h => h.mono fun y S h => h.mono fun k S h => ?_
    split at h
    · rw [Post.bind] at h; exact h
    · exact Post.ok.mp h
    · exact (Post.bad.mp h).elim
  · intro h
    refine h.mono fun x S h => h.mono fun y S h => h.mono fun k S h => ?_
    split at h
    · rw [Post.bind]; exact h
    · exact Post.ok.mpr h
    · exact h.elim
/-- all([..]) of a comprehension over a sequence's values, the store as it was -/
theorem lc_all {it : It} {all : List PV} {env : LW.Env} {S : Store} {QA : List PV → Store → Prop} {g : XG} {e : XE} (ha : it.items S = some all) (hn : all.length ≤ 1000) (p : PV → Bool)
    (he : ∀ x, x ∈ all → Post (g x env S) fun env' S' => S' = S ∧ Post (e env' S) fun y S'' => y = .bl (p x) ∧ S'' = S) (hQ : QA (all.map fun x => PV.bl (p x)) S) : LcP it g bYes e env S QA := by
  refine ⟨all, ha, lc_inv (fun i acc S' => i ≤ all.length ∧ acc = (all.take i).map (fun x => PV.bl (p x)) ∧ S' = S) ?_ ?_ _ 0 rfl (Nat.zero_le _) _ _ ⟨Nat.zero_le _, rfl, rfl⟩⟩
  · rintro i acc S' x ⟨hi, rfl, rfl⟩ hx
    refine ⟨ha, ?_⟩
    have hlt := (List.getElem?_eq_some_iff.mp hx).1
    refine (he x (List.mem_of_getElem? hx)).mono ?_
    rintro env' S2 ⟨rfl, h2⟩
    refine w_yes.mpr ?_
    rw [if_pos rfl]
    refine h2.mono ?_
    rintro y S3 ⟨rfl, rfl⟩
    refine ⟨?_, hlt, ?_, rfl⟩
    · rw [List.length_map, List.length_take]
      exact Nat.lt_of_le_of_lt (Nat.le_trans (Nat.min_le_right _ _) hn) (by decide : 1000 < lim)
    · rw [List.take_add_one, hx, List.map_append]
      rfl
  · rintro acc S' ⟨_, rfl, rfl⟩
    rw [List.take_length]
    exact ⟨ha, hQ⟩
theorem bools_map (p : PV → Bool) : ∀ xs : List PV, bools (xs.map fun x => PV.bl (p x)) = some (xs.map p)
  | [] => rfl
  | x :: r => by
    show (bools (r.map fun x => PV.bl (p x))).map (p x :: ·) = _
    rw [bools_map p r]
    rfl
theorem w_all {S : Store} {Q : PV → Store → Prop} {p : PV → Bool} {xs : List PV} : Post (bAll [.ls (xs.map fun x => PV.bl (p x))] S) Q ↔ Q (.bl (xs.all p)) S := by
  unfold bAll
  show Post (match (some (xs.map fun x => PV.bl (p x))).bind bools with | some ks => R.ok (PV.bl (ks.all id)) S | none => .bad) Q ↔ _
  rw [show (some (xs.map fun x => PV.bl (p x))).bind bools = some (xs.map p) from bools_map p xs]
  show Post (R.ok (PV.bl ((xs.map p).all id)) S) Q ↔ _
  rw [Post.ok, List.all_map]
  exact Iff.rfl
theorem w_any {S : Store} {Q : PV → Store → Prop} {p : PV → Bool} {xs : List PV} : Post (bAny [.ls (xs.map fun x => PV.bl (p x))] S) Q ↔ Q (.bl (xs.any p)) S := by
  unfold bAny
  show Post (match (some (xs.map fun x => PV.bl (p x))).bind bools with | some ks => R.ok (PV.bl (ks.any id)) S | none => .bad) Q ↔ _
  rw [show (some (xs.map fun x => PV.bl (p x))).bind bools = some (xs.map p) from bools_map p xs]
  show Post (R.ok (PV.bl ((xs.map p).any id)) S) Q ↔ _
  rw [Post.ok, List.any_map]
  exact Iff.rfl
end
local macro_rules | `(tactic| array_mem_dec) => `(tactic| (simp only [Bool.not_true, Bool.not_false]))
local macro_rules | `(tactic| array_mem_dec) => `(tactic| ((with_reducible refine (w_isaK (k := ?wx) ?wh).mpr ?_); (case wh => rfl)))
local macro_rules | `(tactic| array_mem_dec) => `(tactic| (with_reducible refine w_chain.mpr ?_))
local macro_rules | `(tactic| array_mem_dec) => `(tactic| (with_reducible refine w_isa.mpr ?_))
local macro_rules | `(tactic| array_mem_dec) => `(tactic| array_get_dec)
section
open PySem L2
end
section
open PySem L2
theorem is_below_spec (S : Store) (i n : Int) : Post (m_is_below [.int i, .int n] S) fun v S' => v = .bl (decide (0 ≤ i ∧ i < n)) ∧ S' = S := by
  unfold m_is_below
  refine w_fnP rfl ?_
  ((repeat array_mem_dec) <;> (try dsimp only))
  by_cases h : 0 ≤ i
  · rw [decide_eq_true h]
    ((repeat array_mem_dec) <;> (try dsimp only))
    refine (leave_same rfl).mpr ⟨?_, rfl⟩
    by_cases h2 : i < n <;> simp [h, h2]
  · rw [decide_eq_false h]
    ((repeat array_mem_dec) <;> (try dsimp only))
    refine (leave_same rfl).mpr ⟨?_, rfl⟩
    simp [h]
theorem is_tuple_of_spec (S : Store) (xs : List PV) (a b : Int) : Post (m_is_tuple_of [.tup xs, .int a, .int b] S) fun v S' => v = .bl (decide (a ≤ xs.length ∧ (xs.length : Int) ≤ b)) ∧ S' = S := by
  unfold m_is_tuple_of
  refine w_fnP rfl ?_
  ((repeat array_mem_dec) <;> (try dsimp only))
  by_cases h : a ≤ (xs.length : Int)
  · rw [decide_eq_true h]
    ((repeat array_mem_dec) <;> (try dsimp only))
    refine (leave_same rfl).mpr ⟨?_, rfl⟩
    by_cases h2 : (xs.length : Int) ≤ b <;> simp [h, h2]
  · rw [decide_eq_false h]
    ((repeat array_mem_dec) <;> (try dsimp only))
    refine (leave_same rfl).mpr ⟨?_, rfl⟩
    simp [h]
end

/-! PureE -/
/-! PureE: houses are houses. -/
section
open PySem L2
theorem cut_tail (xs : List PV) : cut xs (some 1) none = xs.drop 1 := by
  unfold cut
  have h1 : HT.sIx xs.length 0 (some 1) = min 1 xs.length := HT.sIx_nat xs.length 0 1
  rw [h1, HT.sIx_none]
  cases xs with
  | nil => rfl
  | cons x r =>
    have h2 : min 1 (x :: r).length = 1 := by rw [List.length_cons]; omega
    rw [h2]
    show List.take ((r.length + 1) - 1) r = r
    rw [Nat.add_sub_cancel]
    exact List.take_length
def isB (n : Int) : PV → Bool
  | .int i => decide (0 ≤ i ∧ i < n)
  | _ => false
def isUp : PV → Bool
  | .tup [.int a, .int b] => decide (a < b)
  | _ => false
theorem ivs_mem {xs : List Nat} {x : PV} (h : x ∈ ivs xs) : ∃ i : Nat, i ∈ xs ∧ x = .int i := by
  obtain ⟨i, h1, rfl⟩ := List.mem_map.mp h
  exact ⟨i, h1, rfl⟩
theorem ivs_length (xs : List Nat) : (ivs xs).length = xs.length := List.length_map ..
theorem asc_len : ∀ (xs : List Nat) (k n : Nat), xs.Pairwise (· < ·) → (∀ x ∈ xs, k ≤ x ∧ x < n) → xs.length ≤ n - k
  | [], _, _, _, _ => Nat.zero_le _
  | a :: r, k, n, h, hb => by
    have h1 := List.pairwise_cons.mp h
    have h2 := asc_len r (a + 1) n h1.2 fun x hx => ⟨h1.1 x hx, (hb x (by simp [hx])).2⟩
    have h3 := hb a (by simp)
    rw [List.length_cons]
    omega
theorem Boxes.len {xs : List Nat} (h : Boxes xs) : xs.length ≤ 6 := asc_len xs 0 6 h.1 fun x hx => ⟨Nat.zero_le _, h.2 x hx⟩
theorem ups {xs : List Nat} (h : xs.Pairwise (· < ·)) : (pairs (ivs xs) ((ivs xs).drop 1)).all isUp = true := by
  induction xs with
  | nil => rfl
  | cons a r ih =>
    cases r with
    | nil => rfl
    | cons b r =>
      have h1 := List.pairwise_cons.mp h
      have h2 := ih h1.2
      have h3 : a < b := h1.1 b (by simp)
      show (isUp (.tup [.int a, .int b]) && (pairs (ivs (b :: r)) ((ivs (b :: r)).drop 1)).all isUp) = true
      rw [h2]
      show (decide ((a : Int) < (b : Int)) && true) = true
      rw [decide_eq_true (by omega)]
      rfl
theorem are_rising_spec (S : Store) (xs : List Nat) (h : Boxes xs) : Post (m_are_rising_boxes [.tup (ivs xs)] S) fun v S' => v = .bl true ∧ S' = S := by
  unfold m_are_rising_boxes
  refine w_fnP rfl ?_
  ((repeat array_mem_dec) <;> (try dsimp only))
  refine lc_all (all := ivs xs) (by rfl) (by rw [ivs_length]; have := h.len; omega) (isB 6) (fun x hx => ?_) ?_
  · obtain ⟨i, hi, rfl⟩ := ivs_mem hx
    ((repeat array_mem_dec) <;> (try dsimp only))
    refine ⟨by trivial, ?_⟩
    ((repeat array_mem_dec) <;> (try dsimp only))
    exact is_below_spec _ _ _
  · ((repeat array_mem_dec) <;> (try dsimp only))
    refine w_all.mpr ?_
    have e : (ivs xs).all (isB 6) = true := List.all_eq_true.mpr fun x hx => by
      obtain ⟨i, hi, rfl⟩ := ivs_mem hx
      have := h.2 i hi
      exact decide_eq_true (by omega)
    rw [e]
    ((repeat array_mem_dec) <;> (try dsimp only))
    rw [cut_tail]
    refine lc_all (all := pairs (ivs xs) ((ivs xs).drop 1)) (by rfl) ?_ isUp (fun x hx => ?_) ?_
    · rw [pairs_length, ivs_length]
      have := h.len
      omega
    · obtain ⟨⟨a, b⟩, hab, rfl⟩ := List.mem_map.mp hx
      obtain ⟨i, hi, rfl⟩ := ivs_mem (List.of_mem_zip hab).1
      obtain ⟨j, hj, rfl⟩ := ivs_mem (List.mem_of_mem_drop (List.of_mem_zip hab).2)
      refine (w_gTp rfl rfl).mpr ?_
      ((repeat array_mem_dec) <;> (try dsimp only))
      refine ⟨by trivial, ?_⟩
      ((repeat array_mem_dec) <;> (try dsimp only))
      exact ⟨by trivial, by trivial⟩
    · ((repeat array_mem_dec) <;> (try dsimp only))
      refine w_all.mpr ?_
      rw [ups h.1]
      ((repeat array_mem_dec) <;> (try dsimp only))
      exact (leave_same rfl).mpr ⟨rfl, rfl⟩
theorem house_items (h : House) : seqOf S (House.pv h) = some [.tup (ivs h.ins), .int h.out, .tup (ivs h.kept)] := rfl
theorem inSeq_ivs (b : Nat) : ∀ xs : List Nat, inSeq (.int b) (ivs xs) = xs.contains b
  | [] => rfl
  | x :: r => by
    show (eqv (.int x) (.int b) || inSeq (.int b) (ivs r)) = _
    rw [inSeq_ivs b r, List.contains_cons]
    show (((x : Int) == (b : Int)) || _) = _
    congr 1
    by_cases e : b = x
    · subst e; rw [beq_self_eq_true, beq_self_eq_true]
    · rw [beq_eq_false_iff_ne.mpr e, beq_eq_false_iff_ne.mpr (by omega : (x : Int) ≠ b)]
theorem flat_ivs (xs : List Nat) : (ivs xs).all flat = true := List.all_eq_true.mpr fun x hx => by
  obtain ⟨i, _, rfl⟩ := ivs_mem hx
  rfl
theorem is_house_spec (S : Store) (h : House) (ho : h.Ok) : Post (m_is_house [House.pv h] S) fun v S' => v = .bl true ∧ S' = S := by
  unfold m_is_house
  refine w_fnP rfl ?_
  ((repeat array_mem_dec) <;> (try dsimp only))
  refine (is_tuple_of_spec _ _ _ _).mono ?_
  rintro _ _ ⟨rfl, rfl⟩
  rw [decide_eq_true (by constructor <;> simp)]
  ((repeat array_mem_dec) <;> (try dsimp only))
  refine (are_rising_spec _ _ ho.ins).mono ?_
  rintro _ _ ⟨rfl, rfl⟩
  ((repeat array_mem_dec) <;> (try dsimp only))
  refine (is_below_spec _ _ _).mono ?_
  rintro _ _ ⟨rfl, rfl⟩
  rw [decide_eq_true (by have := ho.out; omega)]
  ((repeat array_mem_dec) <;> (try dsimp only))
  refine (are_rising_spec _ _ ho.kept).mono ?_
  rintro _ _ ⟨rfl, rfl⟩
  ((repeat array_mem_dec) <;> (try dsimp only))
  refine lc_all (all := ivs h.kept) (by rfl) (by rw [ivs_length]; have := ho.kept.len; omega) (fun _ => false) (fun x hx => ?_) ?_
  · obtain ⟨i, hi, rfl⟩ := ivs_mem hx
    ((repeat array_mem_dec) <;> (try dsimp only))
    refine ⟨by trivial, ?_⟩
    ((repeat array_mem_dec) <;> (try dsimp only))
    refine (w_in rfl rfl (flat_ivs _)).mpr ?_
    obtain ⟨h1, h2⟩ := ho.apart i hi
    rw [inSeq_ivs, show h.ins.contains i = false by rw [Bool.eq_false_iff]; intro z; exact h1 (List.contains_iff_mem.mp z)]
    ((repeat array_mem_dec) <;> (try dsimp only))
    rw [beq_eq_false_iff_ne.mpr (by omega : (i : Int) ≠ h.out)]
    exact ⟨rfl, by trivial⟩
  · ((repeat array_mem_dec) <;> (try dsimp only))
    refine w_any.mpr ?_
    rw [show (ivs h.kept).any (fun _ => false) = false from List.any_eq_false.mpr fun _ _ => by decide]
    ((repeat array_mem_dec) <;> (try dsimp only))
    exact (leave_same rfl).mpr ⟨rfl, rfl⟩
end

/-! PureF -/
/-! PureF: checks. -/
section
open PySem L2
/-- a for over what stays; I: by the item's number -/
theorem for_go {it : It} {all : List PV} {env : LW.Env} {S : Store} {g : XG} {b : XS} {QS : Fl × LW.Env → Store → Prop} (I : Nat → LW.Env → Store → Prop) (ha : it.items S = some all) (h0 : I 0 env S)
    (h : ∀ i env S x, I i env S → all[i]? = some x → it.items S = some all ∧ Post (g x env S) fun env S => Post (b env S) fun p S => match p.1 with
      | .nx => I (i + 1) p.2 S
      | .ct => I (i + 1) p.2 S
      | .bk => QS (.nx, p.2) S
      | .rt v => QS (.rt v, p.2) S)
    (he : ∀ env S, I all.length env S → it.items S = some all ∧ QS (.nx, env) S) : ForP it g b env S QS := ⟨all, ha, for_inv I h he all 0 rfl (Nat.zero_le _) env S h0⟩
theorem pairs_at {xs ys : List PV} {i : Nat} {z : PV} (h : (pairs xs ys)[i]? = some z) : ∃ x y, xs[i]? = some x ∧ ys[i]? = some y ∧ z = .tup [x, y] := by
  unfold pairs at h
  rw [List.getElem?_map] at h
  cases e : (xs.zip ys)[i]? with
  | none => rw [e] at h; cases h
  | some p =>
    rw [e] at h
    obtain ⟨x, y⟩ := p
    obtain ⟨h1, h2⟩ := List.getElem?_zip_eq_some.mp e
    exact ⟨x, y, h1, h2, (Option.some.inj h).symm⟩
end
section
open PySem L2
theorem check_houses_spec (S : Store) (hs : List House) (h1 : 1 ≤ hs.length) (h3 : hs.length ≤ 3) (ho : ∀ h ∈ hs, House.Ok h) : Post (m_check_houses [.tup (hs.map House.pv)] S) fun v S' => v = .non ∧ S' = S := by
  unfold m_check_houses
  refine w_fnP rfl ?_
  ((repeat array_mem_dec) <;> (try dsimp only))
  refine (is_tuple_of_spec _ _ _ _).mono ?_
  rintro _ _ ⟨rfl, rfl⟩
  rw [List.length_map, decide_eq_true (by omega)]
  ((repeat array_mem_dec) <;> (try dsimp only))
  refine for_go (all := pairs (upto 0 (hs.map House.pv).length) (hs.map House.pv)) (fun i env S' => S' = _ ∧ ∃ a b, env = [some (.tup (hs.map House.pv)), a, b]) (by rfl) ⟨rfl, none, none, rfl⟩ ?_ ?_
  · rintro i env S' x ⟨rfl, a, b, rfl⟩ hx
    obtain ⟨x, y, hx, hy, rfl⟩ := pairs_at hx
    refine ⟨by rfl, ?_⟩
    rw [List.getElem?_map] at hy
    cases hh : hs[i]? with
    | none => rw [hh] at hy; cases hy
    | some h =>
      rw [hh] at hy
      cases hy
      ((repeat array_mem_dec) <;> (try dsimp only))
      refine (is_house_spec _ h (ho h (List.mem_of_getElem? hh))).mono ?_
      rintro _ _ ⟨rfl, rfl⟩
      ((repeat array_mem_dec) <;> (try dsimp only))
      exact ⟨by trivial, _, _, rfl⟩
  · rintro env S' ⟨rfl, a, b, rfl⟩
    refine ⟨by rfl, ?_⟩
    ((repeat array_mem_dec) <;> (try dsimp only))
    exact (leave_same rfl).mpr ⟨rfl, rfl⟩
end

/-! PureG -/
/-! PureG: rows are rows. -/
section
open PySem L2
theorem w_getS {ks : List Str} {vs : List PV} {k : XE} {env : LW.Env} {S : Store} {Q : PV → Store → Prop} : Post (eGetS ks vs k env S) Q ↔ Post (k env S) fun kv S => match kv with
    | .str k => Q ((lookS ks vs k).getD .non) S
    | _ => False := by
  unfold eGetS
  rw [Post.bind]
  constructor <;> (intro h; refine h.mono fun x S h => ?_; cases x <;> first | exact Post.ok.mp h | exact Post.ok.mpr h | exact (Post.bad.mp h).elim | exact False.elim h)
theorem cut1 (x : PV) (r : List PV) : cut (x :: r) (some 1) none = r := by
  have h1 : HT.sIx (x :: r).length 0 (some 1) = min 1 (x :: r).length := HT.sIx_nat (x :: r).length 0 1
  unfold cut
  rw [h1, HT.sIx_none]
  have h2 : min 1 (x :: r).length = 1 := by rw [List.length_cons]; omega
  rw [h2]
  show List.take ((r.length + 1) - 1) r = r
  rw [Nat.add_sub_cancel]
  exact List.take_length
end
section
open PySem L2
def lims (rows routines : Nat) : Cell := .dks ["box", "number", "row", "routine"] [.int 6, .int 1000, .int rows, .int routines]
def limOf (rows routines : Nat) (k : Str) : Option PV := lookS ["box", "number", "row", "routine"] [.int 6, .int 1000, .int rows, .int routines] k
/-- a value below its place's limit -/
def Fits (rows routines : Nat) (v p : PV) : Prop := ∃ (i n : Int) (k : Str), v = .int i ∧ p = .str k ∧ limOf rows routines k = some (.int n) ∧ 0 ≤ i ∧ i < n
theorem is_row_spec (S : Store) (l rows routines : Nat) (w : Str) (vs ps : List PV) (hl : S[l]? = some (lims rows routines)) (hp : lookS K_PLACES V_PLACES w = some (.tup ps)) (hn : vs.length = ps.length) (hn3 : vs.length ≤ 3)
    (hf : ∀ (i : Nat) v p, vs[i]? = some v → ps[i]? = some p → Fits rows routines v p) : Post (m_is_row [.tup (.str w :: vs), .loc l] S) fun v S' => v = .bl true ∧ S' = S := by
  unfold m_is_row
  refine w_fnP rfl ?_
  ((repeat array_mem_dec) <;> (try dsimp only))
  rw [beq_eq_false_iff_ne.mpr (by rw [List.length_cons]; omega : ((PV.str w :: vs).length : Int) ≠ 0)]
  ((repeat array_mem_dec) <;> (try dsimp only))
  refine w_getS.mpr ?_
  ((repeat array_mem_dec) <;> (try dsimp only))
  rw [hp, show (some (PV.tup ps)).getD PV.non = PV.tup ps from rfl, show (PV.tup ps).isNon = false from rfl]
  ((repeat array_mem_dec) <;> (try dsimp only))
  rw [show ((((PV.str w :: vs).length : Int)) == (ps.length : Int) + 1) = true from beq_iff_eq.mpr (by rw [List.length_cons]; omega)]
  ((repeat array_mem_dec) <;> (try dsimp only))
  rw [cut1]
  refine lc_all (all := pairs vs ps) (by rfl) (by rw [pairs_length]; omega) (fun _ => true) (fun x hx => ?_) ?_
  · obtain ⟨i, hi⟩ := List.getElem?_of_mem hx
    obtain ⟨v, p, h1, h2, rfl⟩ := pairs_at hi
    obtain ⟨j, n, k, rfl, rfl, hk, h0, h3⟩ := hf i v p h1 h2
    refine (w_gTp (xs := [.int j, .str k]) (by rfl) (by rfl)).mpr ?_
    ((repeat array_mem_dec) <;> (try dsimp only))
    refine ⟨by trivial, ?_⟩
    ((repeat array_mem_dec) <;> (try dsimp only))
    refine (w_ixS (show dksOf S (.loc l) = some _ by unfold dksOf; simp only [hl]; rfl) hk).mpr ?_
    ((repeat array_mem_dec) <;> (try dsimp only))
    refine (is_below_spec _ _ _).mono ?_
    rintro _ _ ⟨rfl, rfl⟩
    exact ⟨by rw [decide_eq_true ⟨h0, h3⟩], rfl⟩
  · ((repeat array_mem_dec) <;> (try dsimp only))
    refine w_all.mpr ?_
    rw [show (pairs vs ps).all (fun _ => true) = true from List.all_eq_true.mpr fun _ _ => rfl]
    exact (leave_same rfl).mpr ⟨rfl, rfl⟩
inductive Row where
  | put (b n : Nat) | move (a b : Nat) | add (a b c : Nat) | take (a b c : Nat) | push (b : Nat) | pop (b : Nat) | say (b : Nat) | zero (b t : Nat) | go (t : Nat) | call (r : Nat) | back
def Row.pv : Row → PV
  | .put b n => .tup [.str "put", .int b, .int n]
  | .move a b => .tup [.str "move", .int a, .int b]
  | .add a b c => .tup [.str "add", .int a, .int b, .int c]
  | .take a b c => .tup [.str "take", .int a, .int b, .int c]
  | .push b => .tup [.str "push", .int b]
  | .pop b => .tup [.str "pop", .int b]
  | .say b => .tup [.str "say", .int b]
  | .zero b t => .tup [.str "zero", .int b, .int t]
  | .go t => .tup [.str "go", .int t]
  | .call r => .tup [.str "call", .int r]
  | .back => .tup [.str "back"]
def Row.Ok (rows routines : Nat) : Row → Prop
  | .put b n => b < 6 ∧ n < 1000
  | .move a b => a < 6 ∧ b < 6
  | .add a b c => a < 6 ∧ b < 6 ∧ c < 6
  | .take a b c => a < 6 ∧ b < 6 ∧ c < 6
  | .push b => b < 6
  | .pop b => b < 6
  | .say b => b < 6
  | .zero b t => b < 6 ∧ t < rows
  | .go t => t < rows
  | .call r => r < routines
  | .back => True
theorem fitsBox {rows routines b : Nat} (h : b < 6) : Fits rows routines (.int b) (.str "box") := ⟨b, 6, _, rfl, rfl, by rfl, by omega, by omega⟩
theorem fitsNum {rows routines b : Nat} (h : b < 1000) : Fits rows routines (.int b) (.str "number") := ⟨b, 1000, _, rfl, rfl, by rfl, by omega, by omega⟩
theorem fitsRow {rows routines b : Nat} (h : b < rows) : Fits rows routines (.int b) (.str "row") := ⟨b, rows, _, rfl, rfl, by rfl, by omega, by omega⟩
theorem fitsRou {rows routines b : Nat} (h : b < routines) : Fits rows routines (.int b) (.str "routine") := ⟨b, routines, _, rfl, rfl, by rfl, by omega, by omega⟩
theorem fits0 {rows routines : Nat} : ∀ (i : Nat) (v p : PV), ([] : List PV)[i]? = some v → ([] : List PV)[i]? = some p → Fits rows routines v p := fun i v p h => by cases h
theorem fits1 {rows routines : Nat} {v p : PV} {vs ps : List PV} (h : Fits rows routines v p) (r : ∀ (i : Nat) (v p : PV), vs[i]? = some v → ps[i]? = some p → Fits rows routines v p) : ∀ (i : Nat) (v' p' : PV), (v :: vs)[i]? = some v' → (p :: ps)[i]? = some p' → Fits rows routines v' p' := fun i v' p' h1 h2 => by
  cases i with
  | zero => cases h1; cases h2; exact h
  | succ i => exact r i v' p' h1 h2
theorem row_spec (S : Store) (l rows routines : Nat) (hl : S[l]? = some (lims rows routines)) (r : Row) (h : r.Ok rows routines) : Post (m_is_row [r.pv, .loc l] S) fun v S' => v = .bl true ∧ S' = S := by
  cases r with
  | put b n => exact is_row_spec S l rows routines _ _ [.str "box", .str "number"] hl (by decide +kernel) rfl (Nat.le_of_ble_eq_true rfl) (fits1 (fitsBox h.1) (fits1 (fitsNum h.2) fits0))
  | move a b => exact is_row_spec S l rows routines _ _ [.str "box", .str "box"] hl (by decide +kernel) rfl (Nat.le_of_ble_eq_true rfl) (fits1 (fitsBox h.1) (fits1 (fitsBox h.2) fits0))
  | add a b c => exact is_row_spec S l rows routines _ _ [.str "box", .str "box", .str "box"] hl (by decide +kernel) rfl (Nat.le_of_ble_eq_true rfl) (fits1 (fitsBox h.1) (fits1 (fitsBox h.2.1) (fits1 (fitsBox h.2.2) fits0)))
  | take a b c => exact is_row_spec S l rows routines _ _ [.str "box", .str "box", .str "box"] hl (by decide +kernel) rfl (Nat.le_of_ble_eq_true rfl) (fits1 (fitsBox h.1) (fits1 (fitsBox h.2.1) (fits1 (fitsBox h.2.2) fits0)))
  | push b => exact is_row_spec S l rows routines _ _ [.str "box"] hl (by decide +kernel) rfl (Nat.le_of_ble_eq_true rfl) (fits1 (fitsBox h) fits0)
  | pop b => exact is_row_spec S l rows routines _ _ [.str "box"] hl (by decide +kernel) rfl (Nat.le_of_ble_eq_true rfl) (fits1 (fitsBox h) fits0)
  | say b => exact is_row_spec S l rows routines _ _ [.str "box"] hl (by decide +kernel) rfl (Nat.le_of_ble_eq_true rfl) (fits1 (fitsBox h) fits0)
  | zero b t => exact is_row_spec S l rows routines _ _ [.str "box", .str "row"] hl (by decide +kernel) rfl (Nat.le_of_ble_eq_true rfl) (fits1 (fitsBox h.1) (fits1 (fitsRow h.2) fits0))
  | go t => exact is_row_spec S l rows routines _ _ [.str "row"] hl (by decide +kernel) rfl (Nat.le_of_ble_eq_true rfl) (fits1 (fitsRow h) fits0)
  | call r => exact is_row_spec S l rows routines _ _ [.str "routine"] hl (by decide +kernel) rfl (Nat.le_of_ble_eq_true rfl) (fits1 (fitsRou h) fits0)
  | back => exact is_row_spec S l rows routines _ _ [] hl (by decide +kernel) rfl (Nat.le_of_ble_eq_true rfl) fits0
end

/-! PureH -/
/-! PureH: programs are programs. -/
section
open PySem L2
def LowS (S : Store) : Prop := S.all (Cell.low S.length) = true
theorem leave_drop {S more : Store} {v w : PV} {Q : PV → Store → Prop} (h : LowS S) (hm : more ≠ []) (hv : out1 S.length (S ++ more) v = some w) : Post (leave S.length v (S ++ more)) Q ↔ Q w S := by
  have h : S.all (Cell.low S.length) = true := h
  unfold leave
  rw [if_neg (by rw [List.length_append]; intro z; exact hm (List.eq_nil_of_length_eq_zero (by omega))), List.take_left, if_pos h]
  simp only [hv]
  exact Post.ok
theorem w_eDks {ks : List Str} {a : XA} {env : LW.Env} {S : Store} {Q : PV → Store → Prop} : Post (eDks ks a env S) Q ↔ Post (a env S) fun vs S => ks.length = vs.length ∧ ks.length ≤ 15 ∧ ks.Nodup ∧ Q (.loc S.length) (S ++ [.dks ks vs]) := by
  unfold eDks
  rw [Post.bind]
  constructor <;> (intro h; refine h.mono fun vs S h => ?_)
  · split at h
    · rename_i hc
      exact ⟨hc.1, hc.2.1, hc.2.2, Post.ok.mp h⟩
    · exact (Post.bad.mp h).elim
  · rw [if_pos ⟨h.1, h.2.1, h.2.2.1⟩]
    exact Post.ok.mpr h.2.2.2
end
section
open PySem L2
def Row.isEnd : Row → Prop
  | .go _ => True
  | .back => True
  | _ => False
theorem last_at (init : List Row) (r : Row) : atI ((init ++ [r]).map Row.pv) (-1) = some r.pv := by
  rw [List.map_append]
  exact L2.atI_last _ _
theorem check_rows_spec (S : Store) (hS : LowS S) (init : List Row) (last : Row) (number : Int) (many : Nat) (he : last.isEnd) (hr : ∀ r ∈ init ++ [last], r.Ok (init ++ [last]).length many) :
    Post (m_check_rows [.tup ((init ++ [last]).map Row.pv), .int number, .int many] S) fun v S' => v = .non ∧ S' = S := by
  unfold m_check_rows
  refine w_fnP rfl ?_
  ((repeat array_mem_dec) <;> (try dsimp only))
  refine w_eDks.mpr ?_
  ((repeat array_mem_dec) <;> (try dsimp only))
  refine ⟨rfl, by decide, by decide +kernel, ?_⟩
  ((repeat array_mem_dec) <;> (try dsimp only))
  have hl : (S ++ [Cell.dks ["box", "number", "row", "routine"] [PV.int 6, PV.int 1000, PV.int ((init ++ [last]).map Row.pv).length, PV.int many]])[S.length]? = some (lims (init ++ [last]).length many) := by
    rw [List.getElem?_append_right (Nat.le_refl _), Nat.sub_self, List.length_map]
    rfl
  refine for_go (all := pairs (upto 0 ((init ++ [last]).map Row.pv).length) ((init ++ [last]).map Row.pv)) (fun i env S' => S' = _ ∧ ∃ a b, env = [some (.tup ((init ++ [last]).map Row.pv)), some (.int number), some (.int many), some (.loc S.length), a, b]) (by rfl) ⟨rfl, none, none, rfl⟩ ?_ ?_
  · rintro i env S' x ⟨rfl, a, b, rfl⟩ hx
    obtain ⟨x, y, hx, hy, rfl⟩ := pairs_at hx
    refine ⟨by rfl, ?_⟩
    rw [List.getElem?_map] at hy
    cases hh : (init ++ [last])[i]? with
    | none => rw [hh] at hy; cases hy
    | some r =>
      rw [hh] at hy
      cases hy
      ((repeat array_mem_dec) <;> (try dsimp only))
      refine (row_spec _ _ _ _ hl r (hr r (List.mem_of_getElem? hh))).mono ?_
      rintro _ _ ⟨rfl, rfl⟩
      ((repeat array_mem_dec) <;> (try dsimp only))
      exact ⟨by trivial, _, _, rfl⟩
  · rintro env S' ⟨rfl, a, b, rfl⟩
    refine ⟨by rfl, ?_⟩
    ((repeat array_mem_dec) <;> (try dsimp only))
    refine (w_ix (by rfl) (last_at init last)).mpr ?_
    cases last with
    | go t =>
      ((repeat array_mem_dec) <;> (try dsimp only))
      refine (w_notIn (by rfl) rfl rfl).mpr ?_
      rw [show inSeq (.str "go") [.str "go", .str "back"] = true by decide +kernel]
      ((repeat array_mem_dec) <;> (try dsimp only))
      exact (leave_drop hS (by simp) (by rfl)).mpr ⟨rfl, rfl⟩
    | back =>
      ((repeat array_mem_dec) <;> (try dsimp only))
      refine (w_notIn (by rfl) rfl rfl).mpr ?_
      rw [show inSeq (.str "back") [.str "go", .str "back"] = true by decide +kernel]
      ((repeat array_mem_dec) <;> (try dsimp only))
      exact (leave_drop hS (by simp) (by rfl)).mpr ⟨rfl, rfl⟩
    | _ => exact he.elim
structure Routine where
  house : Nat
  init : List Row
  last : Row
def Routine.rows (r : Routine) : List Row := r.init ++ [r.last]
structure Routine.Ok (houses many : Nat) (r : Routine) : Prop where
  house : r.house < houses
  len : r.rows.length ≤ 32
  rows : ∀ x ∈ r.rows, x.Ok r.rows.length many
  last : r.last.isEnd
def Routine.pv (r : Routine) : PV := .tup [.int r.house, .tup (r.rows.map Row.pv)]
structure Prog where
  houses : List House
  routines : List Routine
structure Prog.Ok (p : Prog) : Prop where
  h1 : 1 ≤ p.houses.length
  h3 : p.houses.length ≤ 3
  r1 : 1 ≤ p.routines.length
  r6 : p.routines.length ≤ 6
  houses : ∀ h ∈ p.houses, h.Ok
  routines : ∀ r ∈ p.routines, r.Ok p.houses.length p.routines.length
def Prog.pv (p : Prog) : PV := .tup [.tup (p.houses.map House.pv), .tup (p.routines.map Routine.pv)]
theorem Routine.rows_pos (r : Routine) : 1 ≤ r.rows.length := by
  unfold Routine.rows
  rw [List.length_append]
  exact Nat.le_add_left _ _
theorem check_routines_spec (S : Store) (hS : LowS S) (p : Prog) (ho : p.Ok) : Post (m_check_routines [.tup (p.routines.map Routine.pv), .int p.houses.length] S) fun v S' => v = .non ∧ S' = S := by
  unfold m_check_routines
  refine w_fnP rfl ?_
  ((repeat array_mem_dec) <;> (try dsimp only))
  refine (is_tuple_of_spec _ _ _ _).mono ?_
  rintro _ _ ⟨rfl, rfl⟩
  rw [List.length_map, decide_eq_true (by have := ho.r1; have := ho.r6; omega)]
  ((repeat array_mem_dec) <;> (try dsimp only))
  refine for_go (all := pairs (upto 0 (p.routines.map Routine.pv).length) (p.routines.map Routine.pv)) (fun i env S' => S' = _ ∧ ∃ a b c d, env = [some (.tup (p.routines.map Routine.pv)), some (.int p.houses.length), a, b, c, d]) (by rfl) ⟨rfl, none, none, none, none, rfl⟩ ?_ ?_
  · rintro i env S' x ⟨rfl, a, b, c, d, rfl⟩ hx
    obtain ⟨x, y, hx1, hy, rfl⟩ := pairs_at hx
    refine ⟨by rfl, ?_⟩
    rw [List.getElem?_map] at hy
    cases hh : p.routines[i]? with
    | none => rw [hh] at hy; cases hy
    | some r =>
      rw [hh] at hy
      cases hy
      have hlt : i < (upto 0 (p.routines.map Routine.pv).length).length := (List.getElem?_eq_some_iff.mp hx1).1
      rw [upto_length] at hlt
      rw [upto_get hlt] at hx1
      cases hx1
      have hr := ho.routines r (List.mem_of_getElem? hh)
      ((repeat array_mem_dec) <;> (try dsimp only))
      refine (is_tuple_of_spec _ _ _ _).mono ?_
      rintro _ _ ⟨rfl, rfl⟩
      rw [decide_eq_true (by constructor <;> simp)]
      ((repeat array_mem_dec) <;> (try dsimp only))
      refine (is_below_spec _ _ _).mono ?_
      rintro _ _ ⟨rfl, rfl⟩
      rw [decide_eq_true (by have := hr.house; omega)]
      ((repeat array_mem_dec) <;> (try dsimp only))
      refine (is_tuple_of_spec _ _ _ _).mono ?_
      rintro _ _ ⟨rfl, rfl⟩
      rw [List.length_map, decide_eq_true (by have := hr.len; have := r.rows_pos; omega)]
      ((repeat array_mem_dec) <;> (try dsimp only))
      rw [List.length_map]
      refine (check_rows_spec _ hS r.init r.last _ p.routines.length hr.last hr.rows).mono ?_
      rintro _ _ ⟨rfl, rfl⟩
      exact ⟨by trivial, _, _, _, _, rfl⟩
  · rintro env S' ⟨rfl, a, b, c, d, rfl⟩
    refine ⟨by rfl, ?_⟩
    ((repeat array_mem_dec) <;> (try dsimp only))
    exact (leave_same rfl).mpr ⟨rfl, rfl⟩
theorem check_program_spec (S : Store) (hS : LowS S) (p : Prog) (ho : p.Ok) : Post (m_check_program [p.pv] S) fun v S' => v = .non ∧ S' = S := by
  unfold m_check_program
  refine w_fnP rfl ?_
  ((repeat array_mem_dec) <;> (try dsimp only))
  refine (is_tuple_of_spec _ _ _ _).mono ?_
  rintro _ _ ⟨rfl, rfl⟩
  rw [decide_eq_true (by constructor <;> simp)]
  ((repeat array_mem_dec) <;> (try dsimp only))
  refine (check_houses_spec _ _ ho.h1 ho.h3 ho.houses).mono ?_
  rintro _ _ ⟨rfl, rfl⟩
  ((repeat array_mem_dec) <;> (try dsimp only))
  rw [List.length_map]
  refine (check_routines_spec _ hS p ho).mono ?_
  rintro _ _ ⟨rfl, rfl⟩
  exact (leave_same rfl).mpr ⟨rfl, rfl⟩
end

/-! PureI0 -/
/-! PureI0: houses and rows by numbers. -/
section
open PySem L2
theorem atI_map {α : Type} {f : α → PV} {xs : List α} {i : Nat} {x : α} (h : xs[i]? = some x) : atI (xs.map f) (i : Int) = some (f x) := by
  rw [L2.atI_nat (j := i)]
  rw [List.getElem?_map, h]
  rfl
theorem house_of_spec (S : Store) (p : Prog) (i : Nat) (r : Routine) (h : House) (hr : p.routines[i]? = some r) (hh : p.houses[r.house]? = some h) : Post (m_house_of [p.pv, .int i] S) fun v S' => v = h.pv ∧ S' = S := by
  unfold m_house_of
  refine w_fnP rfl ?_
  ((repeat array_mem_dec) <;> (try dsimp only))
  refine (w_ix (by rfl) (atI_map hr)).mpr ?_
  ((repeat array_mem_dec) <;> (try dsimp only))
  refine (w_ix (by rfl) (atI_map hh)).mpr ?_
  ((repeat array_mem_dec) <;> (try dsimp only))
  exact (leave_same rfl).mpr ⟨rfl, rfl⟩
theorem rows_of_spec (S : Store) (p : Prog) (i : Nat) (r : Routine) (hr : p.routines[i]? = some r) : Post (m_rows_of [p.pv, .int i] S) fun v S' => v = .tup (r.rows.map Row.pv) ∧ S' = S := by
  unfold m_rows_of
  refine w_fnP rfl ?_
  ((repeat array_mem_dec) <;> (try dsimp only))
  refine (w_ix (by rfl) (atI_map hr)).mpr ?_
  ((repeat array_mem_dec) <;> (try dsimp only))
  exact (leave_same rfl).mpr ⟨rfl, rfl⟩
/-- numbers -/
def Nums (xs : List Int) : Prop := ∀ x ∈ xs, 0 ≤ x ∧ x < 1000
/-- routine 0's house -/
theorem Prog.Ok.first {p : Prog} (ho : p.Ok) : ∃ r h, p.routines[0]? = some r ∧ p.houses[r.house]? = some h ∧ r.Ok p.houses.length p.routines.length ∧ h.Ok := by
  have h1 := ho.r1
  have hr := ho.routines p.routines[0] (List.getElem_mem _)
  exact ⟨p.routines[0], p.houses[p.routines[0].house]'hr.house, List.getElem?_eq_getElem _, List.getElem?_eq_getElem hr.house, hr, ho.houses _ (List.getElem_mem _)⟩
end

/-! PureJ0 -/
/-! PureJ0: draws over what stays. -/
section
open PySem L2
/-- [e for x in what stays], e draws -/
theorem lc_drawsI {it : LW.It} {all : List PV} (hit : ∀ S, it.items S = some all) {env : LW.Env} {g : Hs} {rest : Store} {QA : List PV → Store → Prop} {v : Nat} {e : XE} (hg : g.Ok) (hn : all.length ≤ 1000) (P : Nat → PV → Prop)
    (he : ∀ i x g, all[i]? = some x → Hs.Ok g → Post (e (env.set v (some x)) (g.st rest)) fun y S => ∃ g', S = Hs.st g' rest ∧ g'.Ok ∧ P i y)
    (hQ : ∀ xs g', Hs.Ok g' → xs.length = all.length → (∀ i x, xs[i]? = some x → P i x) → QA xs (g'.st rest)) : LcP it (gNm v) bYes e env (g.st rest) QA := by
  refine ⟨all, hit _, lc_inv (fun i acc S' => i ≤ all.length ∧ acc.length = i ∧ (∀ j x, acc[j]? = some x → P j x) ∧ ∃ g', Hs.Ok g' ∧ S' = g'.st rest) ?_ ?_ _ 0 rfl (Nat.zero_le _) _ _ ⟨Nat.zero_le _, rfl, fun j x h => (by cases h), g, hg, rfl⟩⟩
  · rintro i acc S' x ⟨hi, hl, hP, g', hg', rfl⟩ hx
    refine ⟨hit _, ?_⟩
    have hlt := (List.getElem?_eq_some_iff.mp hx).1
    refine w_gNm.mpr (w_yes.mpr ?_)
    rw [if_pos rfl]
    refine (he i x g' hx hg').mono ?_
    rintro y S2 ⟨g2, rfl, hg2, hy⟩
    refine ⟨by rw [hl]; exact Nat.lt_of_lt_of_le hlt (Nat.le_trans hn (by decide)), hlt, by rw [List.length_append, hl]; rfl, fun j z hz => ?_, g2, hg2, rfl⟩
    rcases Nat.lt_or_ge j acc.length with h | h
    · rw [List.getElem?_append_left h] at hz
      exact hP j z hz
    · rw [List.getElem?_append_right h] at hz
      have : j - acc.length = 0 := by
        have := (List.getElem?_eq_some_iff.mp hz).1
        simp at this
        omega
      rw [this] at hz
      cases hz
      have : j = i := by omega
      rw [this]
      exact hy
  · rintro acc S' ⟨_, hl, hP, g', hg', rfl⟩
    exact ⟨hit _, hQ acc g' hg' hl hP⟩
theorem nums_of : ∀ {xs : List PV}, (∀ (i : Nat) (x : PV), xs[i]? = some x → ∃ s : Int, x = .int s ∧ 0 ≤ s ∧ s < 1000) → ∃ ss : List Int, xs = ss.map .int ∧ Nums ss
  | [], _ => ⟨[], rfl, fun x h => (by cases h)⟩
  | x :: r, h => by
    obtain ⟨s, rfl, h1⟩ := h 0 x rfl
    obtain ⟨ss, rfl, h2⟩ := nums_of (xs := r) fun i x hx => h (i + 1) x hx
    refine ⟨s :: ss, rfl, fun x hx => ?_⟩
    rcases List.mem_cons.mp hx with rfl | hx
    · exact h1
    · exact h2 x hx
end

/-! PureK -/
/-! PureK: any rows. -/
section
open PySem L2
theorem w_eDc {ks : List Str} {a : XA} {env : LW.Env} {S : Store} {Q : PV → Store → Prop} : Post (eDc ks a env S) Q ↔ Post (a env S) fun vs S => ks.length = vs.length ∧ ks.length ≤ 15 ∧ ks.Nodup ∧ Q (.dc ks vs) S := by
  unfold eDc
  rw [Post.bind]
  constructor <;> (intro h; refine h.mono fun vs S h => ?_)
  · split at h
    · rename_i hc
      exact ⟨hc.1, hc.2.1, hc.2.2, Post.ok.mp h⟩
    · exact (Post.bad.mp h).elim
  · rw [if_pos ⟨h.1, h.2.1, h.2.2.1⟩]
    exact Post.ok.mpr h.2.2.2
theorem w_get2 {o k d : XE} {env : LW.Env} {S : Store} {Q : PV → Store → Prop} (h : Post (o env S) fun ov S => ∃ ks vs, ov = .dc ks vs ∧ Post (k env S) fun kv S => ∃ w, kv = .str w ∧ Post (d env S) fun dv S => Q ((lookS ks vs w).getD dv) S) : Post (eGet2 o k d env S) Q := by
  unfold eGet2
  rw [Post.bind]
  refine h.mono ?_
  rintro _ S ⟨ks, vs, rfl, h⟩
  show Post ((k env S).bind _) Q
  rw [Post.bind]
  refine h.mono ?_
  rintro _ S ⟨w, rfl, h⟩
  rw [Post.bind]
  exact h.mono fun dv S h => Post.ok.mpr h
end
section
open PySem L2
theorem wild_row_spec (g : Hs) (rest : Store) (hg : g.Ok) (rows routines : Nat) (h1 : 0 < rows) (h2 : rows < 1000) (h3 : 0 < routines) (h4 : routines < 1000) :
    Post (m_wild_row [.loc 1, .int rows, .int routines] (g.st rest)) fun v S => ∃ (r : Row) (g' : Hs), v = r.pv ∧ r.Ok rows routines ∧ S = g'.st rest ∧ g'.Ok := by
  unfold m_wild_row
  refine w_fnP rfl ?_
  ((repeat array_mem_dec) <;> (try dsimp only))
  ((refine Post.mono (next_spec _ _ _ hg ?hn0 ?hn1) ?_); (case hn0 => omega); (case hn1 => omega))
  rintro _ _ ⟨w, g1, rfl, rfl, hg1, w0, w1⟩
  obtain ⟨word, hw, hword⟩ : ∃ word : Str, word ∈ (["put", "move", "add", "take", "push", "pop", "say", "zero", "go", "call", "back"] : List Str) ∧ atI [PV.str "put", PV.str "move", PV.str "add", PV.str "take", PV.str "push", PV.str "push", PV.str "pop", PV.str "pop", PV.str "say", PV.str "zero", PV.str "zero", PV.str "go", PV.str "call", PV.str "back"] w = some (.str word) := by
    rcases (by omega : w = 0 ∨ w = 1 ∨ w = 2 ∨ w = 3 ∨ w = 4 ∨ w = 5 ∨ w = 6 ∨ w = 7 ∨ w = 8 ∨ w = 9 ∨ w = 10 ∨ w = 11 ∨ w = 12 ∨ w = 13) with rfl | rfl | rfl | rfl | rfl | rfl | rfl | rfl | rfl | rfl | rfl | rfl | rfl | rfl <;> exact ⟨_, by decide +kernel, rfl⟩
  refine (w_ix (by rfl) hword).mpr ?_
  ((repeat array_mem_dec) <;> (try dsimp only))
  refine lc_draws (P := fun _ x => ∃ s : Int, x = .int s ∧ 0 ≤ s ∧ s < 6) hg1 (by decide) (fun i g0 hi hg0 => ?_) (fun some0 g2 hg2 hl hP => ?_)
  · ((repeat array_mem_dec) <;> (try dsimp only))
    ((refine Post.mono (next_spec _ _ _ hg0 ?hn0 ?hn1) ?_); (case hn0 => omega); (case hn1 => omega))
    rintro _ _ ⟨r2, g3, rfl, rfl, hg3, a2, b2⟩
    exact ⟨g3, rfl, hg3, r2, rfl, a2, b2⟩
  · obtain ⟨a, b, c, rfl, ha, hb, hc⟩ : ∃ a b c : Nat, some0 = [.int a, .int b, .int c] ∧ a < 6 ∧ b < 6 ∧ c < 6 := by
      match some0, hl, hP with
      | [x, y, z], _, hP =>
        obtain ⟨a, rfl, a0, a1⟩ := hP 0 x rfl
        obtain ⟨b, rfl, b0, b1⟩ := hP 1 y rfl
        obtain ⟨c, rfl, c0, c1⟩ := hP 2 z rfl
        exact ⟨a.toNat, b.toNat, c.toNat, by rw [Int.toNat_of_nonneg a0, Int.toNat_of_nonneg b0, Int.toNat_of_nonneg c0], by omega, by omega, by omega⟩
    ((repeat array_mem_dec) <;> (try dsimp only))
    simp only [List.mem_cons, List.not_mem_nil, or_false] at hw
    rcases hw with rfl | rfl | rfl | rfl | rfl | rfl | rfl | rfl | rfl | rfl | rfl
    · -- put
      refine (w_in (by rfl) rfl (by decide +kernel)).mpr ?_
      rw [show inSeq (.str "put") [.str "move", .str "push", .str "pop", .str "say", .str "add", .str "take"] = false by decide +kernel]
      ((repeat array_mem_dec) <;> (try dsimp only))
      rw [if_pos (by decide +kernel)]
      ((repeat array_mem_dec) <;> (try dsimp only))
      refine (number_spec _ _ hg2).mono ?_
      rintro _ _ ⟨n, g3, rfl, rfl, hg3, n0, n1⟩
      ((repeat array_mem_dec) <;> (try dsimp only))
      exact (leave_same rfl).mpr ⟨.put a n.toNat, g3, by show _ = PV.tup _; rw [Int.toNat_of_nonneg n0], ⟨ha, by omega⟩, rfl, hg3⟩
    · -- move
      refine (w_in (by rfl) rfl (by decide +kernel)).mpr ?_
      rw [show inSeq (.str "move") [.str "move", .str "push", .str "pop", .str "say", .str "add", .str "take"] = true by decide +kernel]
      ((repeat array_mem_dec) <;> (try dsimp only))
      refine w_get2 ?_
      refine w_eDc.mpr ?_
      ((repeat array_mem_dec) <;> (try dsimp only))
      refine ⟨rfl, by decide, by decide +kernel, _, _, rfl, ?_⟩
      ((repeat array_mem_dec) <;> (try dsimp only))
      refine ⟨_, rfl, ?_⟩
      ((repeat array_mem_dec) <;> (try dsimp only))
      rw [show (lookS ["move", "add", "take"] [.int 2, .int 3, .int 3] "move").getD (.int 1) = .int 2 by decide +kernel]
      ((repeat array_mem_dec) <;> (try dsimp only))
      rw [show cut [.int a, .int b, .int c] none (some 2) = [.int a, .int b] by rfl]
      refine (w_addT (Nat.le_of_ble_eq_true rfl)).mpr ?_
      ((repeat array_mem_dec) <;> (try dsimp only))
      exact (leave_same rfl).mpr ⟨.move a b, g2, rfl, ⟨ha, hb⟩, rfl, hg2⟩
    · -- add
      refine (w_in (by rfl) rfl (by decide +kernel)).mpr ?_
      rw [show inSeq (.str "add") [.str "move", .str "push", .str "pop", .str "say", .str "add", .str "take"] = true by decide +kernel]
      ((repeat array_mem_dec) <;> (try dsimp only))
      refine w_get2 ?_
      refine w_eDc.mpr ?_
      ((repeat array_mem_dec) <;> (try dsimp only))
      refine ⟨rfl, by decide, by decide +kernel, _, _, rfl, ?_⟩
      ((repeat array_mem_dec) <;> (try dsimp only))
      refine ⟨_, rfl, ?_⟩
      ((repeat array_mem_dec) <;> (try dsimp only))
      rw [show (lookS ["move", "add", "take"] [.int 2, .int 3, .int 3] "add").getD (.int 1) = .int 3 by decide +kernel]
      ((repeat array_mem_dec) <;> (try dsimp only))
      rw [show cut [.int a, .int b, .int c] none (some 3) = [.int a, .int b, .int c] by rfl]
      refine (w_addT (Nat.le_of_ble_eq_true rfl)).mpr ?_
      ((repeat array_mem_dec) <;> (try dsimp only))
      exact (leave_same rfl).mpr ⟨.add a b c, g2, rfl, ⟨ha, hb, hc⟩, rfl, hg2⟩
    · -- take
      refine (w_in (by rfl) rfl (by decide +kernel)).mpr ?_
      rw [show inSeq (.str "take") [.str "move", .str "push", .str "pop", .str "say", .str "add", .str "take"] = true by decide +kernel]
      ((repeat array_mem_dec) <;> (try dsimp only))
      refine w_get2 ?_
      refine w_eDc.mpr ?_
      ((repeat array_mem_dec) <;> (try dsimp only))
      refine ⟨rfl, by decide, by decide +kernel, _, _, rfl, ?_⟩
      ((repeat array_mem_dec) <;> (try dsimp only))
      refine ⟨_, rfl, ?_⟩
      ((repeat array_mem_dec) <;> (try dsimp only))
      rw [show (lookS ["move", "add", "take"] [.int 2, .int 3, .int 3] "take").getD (.int 1) = .int 3 by decide +kernel]
      ((repeat array_mem_dec) <;> (try dsimp only))
      rw [show cut [.int a, .int b, .int c] none (some 3) = [.int a, .int b, .int c] by rfl]
      refine (w_addT (Nat.le_of_ble_eq_true rfl)).mpr ?_
      ((repeat array_mem_dec) <;> (try dsimp only))
      exact (leave_same rfl).mpr ⟨.take a b c, g2, rfl, ⟨ha, hb, hc⟩, rfl, hg2⟩
    · -- push
      refine (w_in (by rfl) rfl (by decide +kernel)).mpr ?_
      rw [show inSeq (.str "push") [.str "move", .str "push", .str "pop", .str "say", .str "add", .str "take"] = true by decide +kernel]
      ((repeat array_mem_dec) <;> (try dsimp only))
      refine w_get2 ?_
      refine w_eDc.mpr ?_
      ((repeat array_mem_dec) <;> (try dsimp only))
      refine ⟨rfl, by decide, by decide +kernel, _, _, rfl, ?_⟩
      ((repeat array_mem_dec) <;> (try dsimp only))
      refine ⟨_, rfl, ?_⟩
      ((repeat array_mem_dec) <;> (try dsimp only))
      rw [show (lookS ["move", "add", "take"] [.int 2, .int 3, .int 3] "push").getD (.int 1) = .int 1 by decide +kernel]
      ((repeat array_mem_dec) <;> (try dsimp only))
      rw [show cut [.int a, .int b, .int c] none (some 1) = [.int a] by rfl]
      refine (w_addT (Nat.le_of_ble_eq_true rfl)).mpr ?_
      ((repeat array_mem_dec) <;> (try dsimp only))
      exact (leave_same rfl).mpr ⟨.push a, g2, rfl, ha, rfl, hg2⟩
    · -- pop
      refine (w_in (by rfl) rfl (by decide +kernel)).mpr ?_
      rw [show inSeq (.str "pop") [.str "move", .str "push", .str "pop", .str "say", .str "add", .str "take"] = true by decide +kernel]
      ((repeat array_mem_dec) <;> (try dsimp only))
      refine w_get2 ?_
      refine w_eDc.mpr ?_
      ((repeat array_mem_dec) <;> (try dsimp only))
      refine ⟨rfl, by decide, by decide +kernel, _, _, rfl, ?_⟩
      ((repeat array_mem_dec) <;> (try dsimp only))
      refine ⟨_, rfl, ?_⟩
      ((repeat array_mem_dec) <;> (try dsimp only))
      rw [show (lookS ["move", "add", "take"] [.int 2, .int 3, .int 3] "pop").getD (.int 1) = .int 1 by decide +kernel]
      ((repeat array_mem_dec) <;> (try dsimp only))
      rw [show cut [.int a, .int b, .int c] none (some 1) = [.int a] by rfl]
      refine (w_addT (Nat.le_of_ble_eq_true rfl)).mpr ?_
      ((repeat array_mem_dec) <;> (try dsimp only))
      exact (leave_same rfl).mpr ⟨.pop a, g2, rfl, ha, rfl, hg2⟩
    · -- say
      refine (w_in (by rfl) rfl (by decide +kernel)).mpr ?_
      rw [show inSeq (.str "say") [.str "move", .str "push", .str "pop", .str "say", .str "add", .str "take"] = true by decide +kernel]
      ((repeat array_mem_dec) <;> (try dsimp only))
      refine w_get2 ?_
      refine w_eDc.mpr ?_
      ((repeat array_mem_dec) <;> (try dsimp only))
      refine ⟨rfl, by decide, by decide +kernel, _, _, rfl, ?_⟩
      ((repeat array_mem_dec) <;> (try dsimp only))
      refine ⟨_, rfl, ?_⟩
      ((repeat array_mem_dec) <;> (try dsimp only))
      rw [show (lookS ["move", "add", "take"] [.int 2, .int 3, .int 3] "say").getD (.int 1) = .int 1 by decide +kernel]
      ((repeat array_mem_dec) <;> (try dsimp only))
      rw [show cut [.int a, .int b, .int c] none (some 1) = [.int a] by rfl]
      refine (w_addT (Nat.le_of_ble_eq_true rfl)).mpr ?_
      ((repeat array_mem_dec) <;> (try dsimp only))
      exact (leave_same rfl).mpr ⟨.say a, g2, rfl, ha, rfl, hg2⟩
    · -- zero
      refine (w_in (by rfl) rfl (by decide +kernel)).mpr ?_
      rw [show inSeq (.str "zero") [.str "move", .str "push", .str "pop", .str "say", .str "add", .str "take"] = false by decide +kernel]
      ((repeat array_mem_dec) <;> (try dsimp only))
      rw [if_neg (by decide +kernel)]
      ((repeat array_mem_dec) <;> (try dsimp only))
      rw [if_pos (by decide +kernel)]
      ((repeat array_mem_dec) <;> (try dsimp only))
      ((refine Post.mono (next_spec _ _ _ hg2 ?hn0 ?hn1) ?_); (case hn0 => omega); (case hn1 => omega))
      rintro _ _ ⟨n, g3, rfl, rfl, hg3, n0, n1⟩
      ((repeat array_mem_dec) <;> (try dsimp only))
      exact (leave_same rfl).mpr ⟨.zero a n.toNat, g3, by show _ = PV.tup _; rw [Int.toNat_of_nonneg n0], ⟨ha, by omega⟩, rfl, hg3⟩
    · -- go
      refine (w_in (by rfl) rfl (by decide +kernel)).mpr ?_
      rw [show inSeq (.str "go") [.str "move", .str "push", .str "pop", .str "say", .str "add", .str "take"] = false by decide +kernel]
      ((repeat array_mem_dec) <;> (try dsimp only))
      rw [if_neg (by decide +kernel)]
      ((repeat array_mem_dec) <;> (try dsimp only))
      rw [if_neg (by decide +kernel)]
      ((repeat array_mem_dec) <;> (try dsimp only))
      refine w_eDc.mpr ?_
      ((repeat array_mem_dec) <;> (try dsimp only))
      ((refine Post.mono (next_spec _ _ _ hg2 ?hn0 ?hn1) ?_); (case hn0 => omega); (case hn1 => omega))
      rintro _ _ ⟨n, g3, rfl, rfl, hg3, n0, n1⟩
      ((repeat array_mem_dec) <;> (try dsimp only))
      ((refine Post.mono (next_spec _ _ _ hg3 ?hn0 ?hn1) ?_); (case hn0 => omega); (case hn1 => omega))
      rintro _ _ ⟨m, g4, rfl, rfl, hg4, m0, m1⟩
      ((repeat array_mem_dec) <;> (try dsimp only))
      refine ⟨rfl, by decide, by decide +kernel, ?_⟩
      ((repeat array_mem_dec) <;> (try dsimp only))
      exact (leave_same rfl).mpr ⟨.go n.toNat, g4, by show _ = PV.tup _; rw [Int.toNat_of_nonneg n0], (show n.toNat < rows by omega), rfl, hg4⟩
    · -- call
      refine (w_in (by rfl) rfl (by decide +kernel)).mpr ?_
      rw [show inSeq (.str "call") [.str "move", .str "push", .str "pop", .str "say", .str "add", .str "take"] = false by decide +kernel]
      ((repeat array_mem_dec) <;> (try dsimp only))
      rw [if_neg (by decide +kernel)]
      ((repeat array_mem_dec) <;> (try dsimp only))
      rw [if_neg (by decide +kernel)]
      ((repeat array_mem_dec) <;> (try dsimp only))
      refine w_eDc.mpr ?_
      ((repeat array_mem_dec) <;> (try dsimp only))
      ((refine Post.mono (next_spec _ _ _ hg2 ?hn0 ?hn1) ?_); (case hn0 => omega); (case hn1 => omega))
      rintro _ _ ⟨n, g3, rfl, rfl, hg3, n0, n1⟩
      ((repeat array_mem_dec) <;> (try dsimp only))
      ((refine Post.mono (next_spec _ _ _ hg3 ?hn0 ?hn1) ?_); (case hn0 => omega); (case hn1 => omega))
      rintro _ _ ⟨m, g4, rfl, rfl, hg4, m0, m1⟩
      ((repeat array_mem_dec) <;> (try dsimp only))
      refine ⟨rfl, by decide, by decide +kernel, ?_⟩
      ((repeat array_mem_dec) <;> (try dsimp only))
      exact (leave_same rfl).mpr ⟨.call m.toNat, g4, by show _ = PV.tup _; rw [Int.toNat_of_nonneg m0], (show m.toNat < routines by omega), rfl, hg4⟩
    · -- back
      refine (w_in (by rfl) rfl (by decide +kernel)).mpr ?_
      rw [show inSeq (.str "back") [.str "move", .str "push", .str "pop", .str "say", .str "add", .str "take"] = false by decide +kernel]
      ((repeat array_mem_dec) <;> (try dsimp only))
      rw [if_neg (by decide +kernel)]
      ((repeat array_mem_dec) <;> (try dsimp only))
      rw [if_neg (by decide +kernel)]
      ((repeat array_mem_dec) <;> (try dsimp only))
      refine w_eDc.mpr ?_
      ((repeat array_mem_dec) <;> (try dsimp only))
      ((refine Post.mono (next_spec _ _ _ hg2 ?hn0 ?hn1) ?_); (case hn0 => omega); (case hn1 => omega))
      rintro _ _ ⟨n, g3, rfl, rfl, hg3, n0, n1⟩
      ((repeat array_mem_dec) <;> (try dsimp only))
      ((refine Post.mono (next_spec _ _ _ hg3 ?hn0 ?hn1) ?_); (case hn0 => omega); (case hn1 => omega))
      rintro _ _ ⟨m, g4, rfl, rfl, hg4, m0, m1⟩
      ((repeat array_mem_dec) <;> (try dsimp only))
      refine ⟨rfl, by decide, by decide +kernel, ?_⟩
      ((repeat array_mem_dec) <;> (try dsimp only))
      exact (leave_same rfl).mpr ⟨.back, g4, by show _ = PV.tup _; rfl, trivial, rfl, hg4⟩
end

/-! PureL -/
/-! PureL: routines that are drawn row by row: the dict e and its lists. -/
section
open PySem L2
theorem w_meth1 {f : Nat → PV → Store → R PV} {o a : XE} {env : LW.Env} {S : Store} {Q : PV → Store → Prop} (h : Post (o env S) fun x S => ∃ l xs, x = .loc l ∧ S[l]? = some (.lst xs) ∧ Post (a env S) fun y S => Post (f l y S) Q) : Post (eMeth1 f o a env S) Q := by
  unfold eMeth1
  rw [Post.bind]
  refine h.mono ?_
  rintro _ S ⟨l, xs, rfl, h, k⟩
  simp only [h]
  rw [Post.bind]
  exact k
theorem w_meth0 {f : Nat → Store → R PV} {o : XE} {env : LW.Env} {S : Store} {Q : PV → Store → Prop} (h : Post (o env S) fun x S => ∃ l xs, x = .loc l ∧ S[l]? = some (.lst xs) ∧ Post (f l S) Q) : Post (eMeth0 f o env S) Q := by
  unfold eMeth0
  rw [Post.bind]
  refine h.mono ?_
  rintro _ S ⟨l, xs, rfl, h, k⟩
  simp only [h]
  exact k
theorem w_mAppend {l : Nat} {xs : List PV} {y : PV} {S : Store} {Q : PV → Store → Prop} (h : S[l]? = some (.lst xs)) (h2 : xs.length < lim) : Post (mAppend l y S) Q ↔ Q .non (S.set l (.lst (xs ++ [y]))) := by
  unfold mAppend
  simp only [h]
  rw [if_pos h2]
  exact Post.ok
theorem w_mExtend {l : Nat} {xs ys : List PV} {y : PV} {S : Store} {Q : PV → Store → Prop} (h : S[l]? = some (.lst xs)) (hy : lstOf S y = some ys) (h2 : xs.length + ys.length ≤ lim) : Post (mExtend l y S) Q ↔ Q .non (S.set l (.lst (xs ++ ys))) := by
  unfold mExtend
  simp only [h, hy]
  rw [if_pos h2]
  exact Post.ok
theorem w_mPop {l : Nat} {xs : List PV} {y : PV} {S : Store} {Q : PV → Store → Prop} (h : S[l]? = some (.lst xs)) (h2 : xs.getLast? = some y) : Post (mPop l S) Q ↔ Q y (S.set l (.lst xs.dropLast)) := by
  unfold mPop
  simp only [h, h2]
  exact Post.ok
theorem w_sPar {i j : Nat} {a : XA} {env : LW.Env} {S : Store} {QS : Fl × LW.Env → Store → Prop} : Post (sPar i j a env S) QS ↔ Post (a env S) fun xs S => ∃ x y, xs = [x, y] ∧ QS (.nx, (env.set i (some x)).set j (some y)) S := by
  unfold sPar
  rw [Post.bind]
  constructor <;> (intro h; refine h.mono fun xs S h => ?_)
  · split at h
    · exact ⟨_, _, rfl, Post.ok.mp h⟩
    · exact (Post.bad.mp h).elim
  · obtain ⟨x, y, rfl, h⟩ := h
    exact Post.ok.mpr h
theorem w_ifT {A B : Prop} {d : Decidable True} : (@ite Prop True d A B) ↔ A := by rw [if_pos True.intro]
theorem w_ifF {A B : Prop} {d : Decidable False} : (@ite Prop False d A B) ↔ B := by rw [if_neg id]
theorem pick {xs : List PV} {r : Int} (h0 : 0 ≤ r) (h1 : r < xs.length) : ∃ x, x ∈ xs ∧ atI xs r = some x := by
  obtain ⟨n, rfl⟩ : ∃ n : Nat, r = n := ⟨r.toNat, by omega⟩
  have hn : n < xs.length := by omega
  refine ⟨xs[n], List.getElem_mem hn, ?_⟩
  rw [L2.atI_nat (j := n)]
  exact List.getElem?_eq_getElem hn
theorem get_app {A B : Store} {i : Nat} : (A ++ B)[A.length + i]? = B[i]? := by
  rw [List.getElem?_append_right (Nat.le_add_right _ _), Nat.add_sub_cancel_left]
theorem set_app {A B : Store} {i : Nat} {c : Cell} : (A ++ B).set (A.length + i) c = A ++ B.set i c := by
  rw [List.set_append_right _ _ (Nat.le_add_right _ _), Nat.add_sub_cancel_left]
theorem eq_nil_ls {xs : List PV} {S : Store} : (plain 20 (res 20 S (.ls xs)) = true) → eqv (res 20 S (.ls xs)) (.ls []) = xs.isEmpty := by
  intro _
  cases xs <;> rfl
theorem w_eqE' {xs : List PV} {S : Store} {Q : PV → Store → Prop} (h : plain 20 (res 20 S (.ls xs)) = true) : Post (oEq (.ls xs) (.ls []) S) Q ↔ Q (.bl xs.isEmpty) S := by
  unfold oEq
  rw [if_pos ⟨h, rfl⟩]
  show Post (R.ok (PV.bl (eqv (res 20 S (.ls xs)) (.ls []))) S) Q ↔ _
  rw [eq_nil_ls h]
  exact Post.ok
theorem w_neE' {xs : List PV} {S : Store} {Q : PV → Store → Prop} (h : plain 20 (res 20 S (.ls xs)) = true) : Post (oNe (.ls xs) (.ls []) S) Q ↔ Q (.bl (!xs.isEmpty)) S := by
  unfold oNe
  rw [if_pos ⟨h, rfl⟩]
  show Post (R.ok (PV.bl (!eqv (res 20 S (.ls xs)) (.ls []))) S) Q ↔ _
  rw [eq_nil_ls h]
  exact Post.ok
end
section
open PySem L2
theorem plain_ivs (xs : List Nat) (S : Store) : plain 20 (res 20 S (.ls (ivs xs))) = true := by
  have h : ∀ xs : List Nat, ((ivs xs).map (res 19 S)).all (plain 19) = true := by
    intro xs
    induction xs with
    | nil => rfl
    | cons x r ih =>
      show (true && ((ivs r).map (res 19 S)).all (plain 19)) = true
      rw [ih]
      rfl
  exact h xs
theorem pick_ivs {xs : List Nat} {r : Int} (h0 : 0 ≤ r) (h1 : r < xs.length) : ∃ b : Nat, b ∈ xs ∧ atI (ivs xs) r = some (.int b) := by
  obtain ⟨x, hx, h⟩ := pick (xs := ivs xs) h0 (by rw [ivs_length]; exact h1)
  obtain ⟨i, hi, rfl⟩ := ivs_mem hx
  exact ⟨i, hi, h⟩
/-- what a routine is made of -/
structure Es where
  rows : List Row
  houses : List House
  owners : List Nat
  boxes : List Str
  free : List Nat
def Es.cells (e : Es) (m : Nat) : Store := [.lst (e.rows.map Row.pv), .dks ["rows", "houses", "owners", "boxes", "free"] [.loc (m + 2), .tup (e.houses.map House.pv), .ls (ivs e.owners), .loc (m + 4), .ls (ivs e.free)], .lst (e.boxes.map .str)]
abbrev Es.st (e : Es) (g : Hs) (rest : Store) : Store := g.st (rest ++ e.cells rest.length)
structure Es.Ok (many : Nat) (e : Es) : Prop where
  six : e.boxes.length = 6
  marks : ∀ b ∈ e.boxes, PyData.strOk b = true
  rows : ∀ r ∈ e.rows, r.Ok (e.rows.length + 1) many
  free : Boxes e.free
  most : 0 < e.free.length
  mpos : 0 < many
  owned : e.owners.length = many
  few : many ≤ 6
  owners : ∀ o ∈ e.owners, o < e.houses.length
  houses : ∀ h ∈ e.houses, h.Ok
def Es.Like (e e' : Es) : Prop := e'.houses = e.houses ∧ e'.owners = e.owners ∧ e'.free = e.free ∧ e.rows.length ≤ e'.rows.length
theorem Row.Ok.mono {n n' m : Nat} {r : Row} (h : r.Ok n m) (hn : n ≤ n') : r.Ok n' m := by
  cases r with
  | zero b t => exact ⟨h.1, Nat.lt_of_lt_of_le h.2 hn⟩
  | go t => exact Nat.lt_of_lt_of_le (show t < n from h) hn
  | put b n => exact h
  | move a b => exact h
  | add a b c => exact h
  | take a b c => exact h
  | push b => exact h
  | pop b => exact h
  | say b => exact h
  | call r => exact h
  | back => exact h
section
variable {e : Es} {g : Hs} {rest : Store} {Q : PV → Store → Prop} {i : Nat} {b : Str} {many : Nat}
theorem Es.len : (e.st g rest).length = rest.length + 5 := by
  show (rest ++ e.cells rest.length).length + 1 + 1 = _
  rw [List.length_append]
  rfl
theorem Es.at0 : (e.st g rest)[rest.length + 2]? = some (.lst (e.rows.map Row.pv)) := get_app (A := rest) (B := e.cells rest.length) (i := 0)
theorem Es.at1 : (e.st g rest)[rest.length + 3]? = some (.dks ["rows", "houses", "owners", "boxes", "free"] [.loc (rest.length + 2), .tup (e.houses.map House.pv), .ls (ivs e.owners), .loc (rest.length + 4), .ls (ivs e.free)]) := get_app (A := rest) (B := e.cells rest.length) (i := 1)
theorem Es.at2 : (e.st g rest)[rest.length + 4]? = some (.lst (e.boxes.map .str)) := get_app (A := rest) (B := e.cells rest.length) (i := 2)
theorem Es.set0 {rs : List Row} : (e.st g rest).set (rest.length + 2) (.lst (rs.map Row.pv)) = Es.st { e with rows := rs } g rest := congrArg (fun z => Cell.lst (g.l.map .int) :: Cell.lst [.int g.a, .loc 0, .int g.c] :: z) (set_app (A := rest) (B := e.cells rest.length) (i := 0))
theorem Es.set2 {bs : List Str} : (e.st g rest).set (rest.length + 4) (.lst (bs.map .str)) = Es.st { e with boxes := bs } g rest := congrArg (fun z => Cell.lst (g.l.map .int) :: Cell.lst [.int g.a, .loc 0, .int g.c] :: z) (set_app (A := rest) (B := e.cells rest.length) (i := 2))
theorem Es.dksAt : dksOf (e.st g rest) (.loc (rest.length + 3)) = some ((["rows", "houses", "owners", "boxes", "free"] : List Str), [PV.loc (rest.length + 2), PV.tup (e.houses.map House.pv), PV.ls (ivs e.owners), PV.loc (rest.length + 4), PV.ls (ivs e.free)]) := by
  show (match (e.st g rest)[rest.length + 3]? with | some (.dks ks vs) => some (ks, vs) | _ => none) = _
  rw [Es.at1]
theorem w_eRows : Post (oIx (.loc (rest.length + 3)) (.str "rows") (e.st g rest)) Q ↔ Q (.loc (rest.length + 2)) (e.st g rest) := w_ixS Es.dksAt rfl
theorem w_eHouses : Post (oIx (.loc (rest.length + 3)) (.str "houses") (e.st g rest)) Q ↔ Q (.tup (e.houses.map House.pv)) (e.st g rest) := w_ixS Es.dksAt rfl
theorem w_eOwners : Post (oIx (.loc (rest.length + 3)) (.str "owners") (e.st g rest)) Q ↔ Q (.ls (ivs e.owners)) (e.st g rest) := w_ixS Es.dksAt rfl
theorem w_eBoxes : Post (oIx (.loc (rest.length + 3)) (.str "boxes") (e.st g rest)) Q ↔ Q (.loc (rest.length + 4)) (e.st g rest) := w_ixS Es.dksAt rfl
theorem w_eFree : Post (oIx (.loc (rest.length + 3)) (.str "free") (e.st g rest)) Q ↔ Q (.ls (ivs e.free)) (e.st g rest) := w_ixS Es.dksAt rfl
theorem Es.seq0 : seqOf (e.st g rest) (.loc (rest.length + 2)) = some (e.rows.map Row.pv) := by
  show (match (e.st g rest)[rest.length + 2]? with | some (.lst xs) => some xs | _ => none) = _
  rw [Es.at0]
theorem Es.seq2 : seqOf (e.st g rest) (.loc (rest.length + 4)) = some (e.boxes.map .str) := by
  show (match (e.st g rest)[rest.length + 4]? with | some (.lst xs) => some xs | _ => none) = _
  rw [Es.at2]
theorem w_eBox (h : e.boxes[i]? = some b) : Post (oIx (.loc (rest.length + 4)) (.int (i : Int)) (e.st g rest)) Q ↔ Q (.str b) (e.st g rest) := w_ix Es.seq2 (atI_map h)
theorem w_eLenR : Post (bLen [.loc (rest.length + 2)] (e.st g rest)) Q ↔ Q (.int e.rows.length) (e.st g rest) := by rw [w_len Es.seq0, List.length_map]
theorem w_eLenF : Post (bLen [.ls (ivs e.free)] (e.st g rest)) Q ↔ Q (.int e.free.length) (e.st g rest) := by rw [w_len rfl, ivs_length]
theorem w_eLenI {S : Store} {xs : List Nat} : Post (bLen [.ls (ivs xs)] S) Q ↔ Q (.int xs.length) S := by rw [w_len rfl, ivs_length]
theorem Es.Ok.at (h : e.Ok many) {i : Nat} (hi : i < 6) : ∃ b, e.boxes[i]? = some b ∧ PyData.strOk b = true := by
  have h6 : i < e.boxes.length := by rw [h.six]; exact hi
  exact ⟨e.boxes[i], List.getElem?_eq_getElem h6, h.marks _ (List.getElem_mem h6)⟩
theorem w_eAdd {r : Row} (h : e.rows.length < 20000) : Post (mAppend (rest.length + 2) r.pv (e.st g rest)) Q ↔ Q .non (Es.st { e with rows := e.rows ++ [r] } g rest) := by
  rw [w_mAppend Es.at0 (by rw [List.length_map]; exact Nat.lt_trans h (by decide)), show e.rows.map Row.pv ++ [r.pv] = (e.rows ++ [r]).map Row.pv by rw [List.map_append]; rfl, Es.set0]
theorem w_eMore {y : PV} {rs : List Row} (hy : y = .ls (rs.map Row.pv)) (h : e.rows.length + rs.length < 20000) : Post (mExtend (rest.length + 2) y (e.st g rest)) Q ↔ Q .non (Es.st { e with rows := e.rows ++ rs } g rest) := by
  subst hy
  rw [w_mExtend (ys := rs.map Row.pv) Es.at0 rfl (by rw [List.length_map, List.length_map]; exact Nat.le_of_lt (Nat.lt_trans h (by decide))), show e.rows.map Row.pv ++ rs.map Row.pv = (e.rows ++ rs).map Row.pv by rw [List.map_append], Es.set0]
theorem w_eSetB {QU : Unit → Store → Prop} (h : e.Ok many) (hi : i < 6) : Post (oSet (.loc (rest.length + 4)) (.int (i : Int)) (.str b) (e.st g rest)) QU ↔ QU () (Es.st { e with boxes := e.boxes.set i b } g rest) := by
  rw [w_setL Es.at2 (ixOf_nat (by rw [List.length_map, h.six]; exact hi)), ← Es.set2 (e := e) (bs := e.boxes.set i b), List.map_set]
theorem Es.Ok.box (h : e.Ok many) (hb : PyData.strOk b = true) : Es.Ok many { e with boxes := e.boxes.set i b } :=
  ⟨by show (e.boxes.set i b).length = 6; rw [List.length_set]; exact h.six, fun c hc => (List.mem_or_eq_of_mem_set hc).elim (fun z => h.marks c z) (fun z => z ▸ hb), h.rows, h.free, h.most, h.mpos, h.owned, h.few, h.owners, h.houses⟩
theorem Es.Ok.more (h : e.Ok many) {rs : List Row} (hr : ∀ r ∈ rs, r.Ok (e.rows.length + rs.length + 1) many) : Es.Ok many { e with rows := e.rows ++ rs } :=
  ⟨h.six, h.marks, fun r hr' => by
    show r.Ok ((e.rows ++ rs).length + 1) many
    rw [List.length_append]
    rcases List.mem_append.mp hr' with z | z
    · exact (h.rows r z).mono (by omega)
    · exact hr r z, h.free, h.most, h.mpos, h.owned, h.few, h.owners, h.houses⟩
end
end
local macro_rules | `(tactic| sizeOf_list_dec) => `(tactic| array_mem_dec)
local macro_rules | `(tactic| sizeOf_list_dec) => `(tactic| (with_reducible refine w_ifF.mpr ?_))
local macro_rules | `(tactic| sizeOf_list_dec) => `(tactic| (with_reducible refine w_ifT.mpr ?_))
local macro_rules | `(tactic| sizeOf_list_dec) => `(tactic| (with_reducible refine w_meth1 ?_))
local macro_rules | `(tactic| sizeOf_list_dec) => `(tactic| (with_reducible refine w_eLenI.mpr ?_))
local macro_rules | `(tactic| sizeOf_list_dec) => `(tactic| (with_reducible refine w_eLenR.mpr ?_))
local macro_rules | `(tactic| sizeOf_list_dec) => `(tactic| (with_reducible refine w_eFree.mpr ?_))
local macro_rules | `(tactic| sizeOf_list_dec) => `(tactic| (with_reducible refine w_eBoxes.mpr ?_))
local macro_rules | `(tactic| sizeOf_list_dec) => `(tactic| (with_reducible refine w_eOwners.mpr ?_))
local macro_rules | `(tactic| sizeOf_list_dec) => `(tactic| (with_reducible refine w_eHouses.mpr ?_))
local macro_rules | `(tactic| sizeOf_list_dec) => `(tactic| (with_reducible refine w_eRows.mpr ?_))
section
open PySem L2
end

/-! PureM -/
/-! PureM: one simple row. -/
section
open PySem L2
theorem lc_some {env : LW.Env} {S : Store} {QA : List PV → Store → Prop} {v n : Nat} {t : XB} (hn : n ≤ 1000) (hv : v < env.length) (p : Nat → Bool)
    (ht : ∀ i, i < n → Post (t (env.set v (some (.int (i : Int)))) S) fun k S' => k = p i ∧ S' = S) (hQ : ∀ xs : List Nat, xs.Pairwise (· < ·) → (∀ i, i ∈ xs ↔ i < n ∧ p i = true) → QA (ivs xs) S) : LcP (.rng 0 n) (gNm v) t (eVar v) env S QA :=
  lc_filter hn hv p ht (hQ _ (List.Pairwise.filter _ List.pairwise_lt_range) fun i => by rw [List.mem_filter, List.mem_range])
theorem some_boxes {xs : List Nat} {p : Nat → Bool} (h : xs.Pairwise (· < ·)) (m : ∀ i, i ∈ xs ↔ i < 6 ∧ p i = true) : Boxes xs := ⟨h, fun x hx => ((m x).mp hx).1⟩
inductive SRow (goal : Nat) : Row → Prop
  | put (n : Nat) (h : n < 1000) : SRow goal (.put goal n)
  | say (b : Nat) (h : b < 6) : SRow goal (.say b)
  | move (b : Nat) (h : b < 6) : SRow goal (.move goal b)
  | add (b c : Nat) (h : b < 6) (h2 : c < 6) : SRow goal (.add goal b c)
  | take (b c : Nat) (h : b < 6) (h2 : c < 6) : SRow goal (.take goal b c)
theorem SRow.ok {goal : Nat} (hg : goal < 6) {r : Row} (h : SRow goal r) (n m : Nat) : r.Ok n m := by
  cases h with
  | put n h => exact ⟨hg, h⟩
  | say b h => exact h
  | move b h => exact ⟨hg, h⟩
  | add b c h h2 => exact ⟨hg, h, h2⟩
  | take b c h h2 => exact ⟨hg, h, h2⟩
/-- how a dict of this kind is after a step -/
def EsOut (many : Nat) (e : Es) (rest : Store) (k : Nat) (v : PV) (S : Store) : Prop := ∃ e' g', v = .non ∧ S = Es.st e' g' rest ∧ g'.Ok ∧ e'.Ok many ∧ e.Like e' ∧ e'.rows.length ≤ e.rows.length + k
theorem simple_spec (g : Hs) (rest : Store) (e : Es) (many : Nat) (hg : g.Ok) (he : e.Ok many) (hs : e.rows.length ≤ 9000) :
    Post (m_simple [.loc 1, .loc (rest.length + 3)] (e.st g rest)) (EsOut many e rest 1) := by
  have hf6 := he.free.len
  have hf0 := he.most
  unfold m_simple
  refine w_fnP rfl ?_
  ((repeat sizeOf_list_dec) <;> (try dsimp only))
  refine lc_some (n := 6) (by decide) (by show 3 < 10; decide) (fun i => decide (e.boxes[i]? = some ("good" : Str))) (fun i hi => ?_) (fun good good1 good2 => ?_)
  · obtain ⟨b, hb, hbo⟩ := he.at hi
    ((repeat sizeOf_list_dec) <;> (try dsimp only))
    refine (w_eBox hb).mpr ?_
    ((repeat sizeOf_list_dec) <;> (try dsimp only))
    refine (w_eqS hbo (by decide +kernel)).mpr ?_
    ((repeat sizeOf_list_dec) <;> (try dsimp only))
    exact ⟨by rw [hb]; simp, by trivial⟩
  ((repeat sizeOf_list_dec) <;> (try dsimp only))
  ((refine Post.mono (next_spec _ _ _ hg ?hn0 ?hn1) ?_); (case hn0 => omega); (case hn1 => omega))
  rintro _ _ ⟨r1, g1, rfl, rfl, hg1, a1, b1⟩
  obtain ⟨goal, hgoal, hat⟩ := pick_ivs a1 b1
  have hgoal6 : goal < 6 := he.free.2 _ hgoal
  refine (w_ix rfl hat).mpr ?_
  ((repeat sizeOf_list_dec) <;> (try dsimp only))
  ((refine Post.mono (next_spec _ _ _ hg1 ?hn0 ?hn1) ?_); (case hn0 => omega); (case hn1 => omega))
  rintro _ _ ⟨turn, g2, rfl, rfl, hg2, a2, b2⟩
  ((repeat ((fail_if_success (with_reducible refine w_if.mpr ?_)); sizeOf_list_dec)) <;> (try dsimp only))
  have hgood : Boxes good := some_boxes good1 good2
  have hgl := hgood.len
  refine Post.mono (Q := fun p S => p.1 = .nx ∧ ∃ r g3 x7 x8 x9, p.2 = [some (.loc 1), some (.loc (rest.length + 3)), some (.ls (ivs good)), none, some (.int goal), some (.int turn), some r.pv, x7, x8, x9] ∧ S = e.st g3 rest ∧ g3.Ok ∧ SRow goal r) ?_ ?_
  · ((repeat sizeOf_list_dec) <;> (try dsimp only))
    refine (w_eqE' (plain_ivs _ _)).mpr ?_
    ((repeat sizeOf_list_dec) <;> (try dsimp only))
    cases hne : (ivs good).isEmpty with
    | true =>
      ((repeat sizeOf_list_dec) <;> (try dsimp only))
      refine (number_spec _ _ hg2).mono ?_
      rintro _ _ ⟨n, g3, rfl, rfl, hg3, n0, n1⟩
      ((repeat sizeOf_list_dec) <;> (try dsimp only))
      exact ⟨by trivial, .put goal n.toNat, g3, _, _, _, by show _ = [_, _, _, _, _, _, some (PV.tup [_, _, _]), _, _, _]; rw [Int.toNat_of_nonneg n0]; rfl, rfl, hg3, .put _ (by omega)⟩
    | false =>
      have hg0 : 0 < good.length := by
        cases good with
        | nil => cases hne
        | cons a r => exact Nat.succ_pos _
      have pickGood : ∀ {i : Int}, 0 ≤ i → i < good.length → ∃ b : Nat, b < 6 ∧ e.boxes[b]? = some ("good" : Str) ∧ atI (ivs good) i = some (.int b) := fun h0 h1 => by
        obtain ⟨b, hb, h⟩ := pick_ivs h0 h1
        exact ⟨b, hgood.2 b hb, of_decide_eq_true ((good2 b).mp hb).2, h⟩
      ((repeat sizeOf_list_dec) <;> (try dsimp only))
      cases ht0 : (turn == 0) with
      | true =>
        ((repeat sizeOf_list_dec) <;> (try dsimp only))
        refine (number_spec _ _ hg2).mono ?_
        rintro _ _ ⟨n, g3, rfl, rfl, hg3, n0, n1⟩
        ((repeat sizeOf_list_dec) <;> (try dsimp only))
        exact ⟨by trivial, .put goal n.toNat, g3, _, _, _, by show _ = [_, _, _, _, _, _, some (PV.tup [_, _, _]), _, _, _]; rw [Int.toNat_of_nonneg n0]; rfl, rfl, hg3, .put _ (by omega)⟩
      | false =>
        ((repeat sizeOf_list_dec) <;> (try dsimp only))
        cases ht1 : (turn == 1) with
        | true =>
          ((repeat sizeOf_list_dec) <;> (try dsimp only))
          ((refine Post.mono (next_spec _ _ _ hg2 ?hn0 ?hn1) ?_); (case hn0 => omega); (case hn1 => omega))
          rintro _ _ ⟨r3, g3, rfl, rfl, hg3, a3, b3⟩
          obtain ⟨b, hb6, hbg, hb⟩ := pickGood a3 b3
          refine (w_ix rfl hb).mpr ?_
          ((repeat sizeOf_list_dec) <;> (try dsimp only))
          exact ⟨by trivial, .say b, g3, _, _, _, rfl, rfl, hg3, .say _ hb6⟩
        | false =>
          ((repeat sizeOf_list_dec) <;> (try dsimp only))
          cases ht2 : (turn == 2) with
          | true =>
            ((repeat sizeOf_list_dec) <;> (try dsimp only))
            refine lc_some (n := 6) (by decide) (by show 3 < 10; decide) (fun i => !decide (e.boxes[i]? = some ("loose" : Str))) (fun i hi => ?_) (fun sm sm1 sm2 => ?_)
            · obtain ⟨b, hb, hbo⟩ := he.at hi
              ((repeat sizeOf_list_dec) <;> (try dsimp only))
              refine (w_eBox hb).mpr ?_
              ((repeat sizeOf_list_dec) <;> (try dsimp only))
              refine (w_neS hbo (by decide +kernel)).mpr ?_
              ((repeat sizeOf_list_dec) <;> (try dsimp only))
              exact ⟨by rw [hb]; simp, by trivial⟩
            have hsb : Boxes sm := some_boxes sm1 sm2
            have hsl := hsb.len
            have hs0 : 0 < sm.length := by
              obtain ⟨b, hb6, hbg, hb⟩ := pickGood (i := 0) (by omega) (by omega)
              exact List.length_pos_of_mem ((sm2 b).mpr ⟨hb6, by rw [hbg]; decide +kernel⟩)
            ((repeat sizeOf_list_dec) <;> (try dsimp only))
            ((refine Post.mono (next_spec _ _ _ hg2 ?hn0 ?hn1) ?_); (case hn0 => omega); (case hn1 => omega))
            rintro _ _ ⟨r3, g3, rfl, rfl, hg3, a3, b3⟩
            obtain ⟨b, hb, hbat⟩ := pick_ivs a3 b3
            refine (w_ix rfl hbat).mpr ?_
            ((repeat sizeOf_list_dec) <;> (try dsimp only))
            exact ⟨by trivial, .move goal b, g3, _, _, _, rfl, rfl, hg3, .move _ (hsb.2 b hb)⟩
          | false =>
            ((repeat sizeOf_list_dec) <;> (try dsimp only))
            refine w_sPar.mpr ?_
            ((repeat sizeOf_list_dec) <;> (try dsimp only))
            ((refine Post.mono (next_spec _ _ _ hg2 ?hn0 ?hn1) ?_); (case hn0 => omega); (case hn1 => omega))
            rintro _ _ ⟨r3, g3, rfl, rfl, hg3, a3, b3⟩
            obtain ⟨b, hb6, hbg, hb⟩ := pickGood a3 b3
            refine (w_ix rfl hb).mpr ?_
            ((repeat sizeOf_list_dec) <;> (try dsimp only))
            ((refine Post.mono (next_spec _ _ _ hg3 ?hn0 ?hn1) ?_); (case hn0 => omega); (case hn1 => omega))
            rintro _ _ ⟨r4, g4, rfl, rfl, hg4, a4, b4⟩
            obtain ⟨c, hc6, hcg, hc⟩ := pickGood a4 b4
            refine (w_ix rfl hc).mpr ?_
            ((repeat sizeOf_list_dec) <;> (try dsimp only))
            refine ⟨_, _, rfl, ?_⟩
            ((repeat sizeOf_list_dec) <;> (try dsimp only))
            rcases (by omega : turn % 2 = 0 ∨ turn % 2 = 1) with hm | hm <;> rw [hm]
            · ((repeat sizeOf_list_dec) <;> (try dsimp only))
              exact ⟨by trivial, .add goal b c, g4, _, _, _, rfl, rfl, hg4, .add _ _ hb6 hc6⟩
            · ((repeat sizeOf_list_dec) <;> (try dsimp only))
              exact ⟨by trivial, .take goal b c, g4, _, _, _, rfl, rfl, hg4, .take _ _ hb6 hc6⟩
  · rintro ⟨fl, env⟩ S ⟨hfl, r, g3, x7, x8, x9, henv, rfl, hg3, hr⟩
    cases hfl
    cases henv
    have hok := hr.ok hgoal6 (e.rows.length + 1 + 1) many
    have he2 : Es.Ok many { e with rows := e.rows ++ [r] } := he.more fun r' hr' => by
      rw [List.mem_singleton.mp hr']
      exact hok
    have hlen : (e.rows ++ [r]).length = e.rows.length + 1 := by rw [List.length_append]; rfl
    have fin : ∀ e' : Es, e'.Ok many → e'.rows = e.rows ++ [r] → e'.houses = e.houses → e'.owners = e.owners → e'.free = e.free → ∀ g : Hs, g.Ok → Post (leave (e.st g3 rest).length .non (e'.st g rest)) (EsOut many e rest 1) := fun e' h1 h2 h3 h4 h5 g hg => by
      refine (leave_same (by rw [Es.len, Es.len])).mpr ?_
      exact ⟨e', g, rfl, rfl, hg, h1, ⟨h3, h4, h5, by rw [h2, hlen]; omega⟩, by rw [h2, hlen]; omega⟩
    have hlen0 : ∀ g : Hs, (e.st g rest).length = (e.st g3 rest).length := fun g => by rw [Es.len, Es.len]
    rw [hlen0]
    ((repeat sizeOf_list_dec) <;> (try dsimp only))
    refine ⟨_, _, rfl, Es.at0, ?_⟩
    ((repeat sizeOf_list_dec) <;> (try dsimp only))
    refine (w_eAdd (by omega)).mpr ?_
    cases hr with
    | say b hb =>
      ((repeat sizeOf_list_dec) <;> (try dsimp only))
      rw [if_neg (by decide +kernel)]
      ((repeat sizeOf_list_dec) <;> (try dsimp only))
      exact fin _ he2 rfl rfl rfl rfl _ hg3
    | move b hb =>
      obtain ⟨m, hm, hmo⟩ := he2.at hb
      ((repeat sizeOf_list_dec) <;> (try dsimp only))
      rw [if_pos (by decide +kernel)]
      ((repeat sizeOf_list_dec) <;> (try dsimp only))
      rw [if_pos (by decide +kernel)]
      ((repeat sizeOf_list_dec) <;> (try dsimp only))
      refine (w_eBox hm).mpr ?_
      ((repeat sizeOf_list_dec) <;> (try dsimp only))
      refine (w_eSetB he2 hgoal6).mpr ?_
      exact fin _ (he2.box hmo) rfl rfl rfl rfl _ hg3
    | put n hn =>
      ((repeat sizeOf_list_dec) <;> (try dsimp only))
      rw [if_pos (by decide +kernel)]
      ((repeat sizeOf_list_dec) <;> (try dsimp only))
      rw [if_neg (by decide +kernel)]
      ((repeat sizeOf_list_dec) <;> (try dsimp only))
      refine (w_eSetB he2 hgoal6).mpr ?_
      exact fin _ (he2.box (by decide +kernel)) rfl rfl rfl rfl _ hg3
    | add b c hb hc =>
      ((repeat sizeOf_list_dec) <;> (try dsimp only))
      rw [if_pos (by decide +kernel)]
      ((repeat sizeOf_list_dec) <;> (try dsimp only))
      rw [if_neg (by decide +kernel)]
      ((repeat sizeOf_list_dec) <;> (try dsimp only))
      refine (w_eSetB he2 hgoal6).mpr ?_
      exact fin _ (he2.box (by decide +kernel)) rfl rfl rfl rfl _ hg3
    | take b c hb hc =>
      ((repeat sizeOf_list_dec) <;> (try dsimp only))
      rw [if_pos (by decide +kernel)]
      ((repeat sizeOf_list_dec) <;> (try dsimp only))
      rw [if_neg (by decide +kernel)]
      ((repeat sizeOf_list_dec) <;> (try dsimp only))
      refine (w_eSetB he2 hgoal6).mpr ?_
      exact fin _ (he2.box (by decide +kernel)) rfl rfl rfl rfl _ hg3
end

/-! PureN -/
/-! PureN: a test of zero with rows behind it. -/
section
open PySem L2
theorem plain_strs {S : Store} {bs : List Str} (h : ∀ b ∈ bs, PyData.strOk b = true) : plain 20 (res 20 S (.ls (bs.map .str))) = true := by
  show ((bs.map PV.str).map (res 19 S)).all (plain 19) = true
  rw [List.map_map, List.all_map]
  exact List.all_eq_true.mpr fun b hb => h b hb
theorem plain_strsL {S : Store} {l : Nat} {bs : List Str} (hl : S[l]? = some (.lst (bs.map .str))) (h : ∀ b ∈ bs, PyData.strOk b = true) : plain 20 (res 20 S (.loc l)) = true := by
  have e : res 20 S (.loc l) = .ls ((bs.map PV.str).map (res 19 S)) := by
    show (match S[l]? with | some (.lst xs) => PV.ls (xs.map (res 19 S)) | _ => .loc l) = _
    rw [hl]
  rw [e]
  exact plain_strs (S := S) h
theorem w_eqAny {S : Store} {x y : PV} {Q : PV → Store → Prop} (h : plain 20 (res 20 S x) = true) (h2 : plain 20 (res 20 S y) = true) (hQ : ∀ k, Q (.bl k) S) : Post (oEq x y S) Q := by
  unfold oEq
  rw [if_pos ⟨h, h2⟩]
  exact Post.ok.mpr (hQ _)
end
section
open PySem L2
section
variable {e : Es} {g : Hs} {rest : Store} {Q : PV → Store → Prop} {i : Nat} {b : Str} {many : Nat}
theorem w_eSetR {r : Row} {QU : Unit → Store → Prop} (hi : i < e.rows.length) : Post (oSet (.loc (rest.length + 2)) (.int (i : Int)) r.pv (e.st g rest)) QU ↔ QU () (Es.st { e with rows := e.rows.set i r } g rest) := by
  rw [w_setL Es.at0 (ixOf_nat (by rw [List.length_map]; exact hi)), ← Es.set0 (e := e) (rs := e.rows.set i r), List.map_set]
theorem Es.Ok.row (h : e.Ok many) {r : Row} (hr : r.Ok (e.rows.length + 1) many) : Es.Ok many { e with rows := e.rows.set i r } :=
  ⟨h.six, h.marks, fun c hc => by
    show c.Ok ((e.rows.set i r).length + 1) many
    rw [List.length_set]
    exact (List.mem_or_eq_of_mem_set hc).elim (fun z => h.rows c z) (fun z => z ▸ hr), h.free, h.most, h.mpos, h.owned, h.few, h.owners, h.houses⟩
end
theorem zeroed_spec (g : Hs) (rest : Store) (e : Es) (many : Nat) (hg : g.Ok) (he : e.Ok many) (hs : e.rows.length ≤ 8000) :
    Post (m_zeroed [.loc 1, .loc (rest.length + 3)] (e.st g rest)) (EsOut many e rest 4) := by
  unfold m_zeroed
  refine w_fnP rfl ?_
  have fin : ∀ e' : Es, e'.Ok many → e'.houses = e.houses → e'.owners = e.owners → e'.free = e.free → e.rows.length ≤ e'.rows.length → e'.rows.length ≤ e.rows.length + 4 → ∀ g1 : Hs, g1.Ok → Post (leave (e.st g rest).length .non (e'.st g1 rest)) (EsOut many e rest 4) := fun e' h1 h3 h4 h5 h6 h7 g hg => by
    refine (leave_same (by rw [Es.len, Es.len])).mpr ?_
    exact ⟨e', g, rfl, rfl, hg, h1, ⟨h3, h4, h5, h6⟩, h7⟩
  generalize hL : (e.st g rest).length = L at fin ⊢
  ((repeat sizeOf_list_dec) <;> (try dsimp only))
  refine lc_some (n := 6) (by decide) (by show 3 < 8; decide) (fun i => decide (e.boxes[i]? = some ("good" : Str))) (fun i hi => ?_) (fun good good1 good2 => ?_)
  · obtain ⟨b, hb, hbo⟩ := he.at hi
    ((repeat sizeOf_list_dec) <;> (try dsimp only))
    refine (w_eBox hb).mpr ?_
    ((repeat sizeOf_list_dec) <;> (try dsimp only))
    refine (w_eqS hbo (by decide +kernel)).mpr ?_
    ((repeat sizeOf_list_dec) <;> (try dsimp only))
    exact ⟨by rw [hb]; simp, by trivial⟩
  have hgood : Boxes good := some_boxes good1 good2
  have hgl := hgood.len
  ((repeat sizeOf_list_dec) <;> (try dsimp only))
  refine (w_eqE' (plain_ivs _ _)).mpr ?_
  ((repeat sizeOf_list_dec) <;> (try dsimp only))
  cases hne : (ivs good).isEmpty with
  | true =>
    ((repeat sizeOf_list_dec) <;> (try dsimp only))
    exact fin e he rfl rfl rfl (Nat.le_refl _) (by omega) g hg
  | false =>
  have hg0 : 0 < good.length := by
    cases good with
    | nil => cases hne
    | cons a r => exact Nat.succ_pos _
  ((repeat sizeOf_list_dec) <;> (try dsimp only))
  ((refine Post.mono (next_spec _ _ _ hg ?hn0 ?hn1) ?_); (case hn0 => omega); (case hn1 => omega))
  rintro _ _ ⟨r1, g1, rfl, rfl, hg1, a1, b1⟩
  obtain ⟨test, htest, hat⟩ := pick_ivs a1 b1
  have ht6 : test < 6 := hgood.2 _ htest
  refine (w_ix rfl hat).mpr ?_
  ((repeat sizeOf_list_dec) <;> (try dsimp only))
  refine ⟨_, _, rfl, Es.at0, ?_⟩
  ((repeat sizeOf_list_dec) <;> (try dsimp only))
  refine (w_eAdd (r := .zero test 0) (by omega)).mpr ?_
  have he1 : Es.Ok many { e with rows := e.rows ++ [.zero test 0] } := he.more fun r' hr' => by
    rw [List.mem_singleton.mp hr']
    exact ⟨ht6, Nat.succ_pos _⟩
  have hl1 : (e.rows ++ [Row.zero test 0]).length = e.rows.length + 1 := by rw [List.length_append]; rfl
  generalize e.rows ++ [Row.zero test 0] = rs1 at he1 hl1
  ((repeat sizeOf_list_dec) <;> (try dsimp only))
  refine (w_list Es.seq2).mpr ?_
  ((repeat sizeOf_list_dec) <;> (try dsimp only))
  ((refine Post.mono (next_spec _ _ _ hg1 ?hn0 ?hn1) ?_); (case hn0 => omega); (case hn1 => omega))
  rintro _ _ ⟨r2, g2, rfl, rfl, hg2, a2, b2⟩
  obtain ⟨n2, rfl⟩ : ∃ n : Nat, r2 = n := ⟨r2.toNat, by omega⟩
  have hn2 : ((1 : Int) + (n2 : Int)).toNat = n2 + 1 := by omega
  ((repeat sizeOf_list_dec) <;> (try dsimp only))
  rw [hn2]
  refine for_go (all := upto 0 (n2 + 1)) (fun i env S => ∃ e' g' x, S = Es.st e' g' rest ∧ g'.Ok ∧ e'.Ok many ∧ e'.houses = e.houses ∧ e'.owners = e.owners ∧ e'.free = e.free ∧ e.rows.length + 1 ≤ e'.rows.length ∧ e'.rows.length ≤ e.rows.length + 1 + i ∧ env = [some (.loc 1), some (.loc (rest.length + 3)), some (.ls (ivs good)), none, some (.int test), some (.int (e.rows.length : Int)), some (.ls (e.boxes.map .str)), x]) (by rfl) ⟨_, g2, none, rfl, hg2, he1, rfl, rfl, rfl, Nat.le_of_eq hl1.symm, Nat.le_of_eq hl1, rfl⟩ ?_ ?_
  · rintro i env S x ⟨e', g', x7, rfl, hg', he', q1, q2, q3, q4, q5, rfl⟩ hx
    refine ⟨by rfl, ?_⟩
    have hi : i < n2 + 1 := by
      have := (List.getElem?_eq_some_iff.mp hx).1
      rw [upto_length] at this
      exact this
    ((repeat sizeOf_list_dec) <;> (try dsimp only))
    refine (simple_spec g' rest e' many hg' he' (by omega)).mono ?_
    rintro _ _ ⟨e2, g3, rfl, rfl, hg3, he2, ⟨s1, s2, s3, s4⟩, s5⟩
    ((repeat sizeOf_list_dec) <;> (try dsimp only))
    exact ⟨e2, g3, _, rfl, hg3, he2, s1.trans q1, s2.trans q2, s3.trans q3, by omega, by omega, rfl⟩
  · rintro env S ⟨e', g', x7, rfl, hg', he', q1, q2, q3, q4, q5, rfl⟩
    rw [upto_length] at q5
    refine ⟨by rfl, ?_⟩
    -- the row that goes back
    ((repeat ((fail_if_success (with_reducible refine w_if.mpr ?_)); sizeOf_list_dec)) <;> (try dsimp only))
    refine Post.mono (Q := fun p S => p.1 = .nx ∧ ∃ e3 g3, p.2 = [some (.loc 1), some (.loc (rest.length + 3)), some (.ls (ivs good)), none, some (.int test), some (.int (e.rows.length : Int)), some (.ls (e.boxes.map .str)), x7] ∧ S = Es.st e3 g3 rest ∧ g3.Ok ∧ e3.Ok many ∧ e3.houses = e.houses ∧ e3.owners = e.owners ∧ e3.free = e.free ∧ e.rows.length + 1 ≤ e3.rows.length ∧ e3.rows.length ≤ e'.rows.length + 1) ?_ ?_
    · ((repeat sizeOf_list_dec) <;> (try dsimp only))
      ((refine Post.mono (next_spec _ _ _ hg' ?hn0 ?hn1) ?_); (case hn0 => omega); (case hn1 => omega))
      rintro _ _ ⟨r3, g3, rfl, rfl, hg3, a3, b3⟩
      ((repeat sizeOf_list_dec) <;> (try dsimp only))
      cases hz : (r3 == 0) with
      | false =>
        ((repeat sizeOf_list_dec) <;> (try dsimp only))
        exact ⟨by trivial, e', g3, by trivial, rfl, hg3, he', q1, q2, q3, q4, by omega⟩
      | true =>
        ((repeat sizeOf_list_dec) <;> (try dsimp only))
        obtain ⟨b, hb, hbo⟩ := he'.at ht6
        refine (w_eBox hb).mpr ?_
        ((repeat sizeOf_list_dec) <;> (try dsimp only))
        refine (w_eqS hbo (by decide +kernel)).mpr ?_
        ((repeat sizeOf_list_dec) <;> (try dsimp only))
        cases hbg : decide (b = "good") with
        | false =>
          ((repeat sizeOf_list_dec) <;> (try dsimp only))
          exact ⟨by trivial, e', g3, by trivial, rfl, hg3, he', q1, q2, q3, q4, by omega⟩
        | true =>
          ((repeat sizeOf_list_dec) <;> (try dsimp only))
          refine w_eqAny (plain_strs he.marks) (plain_strsL Es.at2 he'.marks) fun k => ?_
          ((repeat sizeOf_list_dec) <;> (try dsimp only))
          cases k with
          | false =>
            ((repeat sizeOf_list_dec) <;> (try dsimp only))
            exact ⟨by trivial, e', g3, by trivial, rfl, hg3, he', q1, q2, q3, q4, by omega⟩
          | true =>
            ((repeat sizeOf_list_dec) <;> (try dsimp only))
            refine ⟨_, _, rfl, Es.at0, ?_⟩
            ((repeat sizeOf_list_dec) <;> (try dsimp only))
            refine (w_eAdd (r := .go e.rows.length) (by omega)).mpr ?_
            have hl3 : (e'.rows ++ [Row.go e.rows.length]).length = e'.rows.length + 1 := by rw [List.length_append]; rfl
            exact ⟨by trivial, _, g3, by trivial, rfl, hg3, he'.more fun r' hr' => by rw [List.mem_singleton.mp hr']; exact (show e.rows.length < _ by have : [Row.go e.rows.length].length = 1 := rfl; omega), q1, q2, q3, by rw [hl3]; omega, by rw [hl3]; omega⟩
    · rintro ⟨fl, env⟩ S ⟨hfl, e3, g3, henv, rfl, hg3, he3, p1, p2, p3, p4, p5⟩
      cases hfl
      cases henv
      ((repeat sizeOf_list_dec) <;> (try dsimp only))
      refine (w_eSetR (r := .zero test e3.rows.length) (i := e.rows.length) (by omega)).mpr ?_
      have he4 : Es.Ok many { e3 with rows := e3.rows.set e.rows.length (.zero test e3.rows.length) } := he3.row ⟨ht6, Nat.lt_succ_self _⟩
      have hl4 : (e3.rows.set e.rows.length (.zero test e3.rows.length)).length = e3.rows.length := List.length_set ..
      generalize e3.rows.set e.rows.length (.zero test e3.rows.length) = rs4 at he4 hl4
      ((repeat sizeOf_list_dec) <;> (try dsimp only))
      refine for_go (all := upto 0 6) (fun i env S => ∃ bs x, S = Es.st { e3 with rows := rs4, boxes := bs } g3 rest ∧ Es.Ok many { e3 with rows := rs4, boxes := bs } ∧ env = [some (.loc 1), some (.loc (rest.length + 3)), some (.ls (ivs good)), x, some (.int test), some (.int (e.rows.length : Int)), some (.ls (e.boxes.map .str)), x7]) (by rfl) ⟨_, none, rfl, he4, rfl⟩ ?_ ?_
      · rintro i env S x ⟨bs, x3, rfl, hok, rfl⟩ hx
        refine ⟨by rfl, ?_⟩
        have hi : i < 6 := by
          have := (List.getElem?_eq_some_iff.mp hx).1
          rw [upto_length] at this
          exact this
        rw [upto_get hi, Int.zero_add] at hx
        cases hx
        obtain ⟨b, hb, hbo⟩ := hok.at hi
        obtain ⟨b2, hb2, hbo2⟩ := he.at hi
        ((repeat sizeOf_list_dec) <;> (try dsimp only))
        refine (w_eBox hb).mpr ?_
        ((repeat sizeOf_list_dec) <;> (try dsimp only))
        refine (w_ix rfl (atI_map hb2)).mpr ?_
        refine (w_neS hbo hbo2).mpr ?_
        ((repeat sizeOf_list_dec) <;> (try dsimp only))
        cases hd : (!decide (b = b2)) with
        | false =>
          ((repeat sizeOf_list_dec) <;> (try dsimp only))
          exact ⟨bs, _, rfl, hok, rfl⟩
        | true =>
          ((repeat sizeOf_list_dec) <;> (try dsimp only))
          refine (w_eSetB hok hi).mpr ?_
          ((repeat sizeOf_list_dec) <;> (try dsimp only))
          exact ⟨_, _, rfl, hok.box (by decide +kernel), rfl⟩
      · rintro env S ⟨bs, x3, rfl, hok, rfl⟩
        refine ⟨by rfl, ?_⟩
        ((repeat sizeOf_list_dec) <;> (try dsimp only))
        exact fin _ hok p1 p2 p3 (by show e.rows.length ≤ rs4.length; omega) (by show rs4.length ≤ _; omega) g3 hg3
end

/-! PureO -/
/-! PureO: a call with what is laid in and saved about it. -/
section
open PySem L2
/-- [x for x in xs if p(x)] over boxes -/
theorem lc_keep {it : LW.It} {zs : List Nat} {env : LW.Env} {S : Store} {QA : List PV → Store → Prop} {v : Nat} {t : XB} (ha : it.items S = some (ivs zs)) (hn : zs.length ≤ 1000) (hv : v < env.length) (p : Nat → Bool)
    (ht : ∀ i, i ∈ zs → Post (t (env.set v (some (.int (i : Int)))) S) fun k S' => k = p i ∧ S' = S) (hQ : QA (ivs (zs.filter p)) S) : LcP it (gNm v) t (eVar v) env S QA := by
  refine ⟨ivs zs, ha, lc_inv (fun i acc S' => i ≤ zs.length ∧ acc = ivs ((zs.take i).filter p) ∧ S' = S) ?_ ?_ _ 0 rfl (Nat.zero_le _) _ _ ⟨Nat.zero_le _, rfl, rfl⟩⟩
  · rintro i acc S' x ⟨hi, rfl, rfl⟩ hx
    refine ⟨ha, ?_⟩
    obtain ⟨b, hb, rfl⟩ : ∃ b : Nat, zs[i]? = some b ∧ x = .int b := by
      unfold ivs at hx
      rw [List.getElem?_map] at hx
      cases e : zs[i]? with
      | none => rw [e] at hx; cases hx
      | some b => rw [e] at hx; exact ⟨b, rfl, (Option.some.inj hx).symm⟩
    have hlt := (List.getElem?_eq_some_iff.mp hb).1
    refine w_gNm.mpr ?_
    refine (ht b (List.mem_of_getElem? hb)).mono ?_
    rintro k S2 ⟨rfl, rfl⟩
    have hr : (zs.take (i + 1)).filter p = (zs.take i).filter p ++ (if p b = true then [b] else []) := by
      rw [List.take_add_one, hb, List.filter_append]
      by_cases hp : p b = true <;> simp [hp]
    by_cases hp : p b = true
    · rw [if_pos hp]
      refine (w_var (x := .int (b : Int)) ?_).mpr ⟨?_, hlt, ?_, rfl⟩
      · rw [List.getElem?_set_self hv]
      · rw [ivs_length]
        refine Nat.lt_of_le_of_lt (Nat.le_trans (List.length_filter_le _ _) ?_) (by decide : 1000 < lim)
        rw [List.length_take]
        omega
      · rw [hr, if_pos hp]
        unfold ivs
        rw [List.map_append]
        rfl
    · rw [if_neg hp]
      refine ⟨hlt, ?_, rfl⟩
      rw [hr, if_neg hp, List.append_nil]
  · rintro acc S' ⟨_, rfl, rfl⟩
    rw [ivs_length, List.take_length]
    exact ⟨ha, hQ⟩
/-- .. where the test draws -/
theorem lc_sub {it : LW.It} {zs : List Nat} {env : LW.Env} {g : Hs} {rest : Store} {QA : List PV → Store → Prop} {v : Nat} {t : XB} (ha : ∀ S, it.items S = some (ivs zs)) (hg : g.Ok) (hn : zs.length ≤ 1000) (hv : v < env.length)
    (ht : ∀ i g, i ∈ zs → Hs.Ok g → Post (t (env.set v (some (.int (i : Int)))) (g.st rest)) fun k S' => ∃ g', S' = Hs.st g' rest ∧ g'.Ok) (hQ : ∀ ys g', Hs.Ok g' → ys.Sublist zs → QA (ivs ys) (g'.st rest)) : LcP it (gNm v) t (eVar v) env (g.st rest) QA := by
  refine ⟨ivs zs, ha _, lc_inv (fun i acc S' => i ≤ zs.length ∧ ∃ ys g', acc = ivs ys ∧ ys.Sublist (zs.take i) ∧ Hs.Ok g' ∧ S' = g'.st rest) ?_ ?_ _ 0 rfl (Nat.zero_le _) _ _ ⟨Nat.zero_le _, [], g, rfl, List.nil_sublist _, hg, rfl⟩⟩
  · rintro i acc S' x ⟨hi, ys, g', rfl, hs, hg', rfl⟩ hx
    refine ⟨ha _, ?_⟩
    obtain ⟨b, hb, rfl⟩ : ∃ b : Nat, zs[i]? = some b ∧ x = .int b := by
      unfold ivs at hx
      rw [List.getElem?_map] at hx
      cases e : zs[i]? with
      | none => rw [e] at hx; cases hx
      | some b => rw [e] at hx; exact ⟨b, rfl, (Option.some.inj hx).symm⟩
    have hlt := (List.getElem?_eq_some_iff.mp hb).1
    refine w_gNm.mpr ?_
    refine (ht b g' (List.mem_of_getElem? hb) hg').mono ?_
    rintro k S2 ⟨g2, rfl, hg2⟩
    have hr : zs.take (i + 1) = zs.take i ++ [b] := by rw [List.take_add_one, hb]; rfl
    cases k with
    | true =>
      rw [if_pos rfl]
      refine (w_var (x := .int (b : Int)) ?_).mpr ⟨?_, hlt, ys ++ [b], g2, ?_, ?_, hg2, rfl⟩
      · rw [List.getElem?_set_self hv]
      · rw [ivs_length]
        refine Nat.lt_of_le_of_lt (Nat.le_trans hs.length_le ?_) (by decide : 1000 < lim)
        rw [List.length_take]
        omega
      · unfold ivs
        rw [List.map_append]
        rfl
      · rw [hr]
        exact hs.append (List.Sublist.refl _)
    | false =>
      rw [if_neg (by decide)]
      refine ⟨hlt, ys, g2, rfl, ?_, hg2, rfl⟩
      rw [hr]
      exact hs.trans (List.sublist_append_left _ _)
  · rintro acc S' ⟨_, ys, g', rfl, hs, hg', rfl⟩
    rw [ivs_length, List.take_length] at hs
    exact ⟨ha _, hQ ys g' hg' hs⟩
/-- [f(x) for x in xs] over boxes -/
theorem lc_each {it : LW.It} {zs : List Nat} {env : LW.Env} {S : Store} {QA : List PV → Store → Prop} {v : Nat} {e : XE} (f : Nat → PV) (ha : it.items S = some (ivs zs)) (hn : zs.length ≤ 1000)
    (he : ∀ i, i ∈ zs → Post (e (env.set v (some (.int (i : Int)))) S) fun y S' => y = f i ∧ S' = S) (hQ : QA (zs.map f) S) : LcP it (gNm v) bYes e env S QA := by
  refine ⟨ivs zs, ha, lc_inv (fun i acc S' => i ≤ zs.length ∧ acc = (zs.take i).map f ∧ S' = S) ?_ ?_ _ 0 rfl (Nat.zero_le _) _ _ ⟨Nat.zero_le _, rfl, rfl⟩⟩
  · rintro i acc S' x ⟨hi, rfl, rfl⟩ hx
    refine ⟨ha, ?_⟩
    obtain ⟨b, hb, rfl⟩ : ∃ b : Nat, zs[i]? = some b ∧ x = .int b := by
      unfold ivs at hx
      rw [List.getElem?_map] at hx
      cases e : zs[i]? with
      | none => rw [e] at hx; cases hx
      | some b => rw [e] at hx; exact ⟨b, rfl, (Option.some.inj hx).symm⟩
    have hlt := (List.getElem?_eq_some_iff.mp hb).1
    refine w_gNm.mpr (w_yes.mpr ?_)
    rw [if_pos rfl]
    refine (he b (List.mem_of_getElem? hb)).mono ?_
    rintro y S2 ⟨rfl, rfl⟩
    refine ⟨?_, hlt, ?_, rfl⟩
    · rw [List.length_map, List.length_take]
      exact Nat.lt_of_le_of_lt (by omega) (by decide : 1000 < lim)
    · rw [List.take_add_one, hb, List.map_append]
      rfl
  · rintro acc S' ⟨_, rfl, rfl⟩
    rw [ivs_length, List.take_length]
    exact ⟨ha, hQ⟩
theorem rev_items {zs : List Nat} {S : Store} : (LW.It.rev (.ls (ivs zs))).items S = some (ivs zs.reverse) := by
  show some (ivs zs).reverse = _
  unfold ivs
  rw [List.map_reverse]
theorem ivs_app (xs : List Nat) (b : Nat) : ivs xs ++ [.int b] = ivs (xs ++ [b]) := by
  unfold ivs
  rw [List.map_append]
  rfl
theorem ivs_at {zs : List Nat} {i : Nat} {x : PV} (hx : (ivs zs)[i]? = some x) : ∃ b : Nat, b ∈ zs ∧ x = .int b := by
  unfold ivs at hx
  rw [List.getElem?_map] at hx
  cases e : zs[i]? with
  | none => rw [e] at hx; cases hx
  | some b => rw [e] at hx; exact ⟨b, List.mem_of_getElem? e, (Option.some.inj hx).symm⟩
theorem calling_spec (g : Hs) (rest : Store) (e : Es) (many : Nat) (hg : g.Ok) (he : e.Ok many) (hs : e.rows.length ≤ 8000) :
    Post (m_calling [.loc 1, .loc (rest.length + 3)] (e.st g rest)) (EsOut many e rest 19) := by
  unfold m_calling
  refine w_fnP rfl ?_
  have fin : ∀ e' : Es, e'.Ok many → e'.houses = e.houses → e'.owners = e.owners → e'.free = e.free → e.rows.length ≤ e'.rows.length → e'.rows.length ≤ e.rows.length + 19 → ∀ g1 : Hs, g1.Ok → Post (leave (e.st g rest).length .non (e'.st g1 rest)) (EsOut many e rest 19) := fun e' h1 h3 h4 h5 h6 h7 g hg => by
    refine (leave_same (by rw [Es.len, Es.len])).mpr ?_
    exact ⟨e', g, rfl, rfl, hg, h1, ⟨h3, h4, h5, h6⟩, h7⟩
  generalize hL : (e.st g rest).length = L at fin ⊢
  have how := he.owned
  have hfew := he.few
  have hmp := he.mpos
  ((repeat sizeOf_list_dec) <;> (try dsimp only))
  rw [how]
  ((refine Post.mono (next_spec _ _ _ hg ?hn0 ?hn1) ?_); (case hn0 => omega); (case hn1 => omega))
  rintro _ _ ⟨r1, g1, rfl, rfl, hg1, a1, b1⟩
  obtain ⟨called, rfl⟩ : ∃ n : Nat, r1 = n := ⟨r1.toNat, by omega⟩
  have hcm : called < many := by omega
  ((repeat sizeOf_list_dec) <;> (try dsimp only))
  have hco : called < e.owners.length := by omega
  refine (w_ix rfl (atI_map (List.getElem?_eq_getElem hco))).mpr ?_
  have hoh : e.owners[called] < e.houses.length := he.owners _ (List.getElem_mem hco)
  refine (w_ix rfl (atI_map (List.getElem?_eq_getElem hoh))).mpr ?_
  have hk := he.houses _ (List.getElem_mem hoh)
  generalize e.houses[e.owners[called]] = k at hk ⊢
  have hil := hk.ins.len
  ((repeat sizeOf_list_dec) <;> (try dsimp only))
  refine lc_some (n := 6) (by decide) (by show 7 < 10; decide) (fun i => !e.free.contains i) (fun i hi => ?_) (fun fixed fixed1 fixed2 => ?_)
  · ((repeat sizeOf_list_dec) <;> (try dsimp only))
    refine (w_notIn rfl rfl (flat_ivs _)).mpr ?_
    rw [inSeq_ivs]
    ((repeat sizeOf_list_dec) <;> (try dsimp only))
    exact ⟨by trivial, by trivial⟩
  ((repeat sizeOf_list_dec) <;> (try dsimp only))
  refine (w_addT (by rw [ivs_length]; exact Nat.le_trans (Nat.add_le_add_right hil _) (Nat.le_of_ble_eq_true rfl))).mpr ?_
  rw [ivs_app]
  ((repeat sizeOf_list_dec) <;> (try dsimp only))
  refine lc_keep (zs := k.ins ++ [k.out]) rfl (by rw [List.length_append]; exact Nat.le_trans (Nat.add_le_add_right hil _) (Nat.le_of_ble_eq_true rfl)) (by show 7 < 10; decide) (fun i => fixed.contains i) (fun i hi => ?_) ?_
  · ((repeat sizeOf_list_dec) <;> (try dsimp only))
    refine (w_in rfl rfl (flat_ivs _)).mpr ?_
    rw [inSeq_ivs]
    ((repeat sizeOf_list_dec) <;> (try dsimp only))
    exact ⟨by trivial, by trivial⟩
  ((repeat sizeOf_list_dec) <;> (try dsimp only))
  refine (w_neE' (plain_ivs _ _)).mpr ?_
  cases hz : (!(ivs ((k.ins ++ [k.out]).filter fun i => fixed.contains i)).isEmpty) with
  | true =>
    ((repeat sizeOf_list_dec) <;> (try dsimp only))
    exact fin e he rfl rfl rfl (Nat.le_refl _) (by omega) g1 hg1
  | false =>
  ((repeat sizeOf_list_dec) <;> (try dsimp only))
  refine for_go (all := ivs k.ins) (fun i env S => ∃ e' g' x, S = Es.st e' g' rest ∧ g'.Ok ∧ e'.Ok many ∧ e'.houses = e.houses ∧ e'.owners = e.owners ∧ e'.free = e.free ∧ e.rows.length ≤ e'.rows.length ∧ e'.rows.length ≤ e.rows.length + i ∧ env = [some (.loc 1), some (.loc (rest.length + 3)), some (.int called), some (.tup (ivs k.ins)), some (.int k.out), some (.tup (ivs k.kept)), some (.ls (ivs fixed)), x, none, none]) (by rfl) ⟨e, g1, none, rfl, hg1, he, rfl, rfl, rfl, Nat.le_refl _, Nat.le_refl _, rfl⟩ ?_ ?_
  · rintro i env S x ⟨e', g', x7, rfl, hg', he', q1, q2, q3, q4, q5, rfl⟩ hx
    refine ⟨by rfl, ?_⟩
    have hi := (List.getElem?_eq_some_iff.mp hx).1
    rw [ivs_length] at hi
    obtain ⟨b, hb, rfl⟩ := ivs_at hx
    have hb6 := hk.ins.2 b hb
    obtain ⟨m, hm, hmo⟩ := he'.at hb6
    ((repeat sizeOf_list_dec) <;> (try dsimp only))
    refine (w_eBox hm).mpr ?_
    ((repeat sizeOf_list_dec) <;> (try dsimp only))
    refine (w_neS hmo (by decide +kernel)).mpr ?_
    ((repeat sizeOf_list_dec) <;> (try dsimp only))
    cases hmg : (!decide (m = "good")) with
    | false =>
      ((repeat sizeOf_list_dec) <;> (try dsimp only))
      exact ⟨e', g', _, rfl, hg', he', q1, q2, q3, q4, by omega, rfl⟩
    | true =>
      ((repeat sizeOf_list_dec) <;> (try dsimp only))
      refine ⟨_, _, rfl, Es.at0, ?_⟩
      ((repeat sizeOf_list_dec) <;> (try dsimp only))
      refine (number_spec _ _ hg').mono ?_
      rintro _ _ ⟨n, g3, rfl, rfl, hg3, n0, n1⟩
      obtain ⟨n, rfl⟩ : ∃ n' : Nat, n = n' := ⟨n.toNat, by omega⟩
      ((repeat sizeOf_list_dec) <;> (try dsimp only))
      refine (w_eAdd (r := .put b n) (by omega)).mpr ?_
      have he2 : Es.Ok many { e' with rows := e'.rows ++ [.put b n] } := he'.more fun r' hr' => by
        rw [List.mem_singleton.mp hr']
        exact ⟨hb6, by omega⟩
      have hl2 : (e'.rows ++ [Row.put b n]).length = e'.rows.length + 1 := by rw [List.length_append]; rfl
      ((repeat sizeOf_list_dec) <;> (try dsimp only))
      refine (w_eSetB he2 hb6).mpr ?_
      ((repeat sizeOf_list_dec) <;> (try dsimp only))
      exact ⟨_, g3, _, rfl, hg3, he2.box (by decide +kernel), q1, q2, q3, by show _ ≤ (e'.rows ++ [Row.put b n]).length; omega, by show (e'.rows ++ [Row.put b n]).length ≤ _; omega, rfl⟩
  · rintro env S ⟨e1, g2, x7, rfl, hg2, he1, q1, q2, q3, q4, q5, rfl⟩
    rw [ivs_length] at q5
    refine ⟨by rfl, ?_⟩
    ((repeat sizeOf_list_dec) <;> (try dsimp only))
    refine lc_some (n := 6) (by decide) (by show 7 < 10; decide) (fun i => !k.kept.contains i && (!decide (e1.boxes[i]? = some ("loose" : Str)) && !((i : Int) == k.out))) (fun i hi => ?_) (fun sm sm1 sm2 => ?_)
    · obtain ⟨m, hm, hmo⟩ := he1.at hi
      ((repeat sizeOf_list_dec) <;> (try dsimp only))
      refine (w_notIn rfl rfl (flat_ivs _)).mpr ?_
      rw [inSeq_ivs]
      ((repeat sizeOf_list_dec) <;> (try dsimp only))
      cases hc1 : k.kept.contains i with
      | true =>
        ((repeat sizeOf_list_dec) <;> (try dsimp only))
        exact ⟨by trivial, by trivial⟩
      | false =>
        ((repeat sizeOf_list_dec) <;> (try dsimp only))
        refine (w_eBox hm).mpr ?_
        ((repeat sizeOf_list_dec) <;> (try dsimp only))
        refine (w_neS hmo (by decide +kernel)).mpr ?_
        ((repeat sizeOf_list_dec) <;> (try dsimp only))
        rw [hm]
        cases hc2 : decide (m = "loose") with
        | true =>
          ((repeat sizeOf_list_dec) <;> (try dsimp only))
          exact ⟨by have : m = "loose" := of_decide_eq_true hc2; rw [this]; simp, by trivial⟩
        | false =>
          ((repeat sizeOf_list_dec) <;> (try dsimp only))
          exact ⟨by have : ¬ m = "loose" := of_decide_eq_false hc2; simp [this], by trivial⟩
    have hsb : Boxes sm := some_boxes sm1 sm2
    have hsl := hsb.len
    ((repeat sizeOf_list_dec) <;> (try dsimp only))
    refine lc_sub (zs := sm) (fun _ => rfl) hg2 (by omega) (by show 7 < 10; decide) (fun i g' hi hg' => ?_) (fun saved g3 hg3 hsub => ?_)
    · ((repeat sizeOf_list_dec) <;> (try dsimp only))
      refine (w_in rfl rfl (flat_ivs _)).mpr ?_
      rw [inSeq_ivs]
      ((repeat sizeOf_list_dec) <;> (try dsimp only))
      cases hf : fixed.contains i with
      | true =>
        ((repeat sizeOf_list_dec) <;> (try dsimp only))
        exact ⟨g', rfl, hg'⟩
      | false =>
        ((repeat sizeOf_list_dec) <;> (try dsimp only))
        ((refine Post.mono (next_spec _ _ _ hg' ?hn0 ?hn1) ?_); (case hn0 => omega); (case hn1 => omega))
        rintro _ _ ⟨r2, g3, rfl, rfl, hg3, a2, b2⟩
        ((repeat sizeOf_list_dec) <;> (try dsimp only))
        exact ⟨g3, rfl, hg3⟩
    have hsv : Boxes saved := hsb.sub hsub
    have hvl := hsv.len
    ((repeat sizeOf_list_dec) <;> (try dsimp only))
    refine ⟨_, _, rfl, Es.at0, ?_⟩
    ((repeat sizeOf_list_dec) <;> (try dsimp only))
    refine lc_each (zs := saved) (fun i => (Row.push i).pv) rfl (by omega) (fun i hi => ?_) ?_
    · ((repeat sizeOf_list_dec) <;> (try dsimp only))
      exact ⟨by trivial, by trivial⟩
    ((repeat sizeOf_list_dec) <;> (try dsimp only))
    refine (w_eMore (rs := saved.map Row.push) (by rw [List.map_map]; rfl) (by rw [List.length_map]; omega)).mpr ?_
    have he2 : Es.Ok many { e1 with rows := e1.rows ++ saved.map Row.push } := he1.more fun r' hr' => by
      obtain ⟨b, hb, rfl⟩ := List.mem_map.mp hr'
      exact hsv.2 b hb
    have hl2 : (e1.rows ++ saved.map Row.push).length = e1.rows.length + saved.length := by rw [List.length_append, List.length_map]
    generalize e1.rows ++ saved.map Row.push = rs2 at he2 hl2 ⊢
    ((repeat sizeOf_list_dec) <;> (try dsimp only))
    refine ⟨_, _, rfl, Es.at0, ?_⟩
    ((repeat sizeOf_list_dec) <;> (try dsimp only))
    refine (w_eAdd (r := .call called) (by show rs2.length < _; omega)).mpr ?_
    have he3 : Es.Ok many { e1 with rows := rs2 ++ [.call called] } := he2.more fun r' hr' => by
      rw [List.mem_singleton.mp hr']
      exact hcm
    have hl3 : (rs2 ++ [Row.call called]).length = rs2.length + 1 := by rw [List.length_append]; rfl
    dsimp only
    generalize rs2 ++ [Row.call called] = rs3 at he3 hl3 ⊢
    ((repeat sizeOf_list_dec) <;> (try dsimp only))
    refine ⟨_, _, rfl, Es.at0, ?_⟩
    ((repeat sizeOf_list_dec) <;> (try dsimp only))
    refine lc_each (zs := saved.reverse) (fun i => (Row.pop i).pv) rev_items (by rw [List.length_reverse]; omega) (fun i hi => ?_) ?_
    · ((repeat sizeOf_list_dec) <;> (try dsimp only))
      exact ⟨by trivial, by trivial⟩
    ((repeat sizeOf_list_dec) <;> (try dsimp only))
    refine (w_eMore (rs := saved.reverse.map Row.pop) (by rw [List.map_map]; rfl) (by rw [List.length_map, List.length_reverse]; show rs3.length + _ < _; omega)).mpr ?_
    have he4 : Es.Ok many { e1 with rows := rs3 ++ saved.reverse.map Row.pop } := he3.more fun r' hr' => by
      obtain ⟨b, hb, rfl⟩ := List.mem_map.mp hr'
      exact hsv.2 b (List.mem_reverse.mp hb)
    have hl4 : (rs3 ++ saved.reverse.map Row.pop).length = rs3.length + saved.length := by rw [List.length_append, List.length_map, List.length_reverse]
    dsimp only
    generalize rs3 ++ saved.reverse.map Row.pop = rs4 at he4 hl4 ⊢
    ((repeat sizeOf_list_dec) <;> (try dsimp only))
    refine for_go (all := ivs sm) (fun i env S => ∃ bs x, S = Es.st { e1 with rows := rs4, boxes := bs } g3 rest ∧ Es.Ok many { e1 with rows := rs4, boxes := bs } ∧ env = [some (.loc 1), some (.loc (rest.length + 3)), some (.int called), some (.tup (ivs k.ins)), some (.int k.out), some (.tup (ivs k.kept)), some (.ls (ivs fixed)), x, some (.ls (ivs sm)), some (.ls (ivs saved))]) (by rfl) ⟨_, _, rfl, he4, rfl⟩ ?_ ?_
    · rintro i env S x ⟨bs, x8, rfl, hok, rfl⟩ hx
      refine ⟨by rfl, ?_⟩
      obtain ⟨b, hb, rfl⟩ := ivs_at hx
      have hb6 := hsb.2 b hb
      obtain ⟨m, hm, hmo⟩ := hok.at hb6
      ((repeat sizeOf_list_dec) <;> (try dsimp only))
      refine (w_in rfl rfl (flat_ivs _)).mpr ?_
      rw [inSeq_ivs]
      ((repeat sizeOf_list_dec) <;> (try dsimp only))
      cases hc : saved.contains b with
      | true =>
        ((repeat sizeOf_list_dec) <;> (try dsimp only))
        refine (w_eBox hm).mpr ?_
        ((repeat sizeOf_list_dec) <;> (try dsimp only))
        refine (w_eSetB hok hb6).mpr ?_
        ((repeat sizeOf_list_dec) <;> (try dsimp only))
        exact ⟨_, _, rfl, hok.box hmo, rfl⟩
      | false =>
        ((repeat sizeOf_list_dec) <;> (try dsimp only))
        refine (w_eSetB hok hb6).mpr ?_
        ((repeat sizeOf_list_dec) <;> (try dsimp only))
        exact ⟨_, _, rfl, hok.box (by decide +kernel), rfl⟩
    · rintro env S ⟨bs, x8, rfl, hok, rfl⟩
      refine ⟨by rfl, ?_⟩
      ((repeat sizeOf_list_dec) <;> (try dsimp only))
      refine (w_eSetB hok hk.out).mpr ?_
      ((repeat sizeOf_list_dec) <;> (try dsimp only))
      exact fin _ (hok.box (by decide +kernel)) q1 q2 q3 (by show _ ≤ rs4.length; omega) (by show rs4.length ≤ _; omega) g3 hg3
end

/-! PureP -/
/-! PureP: a routine, drawn row by row. -/
section
open PySem L2
theorem w_str {i : Int} {S : Store} {Q : PV → Store → Prop} (h : i.natAbs.log2 < 1920) : Post (bStr [.int i] S) Q ↔ Q (.str (toString i : String)) S := by
  unfold bStr
  simp only []
  rw [if_pos h]
  exact Post.ok
theorem w_addLoc {l : Nat} {xs ys : List PV} {S : Store} {Q : PV → Store → Prop} (h : S[l]? = some (.lst xs)) (h2 : xs.length + ys.length ≤ lim) : Post (oAdd (.loc l) (.ls ys) S) Q ↔ Q (.ls (xs ++ ys)) S := by
  unfold oAdd
  simp only [lstOf, h]
  rw [if_pos h2]
  exact Post.ok
theorem w_addLL {xs ys : List PV} {S : Store} {Q : PV → Store → Prop} (h2 : xs.length + ys.length ≤ lim) : Post (oAdd (.ls xs) (.ls ys) S) Q ↔ Q (.ls (xs ++ ys)) S := by
  unfold oAdd
  simp only [lstOf]
  rw [if_pos h2]
  exact Post.ok
theorem lows_all (n : Nat) : ∀ xs : List PV, (∀ x ∈ xs, low n x = true) → lows n xs = true
  | [], _ => by unfold lows; rfl
  | x :: r, h => by
    unfold lows
    rw [h x (by simp), lows_all n r fun y hy => h y (by simp [hy])]
    rfl
theorem low_tup {n : Nat} {xs : List PV} (h : ∀ x ∈ xs, low n x = true) : low n (.tup xs) = true := by
  unfold low
  exact lows_all n xs h
theorem low_int {n : Nat} {i : Int} : low n (.int i) = true := by unfold low; rfl
theorem low_str {n : Nat} {i : Str} : low n (.str i) = true := by unfold low; rfl
end
section
open PySem L2
theorem low_ivs {n : Nat} (xs : List Nat) : ∀ x ∈ ivs xs, low n x = true := fun x hx => by
  obtain ⟨i, _, rfl⟩ := ivs_mem hx
  exact low_int
theorem Row.low (n : Nat) (r : Row) : LW.low n r.pv = true := by
  cases r <;> (unfold Row.pv; exact low_tup (by intro x hx; simp only [List.mem_cons, List.not_mem_nil, or_false] at hx; rcases hx with rfl | rfl | rfl | rfl <;> first | exact low_str | exact low_int))
theorem Rows.low (n : Nat) (rs : List Row) : LW.low n (.tup (rs.map Row.pv)) = true := low_tup fun x hx => by
  obtain ⟨r, _, rfl⟩ := List.mem_map.mp hx
  exact r.low n
theorem Routine.low (n : Nat) (r : Routine) : LW.low n r.pv = true := by
  unfold Routine.pv
  exact low_tup (by intro x hx; simp only [List.mem_cons, List.not_mem_nil, or_false] at hx; rcases hx with rfl | rfl; exact low_int; exact Rows.low n _)
def LowR (rest : Store) : Prop := rest.all (Cell.low (rest.length + 2)) = true
theorem LowR.st {rest : Store} (h : LowR rest) (g : Hs) : LowS (g.st rest) := by
  have h : rest.all (Cell.low (rest.length + 2)) = true := h
  show (Cell.low (rest.length + 1 + 1) (.lst (g.l.map .int)) && (Cell.low (rest.length + 1 + 1) (.lst [.int g.a, .loc 0, .int g.c]) && rest.all (Cell.low (rest.length + 1 + 1)))) = true
  rw [h]
  have h1 : Cell.low (rest.length + 1 + 1) (.lst (g.l.map .int)) = true := lows_all _ _ fun x hx => by
    obtain ⟨i, _, rfl⟩ := List.mem_map.mp hx
    exact low_int
  have h2 : Cell.low (rest.length + 1 + 1) (.lst [.int g.a, .loc 0, .int g.c]) = true := lows_all _ _ fun x hx => by
    simp only [List.mem_cons, List.not_mem_nil, or_false] at hx
    rcases hx with rfl | rfl | rfl
    · exact low_int
    · unfold LW.low
      exact decide_eq_true (Nat.succ_pos _)
    · exact low_int
  rw [h1, h2]
  rfl
def House.mark (k : House) (i : Nat) : Str := if k.ins.contains i = true then "good" else if k.kept.contains i = true then (toString (i : Int) : String) else "loose"
theorem House.mark_ok (k : House) {i : Nat} (hi : i < 6) : PyData.strOk (k.mark i) = true := by
  unfold House.mark
  split
  · decide +kernel
  · split
    · rcases (by omega : i = 0 ∨ i = 1 ∨ i = 2 ∨ i = 3 ∨ i = 4 ∨ i = 5) with rfl | rfl | rfl | rfl | rfl | rfl <;> decide +kernel
    · decide +kernel
theorem Hs.app {g : Hs} {A B : Store} : g.st A ++ B = g.st (A ++ B) := rfl
theorem Hs.len2 {g : Hs} {A : Store} {a b : Cell} : (g.st (A ++ [a, b])).length = A.length + 4 := by
  show (A ++ [a, b]).length + 1 + 1 = _
  rw [List.length_append]
  rfl
theorem Hs.at1 {g : Hs} {A B : Store} {a b : Cell} : (g.st (A ++ a :: b :: B))[A.length + 3]? = some b := get_app (A := A) (B := a :: b :: B) (i := 1)
theorem Hs.set1 {g : Hs} {A B : Store} {a b c : Cell} : (g.st (A ++ a :: b :: B)).set (A.length + 3) c = g.st (A ++ a :: c :: B) := congrArg (fun z => Cell.lst (g.l.map .int) :: Cell.lst [.int g.a, .loc 0, .int g.c] :: z) (set_app (A := A) (B := a :: b :: B) (i := 1))
theorem back_ok {e : Es} {many : Nat} (he : e.Ok many) {pops : List Nat} (hp : ∀ b ∈ pops, b < 6) : ∀ r ∈ (e.rows ++ pops.map Row.pop) ++ [Row.back], r.Ok ((e.rows ++ pops.map Row.pop) ++ [Row.back]).length many := fun r hr => by
  rw [List.length_append, List.length_append]
  rcases List.mem_append.mp hr with h | h
  · rcases List.mem_append.mp h with h | h
    · exact (he.rows r h).mono (by show _ ≤ _ + 1; omega)
    · obtain ⟨b, hb, rfl⟩ := List.mem_map.mp h
      exact hp b hb
  · rw [List.mem_singleton.mp h]
    trivial
theorem kept_spec (g : Hs) (rest : Store) (hlow : LowR rest) (hg : g.Ok) (hs : List House) (owners : List Nat) (nh most : Nat) (hho : ∀ h ∈ hs, House.Ok h) (how : ∀ o ∈ owners, o < hs.length) (h6 : owners.length ≤ 6) (hnh : nh < owners.length) (hmost : most ≤ 100) :
    Post (m_kept [.loc 1, .tup (hs.map House.pv), .ls (ivs owners), .int nh, .int most] (g.st rest)) fun v S => ∃ (r : Routine) (g' : Hs), v = r.pv ∧ r.Ok hs.length owners.length ∧ S = g'.st rest ∧ g'.Ok := by
  unfold m_kept
  refine w_fnP rfl ?_
  have fin : ∀ (init : List Row) (e' : Es) (g1 : Hs), g1.Ok → (∀ r ∈ init ++ [Row.back], r.Ok (init ++ [Row.back]).length owners.length) → (init ++ [Row.back]).length ≤ 32 → Post (leave (g.st rest).length (.tup [.int (owners[nh] : Nat), .tup ((init ++ [Row.back]).map Row.pv)]) (e'.st g1 rest)) fun v S => ∃ (r : Routine) (g' : Hs), v = r.pv ∧ r.Ok hs.length owners.length ∧ S = g'.st rest ∧ g'.Ok := fun init e' g1 hg1 hok hlen => by
    show Post (leave (g1.st rest).length (Routine.pv ⟨owners[nh], init, .back⟩) (g1.st rest ++ e'.cells rest.length)) _
    refine (leave_drop (w := Routine.pv ⟨owners[nh], init, .back⟩) (hlow.st g1) (by unfold Es.cells; simp) ?_).mpr ⟨⟨owners[nh], init, .back⟩, g1, rfl, ⟨how _ (List.getElem_mem hnh), hlen, hok, trivial⟩, rfl, hg1⟩
    show (if LW.low _ (Routine.pv ⟨owners[nh], init, .back⟩) = true then some _ else none) = _
    rw [if_pos (Routine.low _ _)]
  generalize hL : (g.st rest).length = L at fin ⊢
  ((repeat sizeOf_list_dec) <;> (try dsimp only))
  have hoa : atI (ivs owners) (nh : Int) = some (.int (owners[nh] : Nat)) := atI_map (List.getElem?_eq_getElem hnh)
  refine (w_ix rfl hoa).mpr ?_
  have hoh : owners[nh] < hs.length := how _ (List.getElem_mem hnh)
  refine (w_ix rfl (atI_map (List.getElem?_eq_getElem hoh))).mpr ?_
  have hk := hho _ (List.getElem_mem hoh)
  generalize hs[owners[nh]] = k at hk ⊢
  have hil := hk.ins.len
  have hkl := hk.kept.len
  ((repeat sizeOf_list_dec) <;> (try dsimp only))
  refine lc_sub (zs := k.kept) (fun _ => rfl) hg (by omega) (by show 9 < 14; decide) (fun i g' hi hg' => ?_) (fun saved g1 hg1 hsub => ?_)
  · ((repeat sizeOf_list_dec) <;> (try dsimp only))
    ((refine Post.mono (next_spec _ _ _ hg' ?hn0 ?hn1) ?_); (case hn0 => omega); (case hn1 => omega))
    rintro _ _ ⟨r2, g3, rfl, rfl, hg3, a2, b2⟩
    ((repeat sizeOf_list_dec) <;> (try dsimp only))
    exact ⟨g3, rfl, hg3⟩
  have hsv : Boxes saved := hk.kept.sub hsub
  have hvl := hsv.len
  ((repeat sizeOf_list_dec) <;> (try dsimp only))
  refine w_eDks.mpr ?_
  ((repeat sizeOf_list_dec) <;> (try dsimp only))
  refine lc_each (zs := saved) (fun i => (Row.push i).pv) rfl (by omega) (fun i hi => ?_) ?_
  · ((repeat sizeOf_list_dec) <;> (try dsimp only))
    exact ⟨by trivial, by trivial⟩
  rw [show (g1.st rest).length = rest.length + 2 from rfl]
  ((repeat sizeOf_list_dec) <;> (try dsimp only))
  refine ⟨rfl, by decide, by decide +kernel, ?_⟩
  rw [show (g1.st rest ++ [Cell.lst (saved.map fun i => (Row.push i).pv)]).length = rest.length + 3 by rw [List.length_append]; rfl]
  ((repeat sizeOf_list_dec) <;> (try dsimp only))
  refine lc_each (zs := List.range 6) (fun i => PV.str (k.mark i)) (by rfl) (by decide) (fun i hi => ?_) ?_
  · have hi6 : i < 6 := List.mem_range.mp hi
    ((repeat sizeOf_list_dec) <;> (try dsimp only))
    refine (w_in rfl rfl (flat_ivs _)).mpr ?_
    rw [inSeq_ivs]
    ((repeat sizeOf_list_dec) <;> (try dsimp only))
    unfold House.mark
    cases hc : k.ins.contains i with
    | true =>
      ((repeat sizeOf_list_dec) <;> (try dsimp only))
      exact ⟨by trivial, by trivial⟩
    | false =>
      ((repeat sizeOf_list_dec) <;> (try dsimp only))
      refine (w_in rfl rfl (flat_ivs _)).mpr ?_
      rw [inSeq_ivs]
      ((repeat sizeOf_list_dec) <;> (try dsimp only))
      cases hc2 : k.kept.contains i with
      | true =>
        ((repeat sizeOf_list_dec) <;> (try dsimp only))
        refine (w_str ?_).mpr ?_
        · rcases (by omega : i = 0 ∨ i = 1 ∨ i = 2 ∨ i = 3 ∨ i = 4 ∨ i = 5) with rfl | rfl | rfl | rfl | rfl | rfl <;> decide
        ((repeat sizeOf_list_dec) <;> (try dsimp only))
        exact ⟨by trivial, by trivial⟩
      | false =>
        ((repeat sizeOf_list_dec) <;> (try dsimp only))
        exact ⟨by trivial, by trivial⟩
  simp only [Hs.app, List.append_assoc, List.cons_append, List.nil_append]
  rw [Hs.len2]
  ((repeat sizeOf_list_dec) <;> (try dsimp only))
  refine (w_setS (Hs.at1 (B := [_])) (by show 3 < lim; decide)).mpr ?_
  rw [Hs.set1]
  ((repeat sizeOf_list_dec) <;> (try dsimp only))
  refine lc_some (n := 6) (by decide) (by show 9 < 14; decide) (fun i => !k.kept.contains i || saved.contains i) (fun i hi => ?_) (fun free free1 free2 => ?_)
  · ((repeat sizeOf_list_dec) <;> (try dsimp only))
    refine (w_notIn rfl rfl (flat_ivs _)).mpr ?_
    rw [inSeq_ivs]
    ((repeat sizeOf_list_dec) <;> (try dsimp only))
    cases hc : k.kept.contains i with
    | false =>
      ((repeat sizeOf_list_dec) <;> (try dsimp only))
      exact ⟨by trivial, by trivial⟩
    | true =>
      ((repeat sizeOf_list_dec) <;> (try dsimp only))
      refine (w_in rfl rfl (flat_ivs _)).mpr ?_
      rw [inSeq_ivs]
      ((repeat sizeOf_list_dec) <;> (try dsimp only))
      exact ⟨by trivial, by trivial⟩
  ((repeat sizeOf_list_dec) <;> (try dsimp only))
  refine (w_setS (Hs.at1 (B := [_])) (by show 4 < lim; decide)).mpr ?_
  rw [Hs.set1]
  have hmk : ((List.range 6).map fun i => PV.str (k.mark i)) = ((List.range 6).map k.mark).map PV.str := (List.map_map ..).symm
  have hpk : (saved.map fun i => (Row.push i).pv) = (saved.map Row.push).map Row.pv := by rw [List.map_map]; rfl
  rw [hmk, hpk]
  have he0 : Es.Ok owners.length ⟨saved.map Row.push, hs, owners, (List.range 6).map k.mark, free⟩ := by
    refine ⟨rfl, fun b hb => ?_, fun r hr => ?_, some_boxes free1 free2, ?_, by show 0 < owners.length; omega, rfl, h6, how, hho⟩
    · obtain ⟨i, hi, rfl⟩ := List.mem_map.mp hb
      exact k.mark_ok (List.mem_range.mp hi)
    · obtain ⟨i, hi, rfl⟩ := List.mem_map.mp hr
      exact hsv.2 i hi
    · refine List.length_pos_of_mem ((free2 k.out).mpr ⟨hk.out, ?_⟩)
      cases hc : k.kept.contains k.out with
      | false => rfl
      | true => exact ((hk.apart _ (List.contains_iff_mem.mp hc)).2 rfl).elim
  show Post (sSeq _ _ _ (Es.st ⟨saved.map Row.push, hs, owners, (List.range 6).map k.mark, free⟩ g1 rest)) _
  generalize hE : (⟨saved.map Row.push, hs, owners, (List.range 6).map k.mark, free⟩ : Es) = e0 at he0 ⊢
  have hl0 : e0.rows.length ≤ 6 := by rw [← hE]; show (saved.map Row.push).length ≤ 6; rw [List.length_map]; omega
  have hh0 : e0.houses = hs := by rw [← hE]
  have ho0 : e0.owners = owners := by rw [← hE]
  clear hE
  ((repeat sizeOf_list_dec) <;> (try dsimp only))
  ((refine Post.mono (next_spec _ _ _ hg1 ?hn0 ?hn1) ?_); (case hn0 => omega); (case hn1 => omega))
  rintro _ _ ⟨r2, g2, rfl, rfl, hg2, a2, b2⟩
  obtain ⟨n2, rfl⟩ : ∃ n : Nat, r2 = n := ⟨r2.toNat, by omega⟩
  ((repeat sizeOf_list_dec) <;> (try dsimp only))
  rw [Int.toNat_natCast]
  refine for_go (all := upto 0 n2) (fun i env S => ∃ e' g' x11 x12, S = Es.st e' g' rest ∧ g'.Ok ∧ e'.Ok owners.length ∧ e'.rows.length ≤ 6 + 19 * i ∧ env = [some (.loc 1), some (.tup (hs.map House.pv)), some (.ls (ivs owners)), some (.int nh), some (.int most), some (.tup (ivs k.ins)), some (.int k.out), some (.tup (ivs k.kept)), some (.ls (ivs saved)), none, some (.loc (rest.length + 3)), x11, x12, none]) (by rfl) ⟨e0, g2, none, none, rfl, hg2, he0, by omega, rfl⟩ ?_ ?_
  · rintro i env S x ⟨e', g', x11, x12, rfl, hg', he', q1, rfl⟩ hx
    refine ⟨by rfl, ?_⟩
    have hi : i < n2 := by
      have := (List.getElem?_eq_some_iff.mp hx).1
      rw [upto_length] at this
      exact this
    ((repeat sizeOf_list_dec) <;> (try dsimp only))
    ((refine Post.mono (next_spec _ _ _ hg' ?hn0 ?hn1) ?_); (case hn0 => omega); (case hn1 => omega))
    rintro _ _ ⟨turn, g3, rfl, rfl, hg3, a3, b3⟩
    ((repeat sizeOf_list_dec) <;> (try dsimp only))
    cases hd : decide (turn < 2) with
    | true =>
      ((repeat sizeOf_list_dec) <;> (try dsimp only))
      refine (calling_spec g3 rest e' owners.length hg3 he' (by omega)).mono ?_
      rintro _ _ ⟨e2, g4, rfl, rfl, hg4, he2, hlk, hl2⟩
      ((repeat sizeOf_list_dec) <;> (try dsimp only))
      exact ⟨e2, g4, _, _, rfl, hg4, he2, by omega, rfl⟩
    | false =>
      ((repeat sizeOf_list_dec) <;> (try dsimp only))
      cases hd2 : (turn == 2) with
      | true =>
        ((repeat sizeOf_list_dec) <;> (try dsimp only))
        refine (zeroed_spec g3 rest e' owners.length hg3 he' (by omega)).mono ?_
        rintro _ _ ⟨e2, g4, rfl, rfl, hg4, he2, hlk, hl2⟩
        ((repeat sizeOf_list_dec) <;> (try dsimp only))
        exact ⟨e2, g4, _, _, rfl, hg4, he2, by omega, rfl⟩
      | false =>
        ((repeat sizeOf_list_dec) <;> (try dsimp only))
        refine (simple_spec g3 rest e' owners.length hg3 he' (by omega)).mono ?_
        rintro _ _ ⟨e2, g4, rfl, rfl, hg4, he2, hlk, hl2⟩
        ((repeat sizeOf_list_dec) <;> (try dsimp only))
        exact ⟨e2, g4, _, _, rfl, hg4, he2, by omega, rfl⟩
  · rintro env S ⟨e1, g3, x11, x12, rfl, hg3, he1, q1, rfl⟩
    rw [upto_length] at q1
    refine ⟨by rfl, ?_⟩
    ((repeat ((fail_if_success (with_reducible refine w_if.mpr ?_)); sizeOf_list_dec)) <;> (try dsimp only))
    refine Post.mono (Q := fun p S => p.1 = .nx ∧ ∃ e3 g3, p.2 = [some (.loc 1), some (.tup (hs.map House.pv)), some (.ls (ivs owners)), some (.int nh), some (.int most), some (.tup (ivs k.ins)), some (.int k.out), some (.tup (ivs k.kept)), some (.ls (ivs saved)), none, some (.loc (rest.length + 3)), x11, x12, none] ∧ S = Es.st e3 g3 rest ∧ g3.Ok ∧ e3.Ok owners.length ∧ e3.rows.length ≤ 3000) ?_ ?_
    · obtain ⟨m, hm, hmo⟩ := he1.at hk.out
      ((repeat sizeOf_list_dec) <;> (try dsimp only))
      refine (w_eBox hm).mpr ?_
      ((repeat sizeOf_list_dec) <;> (try dsimp only))
      refine (w_neS hmo (by decide +kernel)).mpr ?_
      ((repeat sizeOf_list_dec) <;> (try dsimp only))
      cases hmg : (!decide (m = "good")) with
      | false =>
        ((repeat sizeOf_list_dec) <;> (try dsimp only))
        exact ⟨by trivial, e1, g3, by trivial, rfl, hg3, he1, by omega⟩
      | true =>
        ((repeat sizeOf_list_dec) <;> (try dsimp only))
        refine ⟨_, _, rfl, Es.at0, ?_⟩
        ((repeat sizeOf_list_dec) <;> (try dsimp only))
        refine (number_spec _ _ hg3).mono ?_
        rintro _ _ ⟨n, g4, rfl, rfl, hg4, n0, n1⟩
        obtain ⟨n, rfl⟩ : ∃ n' : Nat, n = n' := ⟨n.toNat, by omega⟩
        ((repeat sizeOf_list_dec) <;> (try dsimp only))
        refine (w_eAdd (r := .put k.out n) (by omega)).mpr ?_
        exact ⟨by trivial, _, g4, by trivial, rfl, hg4, he1.more fun r' hr' => by
          rw [List.mem_singleton.mp hr']
          exact ⟨hk.out, by omega⟩, by show (e1.rows ++ [Row.put k.out n]).length ≤ _; rw [List.length_append]; show _ + 1 ≤ _; omega⟩
    · rintro ⟨fl, env⟩ S ⟨hfl, e3, g4, henv, rfl, hg4, he3, p5⟩
      cases hfl
      cases henv
      ((repeat sizeOf_list_dec) <;> (try dsimp only))
      refine lc_each (zs := saved.reverse) (fun i => (Row.pop i).pv) rev_items (by rw [List.length_reverse]; omega) (fun i hi => ?_) ?_
      · ((repeat sizeOf_list_dec) <;> (try dsimp only))
        exact ⟨by trivial, by trivial⟩
      refine (w_addLoc Es.at0 (by rw [List.length_map, List.length_map, List.length_reverse]; exact Nat.le_trans (by omega) (by decide : 4000 ≤ lim))).mpr ?_
      ((repeat sizeOf_list_dec) <;> (try dsimp only))
      refine (w_addLL (by rw [List.length_append, List.length_map, List.length_map, List.length_reverse]; exact Nat.le_trans (by show _ + 1 ≤ 4000; omega) (by decide : 4000 ≤ lim))).mpr ?_
      rw [show e3.rows.map Row.pv ++ (saved.reverse.map fun i => (Row.pop i).pv) ++ [PV.tup [PV.str "back"]] = ((e3.rows ++ saved.reverse.map Row.pop) ++ [Row.back]).map Row.pv by rw [List.map_append, List.map_append, List.map_map]; rfl]
      have hb := back_ok he3 (pops := saved.reverse) fun x hx => hsv.2 x (List.mem_reverse.mp hx)
      ((repeat sizeOf_list_dec) <;> (try dsimp only))
      rw [List.length_map]
      cases hd : decide ((32 : Int) < ((e3.rows ++ saved.reverse.map Row.pop) ++ [Row.back]).length) with
      | true =>
        ((repeat sizeOf_list_dec) <;> (try dsimp only))
        refine (w_ix rfl hoa).mpr ?_
        ((repeat sizeOf_list_dec) <;> (try dsimp only))
        exact fin [.put k.out 1] e3 g4 hg4 (fun r hr => by
          simp only [List.cons_append, List.nil_append, List.mem_cons, List.not_mem_nil, or_false] at hr
          rcases hr with rfl | rfl
          · exact ⟨hk.out, by decide⟩
          · trivial) (Nat.le_of_ble_eq_true rfl)
      | false =>
        ((repeat sizeOf_list_dec) <;> (try dsimp only))
        refine (w_ix rfl hoa).mpr ?_
        ((repeat sizeOf_list_dec) <;> (try dsimp only))
        exact fin _ e3 g4 hg4 hb (by have := of_decide_eq_false hd; omega)
end

/-! PureQ -/
/-! PureQ: programs that are drawn. -/
section
open PySem L2
theorem cut_take (xs : List PV) (n : Nat) : cut xs none (some (n : Int)) = xs.take n := by
  have h1 : HT.sIx xs.length xs.length (some (n : Int)) = min n xs.length := HT.sIx_nat xs.length xs.length n
  unfold cut
  rw [h1, HT.sIx_none]
  show List.take (min n xs.length - 0) (List.drop 0 xs) = _
  rw [List.drop_zero, Nat.sub_zero]
  rcases Nat.le_total n xs.length with h | h
  · rw [Nat.min_eq_left h]
  · rw [Nat.min_eq_right h, List.take_of_length_le (Nat.le_refl _), List.take_of_length_le h]
theorem cut_drop (xs : List PV) (n : Nat) : cut xs (some (n : Int)) none = xs.drop n := by
  have h1 : HT.sIx xs.length 0 (some (n : Int)) = min n xs.length := HT.sIx_nat xs.length 0 n
  unfold cut
  rw [h1, HT.sIx_none]
  show List.take (xs.length - min n xs.length) (List.drop (min n xs.length) xs) = _
  rcases Nat.le_total n xs.length with h | h
  · rw [Nat.min_eq_left h, ← List.length_drop, List.take_length]
  · rw [Nat.min_eq_right h, Nat.sub_self, List.drop_eq_nil_of_le h]
    rfl
theorem w_addT' {xs ys : List PV} {S : Store} {Q : PV → Store → Prop} (h : xs.length + ys.length ≤ 1000) : Post (oAdd (.tup xs) (.tup ys) S) Q ↔ Q (.tup (xs ++ ys)) S := w_addT (Nat.le_trans h (by decide))
theorem map_of {α : Type} {f : α → PV} {P : α → Prop} : ∀ {xs : List PV}, (∀ (i : Nat) (x : PV), xs[i]? = some x → ∃ a, x = f a ∧ P a) → ∃ ys : List α, xs = ys.map f ∧ ∀ a ∈ ys, P a
  | [], _ => ⟨[], rfl, fun x h => absurd h List.not_mem_nil⟩
  | x :: r, h => by
    obtain ⟨s, rfl, h1⟩ := h 0 x rfl
    obtain ⟨ss, rfl, h2⟩ := map_of (xs := r) fun i x hx => h (i + 1) x hx
    refine ⟨s :: ss, rfl, fun x hx => ?_⟩
    rcases List.mem_cons.mp hx with rfl | hx
    · exact h1
    · exact h2 x hx
end
section
open PySem L2
/-- [f(x) for x in xs], xs written values -/
theorem lc_vals {α : Type} {enc : α → PV} {it : LW.It} {zs : List α} {env : LW.Env} {S : Store} {QA : List PV → Store → Prop} {v : Nat} {e : XE} (f : α → PV) (ha : it.items S = some (zs.map enc)) (hn : zs.length ≤ 1000)
    (he : ∀ z, z ∈ zs → Post (e (env.set v (some (enc z))) S) fun y S' => y = f z ∧ S' = S) (hQ : QA (zs.map f) S) : LcP it (gNm v) bYes e env S QA := by
  refine ⟨zs.map enc, ha, lc_inv (fun i acc S' => i ≤ zs.length ∧ acc = (zs.take i).map f ∧ S' = S) ?_ ?_ _ 0 rfl (Nat.zero_le _) _ _ ⟨Nat.zero_le _, rfl, rfl⟩⟩
  · rintro i acc S' x ⟨hi, rfl, rfl⟩ hx
    refine ⟨ha, ?_⟩
    obtain ⟨b, hb, rfl⟩ : ∃ b : α, zs[i]? = some b ∧ x = enc b := by
      rw [List.getElem?_map] at hx
      cases e : zs[i]? with
      | none => rw [e] at hx; cases hx
      | some b => rw [e] at hx; exact ⟨b, rfl, (Option.some.inj hx).symm⟩
    have hlt := (List.getElem?_eq_some_iff.mp hb).1
    refine w_gNm.mpr (w_yes.mpr ?_)
    rw [if_pos rfl]
    refine (he b (List.mem_of_getElem? hb)).mono ?_
    rintro y S2 ⟨rfl, rfl⟩
    refine ⟨?_, hlt, ?_, rfl⟩
    · rw [List.length_map, List.length_take]
      exact Nat.lt_of_le_of_lt (by omega) (by decide : 1000 < lim)
    · rw [List.take_add_one, hb, List.map_append]
      rfl
  · rintro acc S' ⟨_, rfl, rfl⟩
    rw [List.length_map, List.take_length]
    exact ⟨ha, hQ⟩
def Row.word : Row → Str
  | .put _ _ => "put" | .move _ _ => "move" | .add _ _ _ => "add" | .take _ _ _ => "take" | .push _ => "push" | .pop _ => "pop"
  | .say _ => "say" | .zero _ _ => "zero" | .go _ => "go" | .call _ => "call" | .back => "back"
theorem w_word {r : Row} {S : Store} {Q : PV → Store → Prop} : Post (oIx r.pv (.int 0) S) Q ↔ Q (.str r.word) S := by cases r <;> exact w_ix (xs := _ :: _) rfl rfl
def Row.endB : Row → Bool
  | .go _ => true
  | .back => true
  | _ => false
theorem Row.endB_is {r : Row} (h : r.endB = true) : r.isEnd := by cases r <;> first | trivial | cases h
theorem Row.in_end (r : Row) : inSeq (.str r.word) [.str "go", .str "back"] = r.endB := by cases r <;> (simp only [Row.word, Row.endB]; decide +kernel)
def Row.toB : Row → Bool
  | .go _ => true
  | .zero _ _ => true
  | _ => false
theorem Row.in_to (r : Row) : inSeq (.str r.word) [.str "go", .str "zero"] = r.toB := by cases r <;> (simp only [Row.word, Row.toB]; decide +kernel)
def Row.clip (n : Nat) : Row → Row
  | .go t => .go (min t (n - 1))
  | .zero b t => .zero b (min t (n - 1))
  | r => r
theorem Row.clip_ok {n m k : Nat} {r : Row} (h : r.Ok k m) (hn : 0 < n) : (r.clip n).Ok n m := by
  cases r with
  | zero b t => exact ⟨h.1, by show min t (n - 1) < n; omega⟩
  | go t => exact (show min t (n - 1) < n by omega)
  | put b n => exact h
  | move a b => exact h
  | add a b c => exact h
  | take a b c => exact h
  | push b => exact h
  | pop b => exact h
  | say b => exact h
  | call r => exact h
  | back => exact h
abbrev IsProg (rest : Store) (v : PV) (S : Store) : Prop := ∃ (p : Prog) (g' : Hs), v = p.pv ∧ p.Ok ∧ S = g'.st rest ∧ g'.Ok
theorem program_spec (g : Hs) (rest : Store) (hlow : LowR rest) (hg : g.Ok) : Post (m_program [.loc 1, .int 6] (g.st rest)) (IsProg rest) := by
  unfold m_program
  refine w_fnP rfl ?_
  ((repeat sizeOf_list_dec) <;> (try dsimp only))
  ((refine Post.mono (next_spec _ _ _ hg ?hn0 ?hn1) ?_); (case hn0 => omega); (case hn1 => omega))
  rintro _ _ ⟨r1, g1, rfl, rfl, hg1, a1, b1⟩
  obtain ⟨n1, rfl⟩ : ∃ n : Nat, r1 = n := ⟨r1.toNat, by omega⟩
  ((repeat sizeOf_list_dec) <;> (try dsimp only))
  rw [show ((1 : Int) + (n1 : Int)).toNat = n1 + 1 by omega]
  refine lc_draws (P := fun _ x => ∃ h : House, x = h.pv ∧ h.Ok) hg1 (by omega) (fun i g0 hi hg0 => ?_) (fun xs g2 hg2 hl hP => ?_)
  · ((repeat sizeOf_list_dec) <;> (try dsimp only))
    refine (house_spec _ _ hg0).mono ?_
    rintro _ _ ⟨h, g3, rfl, hh, rfl, hg3⟩
    exact ⟨g3, rfl, hg3, h, rfl, hh⟩
  obtain ⟨hs, rfl, hhs⟩ := map_of hP
  rw [List.length_map] at hl
  ((repeat sizeOf_list_dec) <;> (try dsimp only))
  ((refine Post.mono (next_spec _ _ _ hg2 ?hn0 ?hn1) ?_); (case hn0 => omega); (case hn1 => omega))
  rintro _ _ ⟨r2, g3, rfl, rfl, hg3, a2, b2⟩
  obtain ⟨n2, rfl⟩ : ∃ n : Nat, r2 = n := ⟨r2.toNat, by omega⟩
  ((repeat sizeOf_list_dec) <;> (try dsimp only))
  rw [show ((1 : Int) + (n2 : Int)).toNat = n2 + 1 by omega]
  refine lc_draws (P := fun _ x => ∃ o : Nat, x = .int o ∧ o < hs.length) hg3 (by omega) (fun i g0 hi hg0 => ?_) (fun xs g4 hg4 hl2 hP2 => ?_)
  · ((repeat sizeOf_list_dec) <;> (try dsimp only))
    rw [List.length_map]
    ((refine Post.mono (next_spec _ _ _ hg0 ?hn0 ?hn1) ?_); (case hn0 => omega); (case hn1 => omega))
    rintro _ _ ⟨r3, g5, rfl, rfl, hg5, a3, b3⟩
    obtain ⟨n3, rfl⟩ : ∃ n : Nat, r3 = n := ⟨r3.toNat, by omega⟩
    exact ⟨g5, rfl, hg5, n3, rfl, by omega⟩
  obtain ⟨owners, hxs, how⟩ := map_of (f := fun i : Nat => PV.int (i : Int)) hP2
  have hxs : xs = ivs owners := hxs
  subst hxs
  rw [ivs_length] at hl2
  ((repeat sizeOf_list_dec) <;> (try dsimp only))
  ((refine Post.mono (next_spec _ _ _ hg4 ?hn0 ?hn1) ?_); (case hn0 => omega); (case hn1 => omega))
  rintro _ _ ⟨r4, g5, rfl, rfl, hg5, a4, b4⟩
  obtain ⟨most, hmx, hm⟩ : ∃ mx : Nat, mx ≤ 100 ∧ atI [PV.int 6, PV.int 14] r4 = some (.int mx) := by
    rcases (by omega : r4 = 0 ∨ r4 = 1) with rfl | rfl
    · exact ⟨6, by decide, rfl⟩
    · exact ⟨14, by decide, rfl⟩
  refine (w_ix rfl hm).mpr ?_
  ((repeat sizeOf_list_dec) <;> (try dsimp only))
  rw [Int.toNat_natCast]
  refine lc_draws (P := fun _ x => ∃ r : Routine, x = r.pv ∧ r.Ok hs.length owners.length) hg5 (by omega) (fun i g0 hi hg0 => ?_) (fun xs g6 hg6 hl3 hP3 => ?_)
  · ((repeat sizeOf_list_dec) <;> (try dsimp only))
    refine (kept_spec g0 rest hlow hg0 hs owners i most hhs how (by omega) hi hmx).mono ?_
    rintro _ _ ⟨r, g7, rfl, hr, rfl, hg7⟩
    exact ⟨g7, rfl, hg7, r, rfl, hr⟩
  obtain ⟨rs, rfl, hrs⟩ := map_of hP3
  rw [List.length_map] at hl3
  ((repeat sizeOf_list_dec) <;> (try dsimp only))
  refine (leave_same rfl).mpr ⟨⟨hs, rs⟩, g6, rfl, ⟨by show 1 ≤ hs.length; omega, by show hs.length ≤ 3; omega, by show 1 ≤ rs.length; omega, by show rs.length ≤ 6; omega, hhs, ?_⟩, rfl, hg6⟩
  show ∀ r ∈ rs, r.Ok hs.length rs.length
  rw [hl3]
  exact hrs
theorem set_take_drop {α : Type} {x : α} : ∀ {xs : List α} {i : Nat}, i < xs.length → xs.take i ++ [x] ++ xs.drop (i + 1) = xs.set i x
  | [], _, h => by cases h
  | a :: r, 0, _ => rfl
  | a :: r, i + 1, h => by
    show a :: (r.take i ++ [x] ++ r.drop (i + 1)) = a :: r.set i x
    rw [set_take_drop (Nat.lt_of_succ_lt_succ h)]
theorem min_int (t n : Nat) : (if ((n : Int) - 1) < (t : Int) then ((n : Int) - 1) else (t : Int)) = (min t (n - 1) : Nat) ∨ n = 0 := by
  by_cases hn : n = 0
  · exact .inr hn
  · left
    split <;> omega
set_option maxHeartbeats 4000000 in
theorem odd_spec (g : Hs) (rest : Store) (hg : g.Ok) (p : Prog) (hp : p.Ok) (turns : Nat) (ht : turns ≤ 1000) : Post (m_odd [.loc 1, p.pv, .int turns] (g.st rest)) (IsProg rest) := by
  have h1 := hp.h1
  have h3 := hp.h3
  have r1 := hp.r1
  have r6 := hp.r6
  unfold m_odd
  refine w_fnP rfl ?_
  ((repeat sizeOf_list_dec) <;> (try dsimp only))
  rw [Int.toNat_natCast]
  refine for_go (all := upto 0 turns) (fun i env S => ∃ rs g' x5 x6 x7 x8 x9 x10 x11 x12 x13, S = Hs.st g' rest ∧ g'.Ok ∧ rs.length = p.routines.length ∧ (∀ r ∈ rs, Routine.Ok p.houses.length p.routines.length r) ∧ env = [some (.loc 1), some p.pv, some (.int turns), some (.tup (p.houses.map House.pv)), some (.tup (rs.map Routine.pv)), x5, x6, x7, x8, x9, x10, x11, x12, x13, none]) (by rfl) ⟨p.routines, g, none, none, none, none, none, none, none, none, none, rfl, hg, rfl, hp.routines, rfl⟩ ?_ ?_
  · rintro i env S x ⟨rs, g', x5, x6, x7, x8, x9, x10, x11, x12, x13, rfl, hg', hlr, hrs, rfl⟩ hx
    refine ⟨by rfl, ?_⟩
    ((repeat sizeOf_list_dec) <;> (try dsimp only))
    rw [List.length_map]
    ((refine Post.mono (next_spec _ _ _ hg' ?hn0 ?hn1) ?_); (case hn0 => omega); (case hn1 => omega))
    rintro _ _ ⟨k, g1, rfl, rfl, hg1, a1, b1⟩
    obtain ⟨k, rfl⟩ : ∃ n : Nat, k = n := ⟨k.toNat, by omega⟩
    have hk : k < rs.length := by omega
    ((repeat sizeOf_list_dec) <;> (try dsimp only))
    refine (w_ix rfl (atI_map (List.getElem?_eq_getElem hk))).mpr ?_
    have hr := hrs _ (List.getElem_mem hk)
    generalize rs[k] = r at hr ⊢
    have hl := hr.len
    have hl0 := r.rows_pos
    ((repeat sizeOf_list_dec) <;> (try dsimp only))
    rw [List.length_map]
    ((refine Post.mono (next_spec _ _ _ hg1 ?hn0 ?hn1) ?_); (case hn0 => omega); (case hn1 => omega))
    rintro _ _ ⟨a, g2, rfl, rfl, hg2, a2, b2⟩
    obtain ⟨a, rfl⟩ : ∃ n : Nat, a = n := ⟨a.toNat, by omega⟩
    ((repeat sizeOf_list_dec) <;> (try dsimp only))
    rw [List.length_map, List.length_map]
    refine (wild_row_spec g2 rest hg2 r.rows.length rs.length hl0 (by omega) (by omega) (by omega)).mono ?_
    rintro _ _ ⟨row, g3, rfl, hrow, rfl, hg3⟩
    ((repeat sizeOf_list_dec) <;> (try dsimp only))
    ((refine Post.mono (next_spec _ _ _ hg3 ?hn0 ?hn1) ?_); (case hn0 => omega); (case hn1 => omega))
    rintro _ _ ⟨sort, g4, rfl, rfl, hg4, a3, b3⟩
    ((repeat sizeOf_list_dec) <;> (try dsimp only))
    have e1 : ((a : Int) + 1) = ((a + 1 : Nat) : Int) := rfl
    have add1 : ∀ (xs ys : List PV) (S : Store) (Q : PV → Store → Prop), xs.length ≤ 100 → ys.length ≤ 100 → Q (.tup (xs ++ ys)) S → Post (oAdd (.tup xs) (.tup ys) S) Q := fun xs ys S Q h1 h2 h => (w_addT' (by omega)).mpr h
    have lt : ∀ n, ((r.rows.map Row.pv).take n).length ≤ 32 := fun n => by rw [List.length_take, List.length_map]; omega
    have ld : ∀ n, ((r.rows.map Row.pv).drop n).length ≤ 32 := fun n => by rw [List.length_drop, List.length_map]; omega
    have lt1 : ∀ n, ((r.rows.map Row.pv).take n ++ [row.pv]).length ≤ 33 := fun n => by rw [List.length_append]; exact Nat.add_le_add_right (lt n) 1
    rw [cut_take]
    refine add1 _ _ _ _ (Nat.le_trans (lt _) (by decide)) (Nat.le_of_ble_eq_true rfl) ?_
    ((repeat sizeOf_list_dec) <;> (try dsimp only))
    rw [e1, cut_drop]
    refine add1 _ _ _ _ (Nat.le_trans (lt1 _) (by decide)) (Nat.le_trans (ld _) (by decide)) ?_
    ((repeat sizeOf_list_dec) <;> (try dsimp only))
    rw [cut_take]
    refine add1 _ _ _ _ (Nat.le_trans (lt _) (by decide)) (Nat.le_of_ble_eq_true rfl) ?_
    ((repeat sizeOf_list_dec) <;> (try dsimp only))
    rw [cut_drop]
    refine add1 _ _ _ _ (Nat.le_trans (lt1 _) (by decide)) (Nat.le_trans (ld _) (by decide)) ?_
    ((repeat sizeOf_list_dec) <;> (try dsimp only))
    rw [cut_take, e1, cut_drop]
    refine add1 _ _ _ _ (Nat.le_trans (lt _) (by decide)) (Nat.le_trans (ld _) (by decide)) ?_
    ((repeat sizeOf_list_dec) <;> (try dsimp only))
    have hsel : ∃ zs : List Row, (∀ z ∈ zs, z.Ok r.rows.length rs.length) ∧ zs.length ≤ 33 ∧ atI [PV.tup ((r.rows.map Row.pv).take a ++ [row.pv] ++ (r.rows.map Row.pv).drop (a + 1)), PV.tup ((r.rows.map Row.pv).take a ++ [row.pv] ++ (r.rows.map Row.pv).drop a), PV.tup ((r.rows.map Row.pv).take a ++ (r.rows.map Row.pv).drop (a + 1)), PV.tup (r.rows.map Row.pv)] sort = some (.tup (zs.map Row.pv)) := by
      have ok : ∀ n, (∀ z ∈ r.rows.take n, z.Ok r.rows.length rs.length) ∧ ∀ z ∈ r.rows.drop n, z.Ok r.rows.length rs.length := fun n => by
        rw [hlr]
        exact ⟨fun z hz => hr.rows z (List.mem_of_mem_take hz), fun z hz => hr.rows z (List.mem_of_mem_drop hz)⟩
      rcases (by omega : sort = 0 ∨ sort = 1 ∨ sort = 2 ∨ sort = 3) with rfl | rfl | rfl | rfl
      · refine ⟨r.rows.take a ++ [row] ++ r.rows.drop (a + 1), fun z hz => ?_, ?_, ?_⟩
        · rcases List.mem_append.mp hz with hz | hz
          · rcases List.mem_append.mp hz with hz | hz
            · exact (ok a).1 z hz
            · rw [List.mem_singleton.mp hz]; exact hrow
          · exact (ok _).2 z hz
        · simp only [List.length_append, List.length_take, List.length_drop, List.length_cons, List.length_nil]; omega
        · rw [← List.map_take, ← List.map_drop, ← List.map_drop, List.map_append, List.map_append]; rfl
      · refine ⟨r.rows.take a ++ [row] ++ r.rows.drop a, fun z hz => ?_, ?_, ?_⟩
        · rcases List.mem_append.mp hz with hz | hz
          · rcases List.mem_append.mp hz with hz | hz
            · exact (ok a).1 z hz
            · rw [List.mem_singleton.mp hz]; exact hrow
          · exact (ok _).2 z hz
        · simp only [List.length_append, List.length_take, List.length_drop, List.length_cons, List.length_nil]; omega
        · rw [← List.map_take, ← List.map_drop, ← List.map_drop, List.map_append, List.map_append]; rfl
      · refine ⟨r.rows.take a ++ r.rows.drop (a + 1), fun z hz => ?_, ?_, ?_⟩
        · rcases List.mem_append.mp hz with hz | hz
          · exact (ok a).1 z hz
          · exact (ok _).2 z hz
        · simp only [List.length_append, List.length_take, List.length_drop]; omega
        · rw [← List.map_take, ← List.map_drop, ← List.map_drop, List.map_append]; rfl
      · exact ⟨r.rows, fun z hz => by rw [hlr]; exact hr.rows z hz, by omega, rfl⟩
    obtain ⟨zs, hz, hzl, hat⟩ := hsel
    refine (w_ix rfl hat).mpr ?_
    ((repeat sizeOf_list_dec) <;> (try dsimp only))
    rw [List.length_map]
    refine lc_vals (enc := Row.pv) (zs := zs) (fun z => (z.clip zs.length).pv) rfl (by omega) (fun z hz' => ?_) ?_
    · have hpos : 0 < zs.length := List.length_pos_of_mem hz'
      ((repeat sizeOf_list_dec) <;> (try dsimp only))
      refine w_word.mpr ?_
      ((repeat sizeOf_list_dec) <;> (try dsimp only))
      refine (w_in rfl rfl (by decide +kernel)).mpr ?_
      rw [Row.in_to]
      cases z with
      | go t =>
        dsimp only [Row.pv, Row.toB]
        ((repeat sizeOf_list_dec) <;> (try dsimp only))
        rw [show cut [PV.str "go", PV.int t] none (some (-1)) = [PV.str "go"] from rfl]
        refine (w_ix (xs := [PV.str "go", PV.int t]) (y := .int t) rfl rfl).mpr ?_
        ((repeat sizeOf_list_dec) <;> (try dsimp only))
        refine add1 _ _ _ _ (Nat.le_of_ble_eq_true rfl) (Nat.le_of_ble_eq_true rfl) ?_
        ((repeat sizeOf_list_dec) <;> (try dsimp only))
        rcases min_int t zs.length with hm | hm
        · rw [hm]
          exact ⟨by trivial, by trivial⟩
        · omega
      | zero b t =>
        dsimp only [Row.pv, Row.toB]
        ((repeat sizeOf_list_dec) <;> (try dsimp only))
        rw [show cut [PV.str "zero", PV.int b, PV.int t] none (some (-1)) = [PV.str "zero", PV.int b] from rfl]
        refine (w_ix (xs := [PV.str "zero", PV.int b, PV.int t]) (y := .int t) rfl rfl).mpr ?_
        ((repeat sizeOf_list_dec) <;> (try dsimp only))
        refine add1 _ _ _ _ (Nat.le_of_ble_eq_true rfl) (Nat.le_of_ble_eq_true rfl) ?_
        ((repeat sizeOf_list_dec) <;> (try dsimp only))
        rcases min_int t zs.length with hm | hm
        · rw [hm]
          exact ⟨by trivial, by trivial⟩
        · omega
      | _ =>
        dsimp only [Row.toB]
        ((repeat sizeOf_list_dec) <;> (try dsimp only))
        exact ⟨by trivial, by trivial⟩
    ((repeat ((fail_if_success (with_reducible refine w_if.mpr ?_)); sizeOf_list_dec)) <;> (try dsimp only))
    refine Post.mono (Q := fun q S => q.1 = .nx ∧ ∃ (h' : Nat) (g5 : Hs), q.2 = [some (.loc 1), some p.pv, some (.int turns), some (.tup (p.houses.map House.pv)), some (.tup (rs.map Routine.pv)), some x, some (.int k), some (.int h'), some (.tup (r.rows.map Row.pv)), some (.int a), some row.pv, some (.int sort), some (.tup (zs.map fun z => (z.clip zs.length).pv)), some (.int zs.length), none] ∧ h' < p.houses.length ∧ S = g5.st rest ∧ g5.Ok) ?_ ?_
    · ((repeat sizeOf_list_dec) <;> (try dsimp only))
      cases hs3 : (sort == 3) with
      | false =>
        ((repeat sizeOf_list_dec) <;> (try dsimp only))
        exact ⟨by trivial, r.house, g4, by trivial, hr.house, rfl, hg4⟩
      | true =>
        ((repeat sizeOf_list_dec) <;> (try dsimp only))
        rw [List.length_map]
        cases hmh : decide ((1 : Int) < p.houses.length) with
        | false =>
          ((repeat sizeOf_list_dec) <;> (try dsimp only))
          exact ⟨by trivial, r.house, g4, by trivial, hr.house, rfl, hg4⟩
        | true =>
          ((repeat sizeOf_list_dec) <;> (try dsimp only))
          rw [List.length_map]
          ((refine Post.mono (next_spec _ _ _ hg4 ?hn0 ?hn1) ?_); (case hn0 => omega); (case hn1 => omega))
          rintro _ _ ⟨h', g5, rfl, rfl, hg5, a5, b5⟩
          obtain ⟨h', rfl⟩ : ∃ n : Nat, h' = n := ⟨h'.toNat, by omega⟩
          ((repeat sizeOf_list_dec) <;> (try dsimp only))
          exact ⟨by trivial, h', g5, by trivial, by omega, rfl, hg5⟩
    · rintro ⟨fl, env⟩ S ⟨hfl, h', g5, henv, hh', rfl, hg5⟩
      cases hfl
      cases henv
      ((repeat sizeOf_list_dec) <;> (try dsimp only))
      cases hd0 : decide ((0 : Int) < zs.length) with
      | false =>
        ((repeat sizeOf_list_dec) <;> (try dsimp only))
        exact ⟨rs, g5, _, _, _, _, _, _, _, _, _, rfl, hg5, hlr, hrs, rfl⟩
      | true =>
        ((repeat sizeOf_list_dec) <;> (try dsimp only))
        cases hd1 : decide ((zs.length : Int) < 33) with
        | false =>
          ((repeat sizeOf_list_dec) <;> (try dsimp only))
          exact ⟨rs, g5, _, _, _, _, _, _, _, _, _, rfl, hg5, hlr, hrs, rfl⟩
        | true =>
          have hpos : 0 < zs.length := by have := of_decide_eq_true hd0; omega
          have hle : zs.length ≤ 32 := by have := of_decide_eq_true hd1; omega
          obtain ⟨init, last, hil⟩ : ∃ init last, zs.map (Row.clip zs.length) = init ++ [last] := by
            rcases List.eq_nil_or_concat (zs.map (Row.clip zs.length)) with h | ⟨i, l, h⟩
            · have := congrArg List.length h
              rw [List.length_map] at this
              exact absurd this (by show zs.length ≠ 0; omega)
            · exact ⟨i, l, by rw [h, List.concat_eq_append]⟩
          have hmap : (zs.map fun z => (z.clip zs.length).pv) = (init ++ [last]).map Row.pv := by rw [← hil, List.map_map]; rfl
          have hlen : (init ++ [last]).length = zs.length := by rw [← hil, List.length_map]
          rw [hmap]
          ((repeat sizeOf_list_dec) <;> (try dsimp only))
          refine (w_ix rfl (last_at init last)).mpr ?_
          ((repeat sizeOf_list_dec) <;> (try dsimp only))
          refine w_word.mpr ?_
          ((repeat sizeOf_list_dec) <;> (try dsimp only))
          refine (w_in rfl rfl (by decide +kernel)).mpr ?_
          rw [Row.in_end]
          cases he : last.endB with
          | false =>
            ((repeat sizeOf_list_dec) <;> (try dsimp only))
            exact ⟨rs, g5, _, _, _, _, _, _, _, _, _, rfl, hg5, hlr, hrs, rfl⟩
          | true =>
            ((repeat sizeOf_list_dec) <;> (try dsimp only))
            rw [cut_take]
            refine add1 _ _ _ _ (by rw [List.length_take, List.length_map]; omega) (Nat.le_of_ble_eq_true rfl) ?_
            ((repeat sizeOf_list_dec) <;> (try dsimp only))
            have e2 : ((k : Int) + 1) = ((k + 1 : Nat) : Int) := rfl
            rw [e2, cut_drop]
            refine add1 _ _ _ _ (by rw [List.length_append, List.length_take, List.length_map]; show _ + 1 ≤ 100; omega) (by rw [List.length_drop, List.length_map]; omega) ?_
            ((repeat sizeOf_list_dec) <;> (try dsimp only))
            have hset : (rs.map Routine.pv).take k ++ [Routine.pv ⟨h', init, last⟩] ++ (rs.map Routine.pv).drop (k + 1) = (rs.set k ⟨h', init, last⟩).map Routine.pv := by
              rw [set_take_drop (by rw [List.length_map]; exact hk), List.map_set]
            have hset : (rs.map Routine.pv).take k ++ [PV.tup [PV.int h', PV.tup ((init ++ [last]).map Row.pv)]] ++ (rs.map Routine.pv).drop (k + 1) = (rs.set k ⟨h', init, last⟩).map Routine.pv := hset
            rw [hset]
            refine ⟨rs.set k ⟨h', init, last⟩, g5, _, _, _, _, _, _, _, _, _, rfl, hg5, by rw [List.length_set]; exact hlr, fun r' hr' => ?_, rfl⟩
            rcases List.mem_or_eq_of_mem_set hr' with h | h
            · exact hrs r' h
            · rw [h]
              refine ⟨hh', by show (init ++ [last]).length ≤ 32; omega, ?_, Row.endB_is he⟩
              show ∀ z ∈ init ++ [last], z.Ok (init ++ [last]).length _
              rw [hlen, ← hil, ← hlr]
              intro z hz'
              obtain ⟨z0, hz0, rfl⟩ := List.mem_map.mp hz'
              exact Row.clip_ok (hz z0 hz0) hpos
  · rintro env S ⟨rs, g', x5, x6, x7, x8, x9, x10, x11, x12, x13, rfl, hg', hlr, hrs, rfl⟩
    refine ⟨by rfl, ?_⟩
    ((repeat sizeOf_list_dec) <;> (try dsimp only))
    refine (leave_same rfl).mpr ⟨⟨p.houses, rs⟩, g', rfl, ⟨h1, h3, by show 1 ≤ rs.length; omega, by show rs.length ≤ 6; omega, hp.houses, ?_⟩, rfl, hg'⟩
    show ∀ r ∈ rs, r.Ok p.houses.length rs.length
    rw [hlr]
    exact hrs
end

/-! PureLow -/
/-! PureLow: what is low. -/
section
open PySem L2
theorem low_loc {n l : Nat} (h : l < n) : LW.low n (.loc l) = true := by
  unfold LW.low
  exact decide_eq_true h
theorem low_ls {n : Nat} {xs : List PV} (h : ∀ x ∈ xs, LW.low n x = true) : LW.low n (.ls xs) = true := by
  unfold LW.low
  exact lows_all n xs h
mutual
theorem low_mono {n n' : Nat} (hn : n ≤ n') : ∀ v : PV, LW.low n v = true → LW.low n' v = true
  | .non, _ => by unfold LW.low; rfl
  | .bl _, _ => by unfold LW.low; rfl
  | .int _, _ => by unfold LW.low; rfl
  | .str _, _ => by unfold LW.low; rfl
  | .tup xs, h => by unfold LW.low at h ⊢; exact lows_mono hn xs h
  | .ls xs, h => by unfold LW.low at h ⊢; exact lows_mono hn xs h
  | .fz xs, h => by unfold LW.low at h ⊢; exact lows_mono hn xs h
  | .dc _ xs, h => by unfold LW.low at h ⊢; exact lows_mono hn xs h
  | .loc l, h => by unfold LW.low at h ⊢; exact decide_eq_true (Nat.lt_of_lt_of_le (of_decide_eq_true h) hn)
theorem lows_mono {n n' : Nat} (hn : n ≤ n') : ∀ vs : List PV, lows n vs = true → lows n' vs = true
  | [], _ => by unfold lows; rfl
  | v :: r, h => by
    unfold lows at h ⊢
    rw [Bool.and_eq_true] at h ⊢
    exact ⟨low_mono hn v h.1, lows_mono hn r h.2⟩
end
theorem cell_mono {n n' : Nat} (hn : n ≤ n') (c : Cell) (h : Cell.low n c = true) : Cell.low n' c = true := by
  cases c <;> exact lows_mono hn _ h
theorem LowS.rest {g : Hs} {rest : Store} (h : LowS (g.st rest)) : LowR rest := by
  have h : (g.st rest).all (Cell.low (g.st rest).length) = true := h
  have h2 : (Cell.low (rest.length + 1 + 1) (.lst (g.l.map .int)) && (Cell.low (rest.length + 1 + 1) (.lst [.int g.a, .loc 0, .int g.c]) && rest.all (Cell.low (rest.length + 1 + 1)))) = true := h
  rw [Bool.and_eq_true, Bool.and_eq_true] at h2
  exact h2.2.2
end

/-! PureGen -/
/-! PureGen: stores. -/
section
open PySem L2
theorem get_last0 {S : Store} {c : Cell} : (S ++ [c])[S.length]? = some c := get_app (A := S) (B := [c]) (i := 0)
theorem set_last0 {S : Store} {c d : Cell} : (S ++ [c]).set S.length d = S ++ [d] := set_app (A := S) (B := [c]) (i := 0)
theorem w_aStar {m : XE} {r : XA} {env : LW.Env} {S : Store} {QA : List PV → Store → Prop} : Post (aStar m r env S) QA ↔ Post (m env S) fun x S1 => ∃ ys, seqOf S1 x = some ys ∧ Post (r env S1) fun zs S2 => QA (ys ++ zs) S2 := by
  unfold aStar
  rw [Post.bind]
  constructor <;> (intro h; refine h.mono fun x S h => ?_)
  · split at h
    · rename_i ys hy
      rw [Post.bind] at h
      exact ⟨ys, hy, h.mono fun _ _ h => Post.ok.mp h⟩
    · exact (Post.bad.mp h).elim
  · obtain ⟨ys, hy, h⟩ := h
    rw [hy]
    simp only []
    rw [Post.bind]
    exact h.mono fun _ _ h => Post.ok.mpr h
theorem w_tupN {xs : List PV} {S : Store} {Q : PV → Store → Prop} (h : xs.length ≤ lim) : Post (if xs.length ≤ lim then R.ok (.tup xs) S else .bad) Q ↔ Q (.tup xs) S := by rw [if_pos h]; exact Post.ok
theorem seq_last {S : Store} (xs : List PV) : seqOf (S ++ [.lst xs]) (.loc S.length) = some xs := by
  show (match (S ++ [Cell.lst xs])[S.length]? with | some (.lst xs) => some xs | _ => none) = _
  rw [get_last0]
theorem lows_cons {S : Store} {xs : List PV} (hS : LowS S) (h : ∀ x ∈ xs, LW.low (S ++ [Cell.lst xs]).length x = true) : LowS (S ++ [Cell.lst xs]) := by
  show (S ++ [Cell.lst xs]).all (Cell.low (S ++ [Cell.lst xs]).length) = true
  have hS : S.all (Cell.low S.length) = true := hS
  rw [List.all_append, Bool.and_eq_true]
  refine ⟨List.all_eq_true.mpr fun c hc => cell_mono (by rw [List.length_append]; exact Nat.le_add_right _ _) c (List.all_eq_true.mp hS c hc), ?_⟩
  rw [List.all_cons, List.all_nil, Bool.and_true]
  exact lows_all _ _ h
theorem low_set {S : Store} {l : Nat} {c : Cell} (h : LowS S) (hc : ∀ n, Cell.low n c = true) : LowS (S.set l c) := by
  show (S.set l c).all (Cell.low (S.set l c).length) = true
  rw [List.length_set]
  refine List.all_eq_true.mpr fun d hd => ?_
  rcases List.mem_or_eq_of_mem_set hd with hd | rfl
  · exact List.all_eq_true.mp h d hd
  · exact hc _
theorem set_hi {A B : Store} {l : Nat} {c : Cell} (h : A.length ≤ l) : ∃ C, (A ++ B).set l c = A ++ C := ⟨_, List.set_append_right _ _ h⟩
theorem st_more {g : Hs} {rest B : Store} {S : Store} (h : S = g.st rest ++ B) (hl : LowS S) : ∃ rest2, S = g.st rest2 ∧ LowR rest2 := ⟨rest ++ B, h, LowS.rest (g := g) (by rw [← Hs.app, ← h]; exact hl)⟩
theorem w_isNv {x : PV} {S : Store} {Q : PV → Store → Prop} {k : Bool} (h : x.isNon = k) : Post (oIsN x .non S) Q ↔ Q (.bl k) S := by rw [← h]; exact Post.ok
theorem w_notNv {x : PV} {S : Store} {Q : PV → Store → Prop} {k : Bool} (h : x.isNon = k) : Post (oNotN x .non S) Q ↔ Q (.bl (!k)) S := by rw [← h]; exact Post.ok
theorem len1 {A : Store} {c : Cell} : (A ++ [c]).length = A.length + 1 := by rw [List.length_append]; rfl
theorem seq_at0 {S : Store} {l : Nat} {xs : List PV} (h : S[l]? = some (.lst xs)) : seqOf S (.loc l) = some xs := by
  show (match S[l]? with | some (.lst xs) => some xs | _ => none) = _
  rw [h]
end

/-! PureR0 -/
/-! PureR0: common pieces. -/
section
open PySem L2
theorem Hs.at0 {g : Hs} {A B : Store} {a : Cell} : (g.st (A ++ a :: B))[A.length + 2]? = some a := get_app (A := A) (B := a :: B) (i := 0)
theorem Hs.set0 {g : Hs} {A B : Store} {a c : Cell} : (g.st (A ++ a :: B)).set (A.length + 2) c = g.st (A ++ c :: B) := congrArg (fun z => Cell.lst (g.l.map .int) :: Cell.lst [.int g.a, .loc 0, .int g.c] :: z) (set_app (A := A) (B := a :: B) (i := 0))
theorem Prog.low (n : Nat) (p : Prog) : LW.low n p.pv = true := by
  unfold Prog.pv
  refine low_tup fun x hx => ?_
  simp only [List.mem_cons, List.not_mem_nil, or_false] at hx
  rcases hx with rfl | rfl
  · refine low_tup fun x hx => ?_
    obtain ⟨h, _, rfl⟩ := List.mem_map.mp hx
    unfold House.pv
    refine low_tup fun x hx => ?_
    simp only [List.mem_cons, List.not_mem_nil, or_false] at hx
    rcases hx with rfl | rfl | rfl
    · exact low_tup (low_ivs _)
    · exact low_int
    · exact low_tup (low_ivs _)
  · refine low_tup fun x hx => ?_
    obtain ⟨r, _, rfl⟩ := List.mem_map.mp hx
    exact r.low n
end

/-! PureR -/
/-! PureR: wild programs, swapped ones, any. -/
section
open PySem L2
theorem wild_spec (g : Hs) (rest : Store) (hlow : LowR rest) (hg : g.Ok) (most : Nat) (hm0 : 0 < most) (hm : most ≤ 32) : Post (m_wild [.loc 1, .int most] (g.st rest)) (IsProg rest) := by
  unfold m_wild
  refine w_fnP rfl ?_
  generalize hL : (g.st rest).length = L
  ((repeat sizeOf_list_dec) <;> (try dsimp only))
  ((refine Post.mono (next_spec _ _ _ hg ?hn0 ?hn1) ?_); (case hn0 => omega); (case hn1 => omega))
  rintro _ _ ⟨r1, g1, rfl, rfl, hg1, a1, b1⟩
  obtain ⟨n1, rfl⟩ : ∃ n : Nat, r1 = n := ⟨r1.toNat, by omega⟩
  ((repeat sizeOf_list_dec) <;> (try dsimp only))
  rw [show ((1 : Int) + (n1 : Int)).toNat = n1 + 1 by omega]
  refine lc_draws (P := fun _ x => ∃ h : House, x = h.pv ∧ h.Ok) hg1 (by omega) (fun i g0 hi hg0 => ?_) (fun xs g2 hg2 hl hP => ?_)
  · ((repeat sizeOf_list_dec) <;> (try dsimp only))
    refine (house_spec _ _ hg0).mono ?_
    rintro _ _ ⟨h, g3, rfl, hh, rfl, hg3⟩
    exact ⟨g3, rfl, hg3, h, rfl, hh⟩
  obtain ⟨hs, rfl, hhs⟩ := map_of hP
  rw [List.length_map] at hl
  ((repeat sizeOf_list_dec) <;> (try dsimp only))
  ((refine Post.mono (next_spec _ _ _ hg2 ?hn0 ?hn1) ?_); (case hn0 => omega); (case hn1 => omega))
  rintro _ _ ⟨r2, g3, rfl, rfl, hg3, a2, b2⟩
  obtain ⟨n2, rfl⟩ : ∃ n : Nat, r2 = n := ⟨r2.toNat, by omega⟩
  ((repeat sizeOf_list_dec) <;> (try dsimp only))
  rw [show (g3.st rest).length = rest.length + 2 from rfl, show ((1 : Int) + (n2 : Int)).toNat = n2 + 1 by omega]
  refine for_go (all := upto 0 (n2 + 1)) (fun i env S => ∃ (rs : List Routine) (g' : Hs) (x3 x6 x7 : Option PV), S = Hs.st g' (rest ++ [.lst (rs.map Routine.pv)]) ∧ g'.Ok ∧ rs.length = i ∧ i ≤ n2 + 1 ∧ (∀ r ∈ rs, Routine.Ok hs.length (n2 + 1) r) ∧ env = [some (.loc 1), some (.int most), some (.tup (hs.map House.pv)), x3, some (.int (1 + n2)), some (.loc (rest.length + 2)), x6, x7, none]) (by rfl) ⟨[], g3, none, none, none, rfl, hg3, rfl, Nat.zero_le _, fun r h => absurd h List.not_mem_nil, rfl⟩ ?_ ?_
  · rintro i env S x ⟨rs, g', x3, x6, x7, rfl, hg', hlr, hi', hrs, rfl⟩ hx
    refine ⟨by rfl, ?_⟩
    have hi : i < n2 + 1 := by
      have := (List.getElem?_eq_some_iff.mp hx).1
      rw [upto_length] at this
      exact this
    ((repeat sizeOf_list_dec) <;> (try dsimp only))
    ((refine Post.mono (next_spec _ _ _ hg' ?hn0 ?hn1) ?_); (case hn0 => omega); (case hn1 => omega))
    rintro _ _ ⟨r4, g4, rfl, rfl, hg4, a4, b4⟩
    obtain ⟨n4, rfl⟩ : ∃ n : Nat, r4 = n := ⟨r4.toNat, by omega⟩
    ((repeat sizeOf_list_dec) <;> (try dsimp only))
    rw [show ((1 : Int) + (n4 : Int) - 1).toNat = n4 by omega]
    refine lc_draws (P := fun _ x => ∃ r : Row, x = r.pv ∧ r.Ok (n4 + 1) (n2 + 1)) hg4 (by omega) (fun i g0 hi hg0 => ?_) (fun xs g5 hg5 hl2 hP2 => ?_)
    · ((repeat sizeOf_list_dec) <;> (try dsimp only))
      rw [show ((1 : Int) + (n4 : Int)) = ((n4 + 1 : Nat) : Int) by omega, show ((1 : Int) + (n2 : Int)) = ((n2 + 1 : Nat) : Int) by omega]
      refine (wild_row_spec g0 _ hg0 (n4 + 1) (n2 + 1) (by omega) (by omega) (by omega) (by omega)).mono ?_
      rintro _ _ ⟨row, g3, rfl, hrow, rfl, hg3⟩
      exact ⟨g3, rfl, hg3, row, rfl, hrow⟩
    obtain ⟨init, rfl, hinit⟩ := map_of hP2
    rw [List.length_map] at hl2
    ((repeat sizeOf_list_dec) <;> (try dsimp only))
    ((refine Post.mono (next_spec _ _ _ hg5 ?hn0 ?hn1) ?_); (case hn0 => omega); (case hn1 => omega))
    rintro _ _ ⟨r6, g6, rfl, rfl, hg6, a6, b6⟩
    obtain ⟨last, hlast, hle, hlo⟩ : ∃ last : Row, atI [PV.tup [.str "back"], PV.tup [.str "go", .int 0]] r6 = some last.pv ∧ last.isEnd ∧ last.Ok (n4 + 1) (n2 + 1) := by
      rcases (by omega : r6 = 0 ∨ r6 = 1) with rfl | rfl
      · exact ⟨.back, rfl, trivial, trivial⟩
      · exact ⟨.go 0, rfl, trivial, Nat.succ_pos _⟩
    refine (w_ix rfl hlast).mpr ?_
    ((repeat sizeOf_list_dec) <;> (try dsimp only))
    refine (w_addLL (by rw [List.length_map, hl2]; exact Nat.le_trans (by show n4 + 1 ≤ 1000; omega) (by decide : 1000 ≤ lim))).mpr ?_
    ((repeat sizeOf_list_dec) <;> (try dsimp only))
    refine ⟨_, _, rfl, Hs.at0, ?_⟩
    ((repeat sizeOf_list_dec) <;> (try dsimp only))
    rw [List.length_map]
    ((refine Post.mono (next_spec _ _ _ hg6 ?hn0 ?hn1) ?_); (case hn0 => omega); (case hn1 => omega))
    rintro _ _ ⟨r7, g7, rfl, rfl, hg7, a7, b7⟩
    obtain ⟨h, rfl⟩ : ∃ n : Nat, r7 = n := ⟨r7.toNat, by omega⟩
    ((repeat sizeOf_list_dec) <;> (try dsimp only))
    refine (w_mAppend Hs.at0 (by rw [List.length_map]; exact Nat.lt_of_le_of_lt (by omega) (by decide : 1000 < lim))).mpr ?_
    rw [Hs.set0]
    have e1 : rs.map Routine.pv ++ [PV.tup [PV.int h, PV.tup (init.map Row.pv ++ [last.pv])]] = (rs ++ [Routine.mk h init last]).map Routine.pv := by
      rw [List.map_append]
      show _ = _ ++ [PV.tup [PV.int h, PV.tup ((init ++ [last]).map Row.pv)]]
      rw [List.map_append]
      rfl
    rw [e1]
    ((repeat sizeOf_list_dec) <;> (try dsimp only))
    refine ⟨rs ++ [⟨h, init, last⟩], g7, _, _, _, rfl, hg7, by rw [List.length_append, hlr]; rfl, hi, fun r' hr' => ?_, rfl⟩
    rcases List.mem_append.mp hr' with hq | hq
    · exact hrs r' hq
    · rw [List.mem_singleton.mp hq]
      have hlen : (init ++ [last]).length = n4 + 1 := by rw [List.length_append, hl2]; rfl
      refine ⟨by show h < hs.length; omega, by show (init ++ [last]).length ≤ 32; omega, ?_, hle⟩
      show ∀ z ∈ init ++ [last], z.Ok (init ++ [last]).length _
      rw [hlen]
      intro z hz
      rcases List.mem_append.mp hz with hz | hz
      · exact hinit z hz
      · rw [List.mem_singleton.mp hz]
        exact hlo
  · rintro env S ⟨rs, g4, x3, x6, x7, rfl, hg4, hlr, hi', hrs, rfl⟩
    rw [upto_length] at hlr
    refine ⟨by rfl, ?_⟩
    ((repeat sizeOf_list_dec) <;> (try dsimp only))
    refine (w_tuple (xs := rs.map Routine.pv) (by show (match (g4.st (rest ++ [Cell.lst (rs.map Routine.pv)]))[rest.length + 2]? with | some (.lst xs) => some xs | _ => none) = _; rw [Hs.at0])).mpr ?_
    ((repeat sizeOf_list_dec) <;> (try dsimp only))
    rw [← hL]
    show Post (leave (g4.st rest).length (Prog.pv ⟨hs, rs⟩) (g4.st rest ++ [Cell.lst (rs.map Routine.pv)])) _
    refine (leave_drop (w := Prog.pv ⟨hs, rs⟩) (hlow.st g4) (by simp) ?_).mpr ⟨⟨hs, rs⟩, g4, rfl, ⟨by show 1 ≤ hs.length; omega, by show hs.length ≤ 3; omega, by show 1 ≤ rs.length; omega, by show rs.length ≤ 6; omega, hhs, ?_⟩, rfl, hg4⟩
    · show (if LW.low _ (Prog.pv ⟨hs, rs⟩) = true then some _ else none) = _
      rw [if_pos (Prog.low _ _)]
    · show ∀ r ∈ rs, r.Ok hs.length rs.length
      rw [hlr]
      exact hrs
theorem any_spec (g : Hs) (rest : Store) (hlow : LowR rest) (hg : g.Ok) : Post (m_any [.loc 1] (g.st rest)) (IsProg rest) := by
  unfold m_any
  refine w_fnP rfl ?_
  ((repeat sizeOf_list_dec) <;> (try dsimp only))
  ((refine Post.mono (next_spec _ _ _ hg ?hn0 ?hn1) ?_); (case hn0 => omega); (case hn1 => omega))
  rintro _ _ ⟨turn, g1, rfl, rfl, hg1, a1, b1⟩
  ((repeat sizeOf_list_dec) <;> (try dsimp only))
  cases h4 : (turn == 4) with
  | true =>
    ((repeat sizeOf_list_dec) <;> (try dsimp only))
    ((refine Post.mono (next_spec _ _ _ hg1 ?hn0 ?hn1) ?_); (case hn0 => omega); (case hn1 => omega))
    rintro _ _ ⟨r2, g2, rfl, rfl, hg2, a2, b2⟩
    obtain ⟨most, hm0, hm, hat⟩ : ∃ mx : Nat, 0 < mx ∧ mx ≤ 32 ∧ atI [PV.int 6, PV.int 20, PV.int 32] r2 = some (.int mx) := by
      rcases (by omega : r2 = 0 ∨ r2 = 1 ∨ r2 = 2) with rfl | rfl | rfl
      · exact ⟨6, by decide, by decide, rfl⟩
      · exact ⟨20, by decide, by decide, rfl⟩
      · exact ⟨32, by decide, by decide, rfl⟩
    refine (w_ix rfl hat).mpr ?_
    ((repeat sizeOf_list_dec) <;> (try dsimp only))
    refine (wild_spec g2 rest hlow hg2 most hm0 hm).mono ?_
    rintro _ _ ⟨p, g3, rfl, hp, rfl, hg3⟩
    ((repeat sizeOf_list_dec) <;> (try dsimp only))
    exact (leave_same rfl).mpr ⟨p, g3, rfl, hp, rfl, hg3⟩
  | false =>
    ((repeat sizeOf_list_dec) <;> (try dsimp only))
    refine (program_spec g1 rest hlow hg1).mono ?_
    rintro _ _ ⟨p, g3, rfl, hp, rfl, hg3⟩
    ((repeat sizeOf_list_dec) <;> (try dsimp only))
    cases h0 : (turn == 0) with
    | true =>
      ((repeat sizeOf_list_dec) <;> (try dsimp only))
      exact (leave_same rfl).mpr ⟨p, g3, rfl, hp, rfl, hg3⟩
    | false =>
      ((repeat sizeOf_list_dec) <;> (try dsimp only))
      ((refine Post.mono (next_spec _ _ _ hg3 ?hn0 ?hn1) ?_); (case hn0 => omega); (case hn1 => omega))
      rintro _ _ ⟨r4, g4, rfl, rfl, hg4, a4, b4⟩
      obtain ⟨n4, rfl⟩ : ∃ n : Nat, r4 = n := ⟨r4.toNat, by omega⟩
      ((repeat sizeOf_list_dec) <;> (try dsimp only))
      rw [show ((1 : Int) + (n4 : Int)) = ((n4 + 1 : Nat) : Int) by omega]
      refine (odd_spec g4 rest hg4 p hp (n4 + 1) (by omega)).mono ?_
      rintro _ _ ⟨q, g5, rfl, hq, rfl, hg5⟩
      ((repeat sizeOf_list_dec) <;> (try dsimp only))
      exact (leave_same rfl).mpr ⟨q, g5, rfl, hq, rfl, hg5⟩
end

/-! PureEx -/
/-! PureEx: what lets an error out; f-strings; the word of an error's class. -/
section
open PySem L2
structure PostX {α : Type} (r : R α) (E : PExc → Store → Prop) : Prop where
  told : match r with
    | .exc e S => E e S
    | _ => False
section
variable {α β : Type} {S : Store} {env : Env} {E : PExc → Store → Prop} {Q : PV → Store → Prop}
theorem PostX.exc {e : PExc} : PostX (.exc e S : R α) E ↔ E e S := ⟨fun h => h.told, fun h => ⟨h⟩⟩
theorem PostX.mono {r : R α} {E' : PExc → Store → Prop} (h : PostX r E) (m : ∀ e S, E e S → E' e S) : PostX r E' := by
  cases r with
  | ok a S => exact h.told.elim
  | exc e S => exact ⟨m e S h.told⟩
  | bad => exact h.told.elim
theorem PostX.bind1 {r : R α} {f : α → Store → R β} (h : Post r fun a S => PostX (f a S) E) : PostX (r.bind f) E := by
  obtain ⟨a, S, e, h2⟩ := h.out
  rw [e]
  exact h2
theorem PostX.bind0 {r : R α} {f : α → Store → R β} (h : PostX r E) : PostX (r.bind f) E := by
  cases r with
  | ok a S => exact h.told.elim
  | exc e S => exact ⟨h.told⟩
  | bad => exact h.told.elim
theorem x_seq1 {a b : XS} (h : Post (a env S) fun p S => p.1 = .nx ∧ PostX (b p.2 S) E) : PostX (sSeq a b env S) E := by
  unfold sSeq
  refine PostX.bind1 (h.mono ?_)
  rintro ⟨f, env⟩ S ⟨h1, h2⟩
  have h1 : f = .nx := h1
  rw [h1]
  exact h2
theorem x_seq0 {a b : XS} (h : PostX (a env S) E) : PostX (sSeq a b env S) E := PostX.bind0 h
theorem x_if {c : XB} {a b : XS} (h : Post (c env S) fun k S => if k = true then PostX (a env S) E else PostX (b env S) E) : PostX (sIf c a b env S) E := by
  unfold sIf
  refine PostX.bind1 (h.mono fun k S h => ?_)
  split <;> simp_all
theorem x_drop {e : XE} (h : PostX (e env S) E) : PostX (sDrop e env S) E := PostX.bind0 h
theorem x_asg {e : XE} {g : XG} (h : PostX (e env S) E) : PostX (sAsg e g env S) E := PostX.bind0 h
theorem x_ret {e : XE} (h : PostX (e env S) E) : PostX (sRet e env S) E := PostX.bind0 h
theorem x_call {f : XF} {a : XA} (h : Post (a env S) fun xs S => PostX (f xs S) E) : PostX (eCall f a env S) E := PostX.bind1 h
theorem x_raise {c : Str} {m : XE} (h : Post (m env S) fun _ S => E ⟨c, []⟩ S) : PostX (sRaise c m env S) E := PostX.bind1 (h.mono fun _ _ h => ⟨h⟩)
theorem x_fnP {np many : Nat} {b : XS} {args : List PV} (hl : args.length = np) (h : PostX (b (args.map some ++ List.replicate (many - args.length) none) S) E) : PostX (fnP np many b args S) E := by
  unfold fnP
  rw [if_pos hl]
  exact PostX.bind0 h
theorem x_fnK {np many : Nat} {b : XS} {args : List PV} (hl : args.length = np) (h : PostX (b (args.map some ++ List.replicate (many - args.length) none) S) E) : PostX (fnK np many b args S) E := by
  unfold fnK
  rw [if_pos hl]
  exact PostX.bind0 h
/-- the word of what m lets out -/
theorem w_kind {m : XE} (h : PostX (m env S) fun e S => e.cls ∈ kindWords ∧ e.cls ≠ ("" : Str) ∧ e.fs = [] ∧ Q (.str e.cls) S) : Post (eKind m env S) Q := by
  unfold eKind
  cases hm : m env S with
  | ok a S => rw [hm] at h; exact h.told.elim
  | bad => rw [hm] at h; exact h.told.elim
  | exc e S =>
    rw [hm] at h
    obtain ⟨h1, h2, h3, h4⟩ := h.told
    simp only
    rw [if_pos ⟨h1, h2, h3⟩]
    exact Post.ok.mpr h4
/-- .. none -/
theorem w_kind0 {m : XE} (h : Post (m env S) fun _ S => Q (.str "") S) : Post (eKind m env S) Q := by
  unfold eKind
  obtain ⟨a, S, e, h⟩ := h.out
  rw [e]
  exact Post.ok.mpr h
/-! f-strings whose text nobody asks for -/
def JP (n : Nat) (ms : List XE) (env : Env) (S : Store) (P : Store → Prop) : Prop := ∀ acc : Str, acc.length ≤ n → Post (jGo ms acc env S) fun _ S => P S
theorem str_app (a b : Str) : (a ++ b).length = a.length + b.length := by
  show (a.cps ++ b.cps).size = a.cps.size + b.cps.size
  rw [Array.size_append]
theorem x_join {ms : List XE} {P : Store → Prop} (h : JP 0 ms env S P) : Post (eJoin ms env S) fun _ S => P S := h _ (Nat.le_refl _)
theorem jp_nil {n : Nat} {P : Store → Prop} (h : P S) : JP n [] env S P := fun _ _ => Post.ok.mpr h
theorem jp_c {n : Nat} {y : Str} {ms : List XE} {P : Store → Prop} (h : JP (n + y.length) ms env S P) (hn : n + y.length ≤ lim) : JP n (eC (.str y) :: ms) env S P := fun acc ha => by
  have hl := str_app acc y
  unfold jGo
  refine Post.bind.mpr (w_c.mpr ?_)
  simp only
  rw [if_pos (by omega)]
  exact h _ (by omega)
theorem jp_f {n : Nat} {m : XE} {ms : List XE} {P : Store → Prop} (h : Post (m env S) fun x S => ∃ i : Int, x = .int i ∧ i.natAbs < 10 ^ 15 ∧ JP (n + 16) ms env S P) (hn : n + 16 ≤ lim) : JP n (eFmt m :: ms) env S P := fun acc ha => by
  unfold jGo eFmt
  refine Post.bind.mpr (Post.bind.mpr (h.mono ?_))
  rintro _ S ⟨i, rfl, hi, h⟩
  simp only
  have h2 : i.natAbs.log2 < 1920 := by
    by_cases h0 : i.natAbs = 0
    · rw [h0]; decide
    · exact (Nat.log2_lt h0).mpr (Nat.lt_of_lt_of_le hi (Nat.le_trans (show 10 ^ 15 ≤ 2 ^ 50 by decide) (Nat.pow_le_pow_right (by decide) (by decide))))
  rw [if_pos h2]
  refine Post.ok.mpr ?_
  have h3 : (Str.ofString (toString i)).length ≤ 16 := by
    rw [PyProof.Rows.ofString_length]
    exact PySem.int_text_length_le10 (k := 15) (by decide) hi
  have hl := str_app acc (Str.ofString (toString i))
  simp only
  rw [if_pos (by show (acc ++ Str.ofString (toString i)).length ≤ lim; omega)]
  exact h _ (by show (acc ++ Str.ofString (toString i)).length ≤ _; omega)
end
end

/-! PureSv -/
/-! PureSv: saves: the rows that come of them. -/
section
open PySem L2
/-- a comprehension over anything, nothing of the store changes -/
theorem lc_gen {α : Type} {enc : α → PV} {it : LW.It} {zs : List α} {env : LW.Env} {S : Store} {QA : List PV → Store → Prop} {g : XG} {t : XB} {e : XE} (p : α → Bool) (f : α → PV) (ha : it.items S = some (zs.map enc)) (hn : zs.length ≤ 1000)
    (h : ∀ z, z ∈ zs → Post (g (enc z) env S) fun env' S' => Post (t env' S') fun k S2 => k = p z ∧ if p z = true then Post (e env' S2) fun y S3 => y = f z ∧ S3 = S else S2 = S) (hQ : QA ((zs.filter p).map f) S) : LcP it g t e env S QA := by
  refine ⟨zs.map enc, ha, lc_inv (fun i acc S' => i ≤ zs.length ∧ acc = ((zs.take i).filter p).map f ∧ S' = S) ?_ ?_ _ 0 rfl (Nat.zero_le _) _ _ ⟨Nat.zero_le _, rfl, rfl⟩⟩
  · rintro i acc S' x ⟨hi, rfl, rfl⟩ hx
    refine ⟨ha, ?_⟩
    obtain ⟨z, hz, rfl⟩ : ∃ z : α, zs[i]? = some z ∧ x = enc z := by
      rw [List.getElem?_map] at hx
      cases hh : zs[i]? with
      | none => rw [hh] at hx; cases hx
      | some z => rw [hh] at hx; cases hx; exact ⟨z, rfl, rfl⟩
    have hlt := (List.getElem?_eq_some_iff.mp hz).1
    have hf : ((zs.take (i + 1)).filter p).map f = ((zs.take i).filter p).map f ++ (if p z = true then [f z] else []) := by
      rw [List.take_add_one, hz, List.filter_append, List.map_append]
      congr 1
      by_cases hp : p z = true
      · rw [if_pos hp]
        simp [hp]
      · rw [if_neg hp]
        simp [hp]
    refine (h z (List.mem_of_getElem? hz)).mono fun env' S1 h1 => h1.mono ?_
    rintro k S2 ⟨rfl, h2⟩
    by_cases hp : p z = true
    · rw [if_pos hp] at h2 ⊢
      refine h2.mono ?_
      rintro y S3 ⟨rfl, rfl⟩
      refine ⟨?_, hlt, by rw [hf, if_pos hp], rfl⟩
      rw [List.length_map]
      refine Nat.lt_of_le_of_lt (Nat.le_trans (List.length_filter_le _ _) ?_) (show 1000 < lim by decide)
      rw [List.length_take]
      omega
    · rw [if_neg hp] at h2 ⊢
      refine ⟨hlt, ?_, h2⟩
      rw [hf, if_neg hp, List.append_nil]
  · rintro acc S' ⟨_, rfl, rfl⟩
    refine ⟨ha, ?_⟩
    rw [List.length_map, List.take_length]
    exact hQ
theorem filter_yes {α : Type} (zs : List α) : zs.filter (fun _ => true) = zs := List.filter_eq_self.mpr fun _ _ => rfl
/-- row (-1: about the whole), box -/
abbrev Save : Type := Int × Nat
def svP (s : Save) : PV := .tup [.int s.1, .int (s.2 : Int)]
def about (sv : List Save) (r : Int) : List Nat := (sv.filter fun s => s.1 == r).map (·.2)
def pushes (bs : List Nat) : List Row := bs.map .push
def pops (bs : List Nat) : List Row := bs.reverse.map .pop
def Row.backB : Row → Bool
  | .back => true
  | _ => false
def blockOf (sv : List Save) (k : Nat) (row : Row) : List Row := if row.backB = true then pops (about sv (-1)) ++ [row] else pushes (about sv k) ++ [row] ++ pops (about sv k)
def blocks (sv : List Save) : Nat → List Row → List (List Row)
  | _, [] => []
  | k, row :: r => blockOf sv k row :: blocks sv (k + 1) r
def startsOf : Nat → List (List Row) → List Nat
  | _, [] => []
  | w, b :: r => w :: startsOf (w + b.length) r
def ledRow (st : List Nat) : Row → Row
  | .go t => .go (st.getD t 0)
  | .zero b t => .zero b (st.getD t 0)
  | r => r
def stOf (sv : List Save) (rows : List Row) : List Nat := startsOf (about sv (-1)).length (blocks sv 0 rows)
def savedRows (sv : List Save) (rows : List Row) : List Row := pushes (about sv (-1)) ++ ((blocks sv 0 rows).map fun b => b.map (ledRow (stOf sv rows))).flatten
/-- a value that is this list or tuple of saves in any store -/
def IsSv (x : PV) (sv : List Save) : Prop := ∀ S, seqOf S x = some (sv.map svP)
theorem IsSv.ls (sv : List Save) : IsSv (.ls (sv.map svP)) sv := fun _ => rfl
theorem about_len (sv : List Save) (a : Int) : (about sv a).length ≤ sv.length := by
  unfold about
  rw [List.length_map]
  exact List.length_filter_le _ _
theorem boxes_about_spec (S : Store) {x : PV} {sv : List Save} (hx : IsSv x sv) (hl : sv.length ≤ 1000) (a : Int) : Post (m_boxes_about [x, .int a] S) fun v S' => v = .ls (ivs (about sv a)) ∧ S' = S := by
  unfold m_boxes_about
  refine w_fnP rfl ?_
  ((repeat sizeOf_list_dec) <;> (try dsimp only))
  refine lc_gen (enc := svP) (fun s => s.1 == a) (fun s => .int (s.2 : Int)) (hx S) hl (fun z hz => ?_) ?_
  · refine (w_gTp (xs := [.int z.1, .int (z.2 : Int)]) (by rfl) (by rfl)).mpr ?_
    ((repeat sizeOf_list_dec) <;> (try dsimp only))
    refine ⟨by trivial, ?_⟩
    cases (z.1 == a) with
    | true => ((repeat sizeOf_list_dec) <;> (try dsimp only)); exact ⟨by trivial, by trivial⟩
    | false => ((repeat sizeOf_list_dec) <;> (try dsimp only))
  · ((repeat sizeOf_list_dec) <;> (try dsimp only))
    refine (leave_same rfl).mpr ⟨?_, rfl⟩
    unfold about ivs
    rw [List.map_map]
    rfl
theorem pushes_of_spec (S : Store) (bs : List Nat) (hl : bs.length ≤ 1000) : Post (m_pushes_of [.ls (ivs bs)] S) fun v S' => v = .loc S.length ∧ S' = S ++ [.lst ((pushes bs).map Row.pv)] := by
  unfold m_pushes_of
  refine w_fnK rfl ?_
  ((repeat sizeOf_list_dec) <;> (try dsimp only))
  refine lc_each (fun b => (Row.push b).pv) (by rfl) hl (fun i hi => ?_) ?_
  · ((repeat sizeOf_list_dec) <;> (try dsimp only))
    exact ⟨by trivial, by trivial⟩
  · ((repeat sizeOf_list_dec) <;> (try dsimp only))
    refine ⟨by trivial, ?_⟩
    unfold pushes
    rw [List.map_map]
    rfl
theorem w_rev {xs : List PV} {S : Store} {Q : PV → Store → Prop} : Post (oRev (.ls xs) S) Q ↔ Q (.ls xs.reverse) S := Post.ok
theorem ivs_rv (xs : List Nat) : (ivs xs).reverse = ivs xs.reverse := by
  unfold ivs
  rw [List.map_reverse]
theorem pops_of_spec (S : Store) (bs : List Nat) (hl : bs.length ≤ 1000) : Post (m_pops_of [.ls (ivs bs)] S) fun v S' => v = .ls ((pops bs).map Row.pv) ∧ S' = S := by
  unfold m_pops_of
  refine w_fnP rfl ?_
  ((repeat sizeOf_list_dec) <;> (try dsimp only))
  refine w_rev.mpr ?_
  rw [ivs_rv]
  ((repeat sizeOf_list_dec) <;> (try dsimp only))
  refine lc_each (fun b => (Row.pop b).pv) (by rfl) (by rw [List.length_reverse]; exact hl) (fun i hi => ?_) ?_
  · ((repeat sizeOf_list_dec) <;> (try dsimp only))
    exact ⟨by trivial, by trivial⟩
  · ((repeat sizeOf_list_dec) <;> (try dsimp only))
    refine (leave_same rfl).mpr ⟨?_, rfl⟩
    unfold pops
    rw [List.map_map]
    rfl
end

/-! PureSw -/
/-! PureSw: the program's saved_rows. -/
section
open PySem L2
def blockV (b : List Row) : PV := .ls (b.map Row.pv)
theorem blocks_get (sv : List Save) : ∀ (rows : List Row) (k i : Nat), (blocks sv k rows)[i]? = (rows[i]?).map fun r => blockOf sv (k + i) r
  | [], k, i => rfl
  | r :: rows, k, 0 => rfl
  | r :: rows, k, i + 1 => by
    show (blocks sv (k + 1) rows)[i]? = _
    rw [blocks_get sv rows (k + 1) i]
    show (rows[i]?).map (fun r => blockOf sv (k + 1 + i) r) = (rows[i]?).map fun r => blockOf sv (k + (i + 1)) r
    rw [show k + 1 + i = k + (i + 1) by omega]
theorem blocks_len (sv : List Save) (rows : List Row) (k : Nat) : (blocks sv k rows).length = rows.length := by
  induction rows generalizing k with
  | nil => rfl
  | cons r rows ih => exact congrArg Nat.succ (ih (k + 1))
theorem take_next {α : Type} {l : List α} {i : Nat} {x : α} (h : l[i]? = some x) : l.take (i + 1) = l.take i ++ [x] := by
  rw [List.take_add_one, h]
  rfl
theorem backB_word (r : Row) : ∃ w vs, r.pv = .tup (.str w :: vs) ∧ PyData.strOk w = true ∧ decide (w = ("back" : Str)) = r.backB := by
  cases r <;> (refine ⟨_, _, rfl, by decide +kernel, ?_⟩; first | (show _ = false; decide +kernel) | (show _ = true; decide +kernel))
theorem blockOf_len (sv : List Save) (k : Nat) (r : Row) : (blockOf sv k r).length ≤ 2 * sv.length + 1 := by
  have h1 := about_len sv (-1)
  have h2 := about_len sv (k : Int)
  unfold blockOf
  split
  · simp only [pops, List.length_append, List.length_map, List.length_reverse, List.length_cons, List.length_nil]
    omega
  · simp only [pops, pushes, List.length_append, List.length_map, List.length_reverse, List.length_cons, List.length_nil]
    omega
theorem lstOf_at {S : Store} {l : Nat} {xs : List PV} (h : S[l]? = some (.lst xs)) : lstOf S (.loc l) = some xs := by
  show (match S[l]? with | some (.lst xs) => some xs | _ => none) = _
  rw [h]
theorem w_addLocL {l : Nat} {xs ys : List PV} {S : Store} {Q : PV → Store → Prop} (h : S[l]? = some (.lst xs)) (h2 : xs.length + ys.length ≤ lim) : Post (oAdd (.loc l) (.ls ys) S) Q ↔ Q (.ls (xs ++ ys)) S := by
  unfold oAdd
  simp only [lstOf, h]
  rw [if_pos h2]
  exact Post.ok
theorem blocks_of_spec (A : Store) {x : PV} {sv : List Save} (hx : IsSv x sv) (hl : sv.length ≤ 100) (rows : List Row) (hr : rows.length ≤ 1000) : Post (m_blocks_of [.tup (rows.map Row.pv), x] A) fun v S' => v = .loc A.length ∧ ∃ B, S' = A ++ .lst ((blocks sv 0 rows).map blockV) :: B := by
  unfold m_blocks_of
  refine w_fnK rfl ?_
  ((repeat sizeOf_list_dec) <;> (try dsimp only))
  refine (boxes_about_spec _ hx (by omega) (-1)).mono ?_
  rintro _ S1 ⟨rfl, e⟩
  obtain rfl := e.symm
  ((repeat sizeOf_list_dec) <;> (try dsimp only))
  refine for_go (all := pairs (upto 0 (rows.map Row.pv).length) (rows.map Row.pv)) (fun i env S => ∃ (B : Store) (x4 x5 x6 : Option PV), S = A ++ .lst (((blocks sv 0 rows).take i).map blockV) :: B ∧ env = [some (.tup (rows.map Row.pv)), some x, some (.ls (ivs (about sv (-1)))), some (.loc A.length), x4, x5, x6]) (by rfl) ⟨[], none, none, none, rfl, rfl⟩ ?_ ?_
  · rintro i env S y ⟨B, x4, x5, x6, rfl, rfl⟩ hy
    refine ⟨by rfl, ?_⟩
    obtain ⟨a, b, ha, hb, rfl⟩ := pairs_at hy
    rw [List.getElem?_map] at hb
    cases hh : rows[i]? with
    | none => rw [hh] at hb; cases hb
    | some r =>
      rw [hh] at hb
      cases hb
      have hlt := (List.getElem?_eq_some_iff.mp hh).1
      rw [upto_get (by rw [List.length_map]; exact hlt), Int.zero_add] at ha
      cases ha
      have hbl : (blocks sv 0 rows)[i]? = some (blockOf sv i r) := by
        rw [blocks_get, hh, Nat.zero_add]
        rfl
      have hcell : ∀ B : Store, (A ++ Cell.lst (((blocks sv 0 rows).take i).map blockV) :: B)[A.length]? = some (.lst (((blocks sv 0 rows).take i).map blockV)) := fun B => get_app (i := 0)
      have hsml : (((blocks sv 0 rows).take i).map blockV).length < lim := by
        rw [List.length_map, List.length_take, blocks_len]
        exact Nat.lt_of_le_of_lt (show min i rows.length ≤ 1000 by omega) (by decide)
      have hset : ∀ B : Store, (A ++ Cell.lst (((blocks sv 0 rows).take i).map blockV) :: B).set A.length (.lst (((blocks sv 0 rows).take i).map blockV ++ [blockV (blockOf sv i r)])) = A ++ Cell.lst (((blocks sv 0 rows).take (i + 1)).map blockV) :: B := fun B => by
        rw [take_next hbl, List.map_append]
        exact set_app (i := 0)
      obtain ⟨w, vs, hw, hok, hbk⟩ := backB_word r
      rw [hw]
      ((repeat sizeOf_list_dec) <;> (try dsimp only))
      refine (w_eqS hok (by decide +kernel)).mpr ?_
      rw [hbk]
      ((repeat sizeOf_list_dec) <;> (try dsimp only))
      have h1 := about_len sv (-1)
      have h2 := about_len sv (i : Int)
      cases hq : r.backB with
      | true =>
        ((repeat sizeOf_list_dec) <;> (try dsimp only))
        refine ⟨_, _, rfl, hcell B, ?_⟩
        ((repeat sizeOf_list_dec) <;> (try dsimp only))
        refine (pops_of_spec _ _ (by omega)).mono ?_
        rintro _ _ ⟨rfl, rfl⟩
        ((repeat sizeOf_list_dec) <;> (try dsimp only))
        refine (w_addLL (by
          simp only [pops, List.length_map, List.length_reverse, List.length_cons, List.length_nil]
          exact Nat.le_trans (show _ ≤ 200 by omega) (by decide))).mpr ?_
        ((repeat sizeOf_list_dec) <;> (try dsimp only))
        refine (w_mAppend (hcell B) hsml).mpr ?_
        have e : PV.ls ((pops (about sv (-1))).map Row.pv ++ [.tup (.str w :: vs)]) = blockV (blockOf sv i r) := by
          unfold blockV blockOf
          rw [if_pos hq, List.map_append, ← hw]
          rfl
        rw [e, hset]
        ((repeat sizeOf_list_dec) <;> (try dsimp only))
        exact ⟨B, _, _, _, rfl, rfl⟩
      | false =>
        ((repeat sizeOf_list_dec) <;> (try dsimp only))
        refine (boxes_about_spec _ hx (by omega) (i : Int)).mono ?_
        rintro _ _ ⟨rfl, rfl⟩
        ((repeat sizeOf_list_dec) <;> (try dsimp only))
        refine ⟨_, _, rfl, hcell B, ?_⟩
        ((repeat sizeOf_list_dec) <;> (try dsimp only))
        refine (pushes_of_spec _ _ (by omega)).mono ?_
        rintro _ _ ⟨rfl, rfl⟩
        ((repeat sizeOf_list_dec) <;> (try dsimp only))
        refine (w_addLocL get_last0 (by
          simp only [pushes, List.length_map, List.length_cons, List.length_nil]
          exact Nat.le_trans (show _ ≤ 200 by omega) (by decide))).mpr ?_
        ((repeat sizeOf_list_dec) <;> (try dsimp only))
        refine (pops_of_spec _ _ (by omega)).mono ?_
        rintro _ _ ⟨rfl, rfl⟩
        ((repeat sizeOf_list_dec) <;> (try dsimp only))
        refine (w_addLL (by
          simp only [pops, pushes, List.length_append, List.length_map, List.length_reverse, List.length_cons, List.length_nil]
          exact Nat.le_trans (show _ ≤ 400 by omega) (by decide))).mpr ?_
        ((repeat sizeOf_list_dec) <;> (try dsimp only))
        have e0 : (A ++ Cell.lst (((blocks sv 0 rows).take i).map blockV) :: B) ++ [Cell.lst ((pushes (about sv (i : Int))).map Row.pv)] = A ++ Cell.lst (((blocks sv 0 rows).take i).map blockV) :: (B ++ [Cell.lst ((pushes (about sv (i : Int))).map Row.pv)]) := by
          rw [List.append_assoc]
          rfl
        rw [e0]
        refine (w_mAppend (hcell _) hsml).mpr ?_
        have e : PV.ls ((pushes (about sv (i : Int))).map Row.pv ++ [.tup (.str w :: vs)] ++ (pops (about sv (i : Int))).map Row.pv) = blockV (blockOf sv i r) := by
          unfold blockV blockOf
          rw [if_neg (by rw [hq]; decide), List.map_append, List.map_append, ← hw]
          rfl
        rw [e, hset]
        ((repeat sizeOf_list_dec) <;> (try dsimp only))
        exact ⟨_, _, _, _, rfl, rfl⟩
  · rintro env S ⟨B, x4, x5, x6, rfl, rfl⟩
    refine ⟨by rfl, ?_⟩
    ((repeat sizeOf_list_dec) <;> (try dsimp only))
    rw [pairs_length, List.length_map, List.take_of_length_le (by rw [blocks_len, upto_length]; omega)]
    exact ⟨by trivial, B, rfl⟩
/-- the rows that a row goes to are there -/
def Row.To (n : Nat) : Row → Prop
  | .go t => t < n
  | .zero _ t => t < n
  | _ => True
theorem Row.Ok.to {n k : Nat} {r : Row} (h : r.Ok n k) : r.To n := by
  cases r with
  | go t => exact h
  | zero b t => exact h.2
  | _ => exact True.intro
theorem ivs_ix {xs : List Nat} {i : Nat} (h : i < xs.length) : atI (ivs xs) (i : Int) = some (.int (xs.getD i 0 : Nat)) := by
  have : xs[i]? = some (xs.getD i 0) := by rw [List.getD_eq_getElem?_getD, List.getElem?_eq_getElem h]; rfl
  exact atI_map this
theorem led_anew_spec (S : Store) (st : List Nat) (l : Nat) (hl : S[l]? = some (.lst (ivs st))) (r : Row) (hr : r.To st.length) : Post (m_led_anew [r.pv, .loc l] S) fun v S' => v = (ledRow st r).pv ∧ S' = S := by
  have hseq : seqOf S (.loc l) = some (ivs st) := by
    show (match S[l]? with | some (.lst xs) => some xs | _ => none) = _
    rw [hl]
  unfold m_led_anew
  refine w_fnP rfl ?_
  cases r with
  | go t =>
    rw [show (Row.go t).pv = .tup [.str "go", .int t] from rfl]
    ((repeat sizeOf_list_dec) <;> (try dsimp only))
    rw [if_pos (by decide +kernel)]
    ((repeat sizeOf_list_dec) <;> (try dsimp only))
    refine (w_ix hseq (ivs_ix hr)).mpr ?_
    ((repeat sizeOf_list_dec) <;> (try dsimp only))
    exact (leave_same rfl).mpr ⟨rfl, rfl⟩
  | zero b t =>
    rw [show (Row.zero b t).pv = .tup [.str "zero", .int b, .int t] from rfl]
    ((repeat sizeOf_list_dec) <;> (try dsimp only))
    rw [if_neg (by decide +kernel)]
    ((repeat sizeOf_list_dec) <;> (try dsimp only))
    rw [if_pos (by decide +kernel)]
    ((repeat sizeOf_list_dec) <;> (try dsimp only))
    refine (w_ix hseq (ivs_ix hr)).mpr ?_
    ((repeat sizeOf_list_dec) <;> (try dsimp only))
    exact (leave_same rfl).mpr ⟨rfl, rfl⟩
  | _ =>
    unfold Row.pv
    ((repeat sizeOf_list_dec) <;> (try dsimp only))
    rw [if_neg (by decide +kernel)]
    ((repeat sizeOf_list_dec) <;> (try dsimp only))
    rw [if_neg (by decide +kernel)]
    ((repeat sizeOf_list_dec) <;> (try dsimp only))
    exact (leave_same rfl).mpr ⟨rfl, rfl⟩
end

/-! PureSx -/
/-! PureSx: saved_rows, with_rows. -/
section
open PySem L2
theorem starts_get : ∀ (bl : List (List Row)) (w i : Nat), i < bl.length → (startsOf w bl)[i]? = some (w + (bl.take i).flatten.length)
  | [], _, _, h => absurd h (Nat.not_lt_zero _)
  | b :: bl, w, 0, _ => rfl
  | b :: bl, w, i + 1, h => by
    show (startsOf (w + b.length) bl)[i]? = _
    rw [starts_get bl (w + b.length) i (Nat.lt_of_succ_lt_succ h), List.take_succ_cons, List.flatten_cons, List.length_append, Nat.add_assoc]
theorem starts_len : ∀ (bl : List (List Row)) (w : Nat), (startsOf w bl).length = bl.length
  | [], _ => rfl
  | b :: bl, w => congrArg Nat.succ (starts_len bl (w + b.length))
theorem st_len (sv : List Save) (rows : List Row) : (stOf sv rows).length = rows.length := by
  unfold stOf
  rw [starts_len, blocks_len]
theorem block_to {sv : List Save} {rows : List Row} (h : ∀ r ∈ rows, r.To rows.length) {b : List Row} (hb : b ∈ blocks sv 0 rows) : ∀ r ∈ b, r.To rows.length := fun r hr => by
  obtain ⟨i, hi⟩ := List.getElem?_of_mem hb
  rw [blocks_get] at hi
  cases hh : rows[i]? with
  | none => rw [hh] at hi; cases hi
  | some row =>
    rw [hh] at hi
    have hi : blockOf sv (0 + i) row = b := Option.some.inj hi
    rw [← hi] at hr
    have hrow := h row (List.mem_of_getElem? hh)
    have hp : ∀ bs : List Nat, r ∈ pushes bs → r.To rows.length := fun bs z => by
      obtain ⟨c, _, rfl⟩ := List.mem_map.mp z
      exact True.intro
    have hq : ∀ bs : List Nat, r ∈ pops bs → r.To rows.length := fun bs z => by
      obtain ⟨c, _, rfl⟩ := List.mem_map.mp z
      exact True.intro
    unfold blockOf at hr
    split at hr
    · rcases List.mem_append.mp hr with z | z
      · exact hq _ z
      · rw [List.mem_singleton.mp z]; exact hrow
    · rcases List.mem_append.mp hr with z | z
      · rcases List.mem_append.mp z with z | z
        · exact hp _ z
        · rw [List.mem_singleton.mp z]; exact hrow
      · exact hq _ z
theorem block_len {sv : List Save} {rows : List Row} {b : List Row} (hb : b ∈ blocks sv 0 rows) : b.length ≤ 2 * sv.length + 1 := by
  obtain ⟨i, hi⟩ := List.getElem?_of_mem hb
  rw [blocks_get] at hi
  cases hh : rows[i]? with
  | none => rw [hh] at hi; cases hi
  | some row =>
    rw [hh] at hi
    have hi : blockOf sv (0 + i) row = b := Option.some.inj hi
    rw [← hi]
    exact blockOf_len _ _ _
theorem flat_len {bl : List (List Row)} {n : Nat} (h : ∀ b ∈ bl, b.length ≤ n) : bl.flatten.length ≤ bl.length * n := by
  induction bl with
  | nil => exact Nat.zero_le _
  | cons b bl ih =>
    rw [List.flatten_cons, List.length_append, List.length_cons, Nat.succ_mul]
    have h1 := h b List.mem_cons_self
    have h2 := ih fun c hc => h c (List.mem_cons_of_mem _ hc)
    omega
section
variable {A B : Store} {t b s c : Cell}
theorem G0 {Y : Store} : (A ++ t :: Y)[A.length]? = some t := get_app (i := 0)
theorem G1 {Y : Store} : (A ++ t :: b :: Y)[A.length + 1]? = some b := get_app (i := 1)
theorem G2 : (A ++ t :: b :: (B ++ [s]))[A.length + (B.length + 2)]? = some s := by
  rw [get_app]
  show (B ++ [s])[B.length]? = _
  exact get_last0
theorem P0 {Y : Store} : (A ++ t :: Y).set A.length c = A ++ c :: Y := set_app (i := 0)
theorem P2 : (A ++ t :: b :: (B ++ [s])).set (A.length + (B.length + 2)) c = A ++ t :: b :: (B ++ [c]) := by
  rw [set_app]
  show A ++ t :: b :: (B ++ [s]).set B.length c = _
  rw [set_last0]
end
theorem w_sAug {i : Nat} {op : Op2} {e : XE} {x : PV} {env : LW.Env} {S : Store} {QS : Fl × LW.Env → Store → Prop} (h : env[i]? = some (some x)) (k : Post (e env S) fun y S => Post (op x y S) fun z S => QS (.nx, env.set i (some z)) S) : Post (sAug i op e env S) QS := by
  unfold sAug
  rw [h]
  refine Post.bind.mpr (k.mono fun y S k => Post.bind.mpr (k.mono fun z S k => Post.ok.mpr k))
theorem w_addI {i j : Int} {S : Store} {Q : PV → Store → Prop} : Post (oAddI (.int i) (.int j) S) Q ↔ Q (.int (i + j)) S := Post.ok
theorem take_ivs {xs : List Nat} {i x : Nat} (h : xs[i]? = some x) : ivs (xs.take i) ++ [.int (x : Int)] = ivs (xs.take (i + 1)) := by
  rw [take_next h]
  unfold ivs
  rw [List.map_append]
  rfl
theorem take_flat {bl : List (List Row)} {i : Nat} {b : List Row} (h : bl[i]? = some b) : (bl.take (i + 1)).flatten = (bl.take i).flatten ++ b := by
  rw [take_next h, List.flatten_append]
  simp
set_option maxHeartbeats 4000000 in
theorem saved_rows_spec (A : Store) (hA : LowS A) {x : PV} {sv : List Save} (hx : IsSv x sv) (hl : sv.length ≤ 100) (rows : List Row) (hr : rows.length ≤ 1000) (ht : ∀ r ∈ rows, r.To rows.length) : Post (m_saved_rows [.tup (rows.map Row.pv), x] A) fun v S' => v = .tup ((savedRows sv rows).map Row.pv) ∧ S' = A := by
  have hw := about_len sv (-1)
  have hbl : (blocks sv 0 rows).flatten.length ≤ 1000 * 201 := by
    have h1 := flat_len (n := 201) fun b hb => Nat.le_trans (block_len (sv := sv) (rows := rows) hb) (by omega)
    rw [blocks_len] at h1
    omega
  have hti : ∀ i, ((blocks sv 0 rows).take i).flatten.length ≤ 1000 * 201 := fun i => by
    have e : (blocks sv 0 rows).flatten = ((blocks sv 0 rows).take i).flatten ++ ((blocks sv 0 rows).drop i).flatten := by rw [← List.flatten_append, List.take_append_drop]
    have := congrArg List.length e
    rw [List.length_append] at this
    omega
  unfold m_saved_rows
  refine w_fnP rfl ?_
  ((repeat sizeOf_list_dec) <;> (try dsimp only))
  refine (boxes_about_spec _ hx (by omega) (-1)).mono ?_
  rintro _ S1 ⟨rfl, e⟩
  obtain rfl := e.symm
  ((repeat sizeOf_list_dec) <;> (try dsimp only))
  refine (pushes_of_spec _ _ (by omega)).mono ?_
  rintro _ _ ⟨rfl, rfl⟩
  ((repeat sizeOf_list_dec) <;> (try dsimp only))
  refine (blocks_of_spec _ hx hl rows hr).mono ?_
  rintro _ _ ⟨rfl, B, rfl⟩
  have e0 : (A ++ [Cell.lst ((pushes (about sv (-1))).map Row.pv)]) ++ Cell.lst ((blocks sv 0 rows).map blockV) :: B = A ++ Cell.lst ((pushes (about sv (-1))).map Row.pv) :: Cell.lst ((blocks sv 0 rows).map blockV) :: B := by
    rw [List.append_assoc]
    rfl
  rw [e0, len1]
  ((repeat sizeOf_list_dec) <;> (try dsimp only))
  have e1 : (A ++ Cell.lst ((pushes (about sv (-1))).map Row.pv) :: Cell.lst ((blocks sv 0 rows).map blockV) :: B).length = A.length + (B.length + 2) := by
    rw [List.length_append]
    rfl
  have e2 : (A ++ Cell.lst ((pushes (about sv (-1))).map Row.pv) :: Cell.lst ((blocks sv 0 rows).map blockV) :: B) ++ [Cell.lst []] = A ++ Cell.lst ((pushes (about sv (-1))).map Row.pv) :: Cell.lst ((blocks sv 0 rows).map blockV) :: (B ++ [Cell.lst []]) := by
    rw [List.append_assoc]
    rfl
  rw [e1, e2]
  refine (w_len (seq_at0 G0)).mpr ?_
  ((repeat sizeOf_list_dec) <;> (try dsimp only))
  rw [List.length_map]
  have hpl : (pushes (about sv (-1))).length = (about sv (-1)).length := List.length_map ..
  rw [hpl]
  refine for_go (all := (blocks sv 0 rows).map blockV) (fun i env S => ∃ (x6 x7 : Option PV), i ≤ rows.length ∧ S = A ++ Cell.lst ((pushes (about sv (-1))).map Row.pv) :: Cell.lst ((blocks sv 0 rows).map blockV) :: (B ++ [Cell.lst (ivs ((stOf sv rows).take i))]) ∧ env = [some (.tup (rows.map Row.pv)), some x, some (.loc A.length), some (.loc (A.length + 1)), some (.loc (A.length + (B.length + 2))), some (.int (((about sv (-1)).length + ((blocks sv 0 rows).take i).flatten.length : Nat) : Int)), x6, x7]) (seq_at0 G1) ⟨none, none, Nat.zero_le _, rfl, rfl⟩ ?_ ?_
  · rintro i env S y ⟨x6, x7, hi, rfl, rfl⟩ hy
    refine ⟨seq_at0 G1, ?_⟩
    rw [List.getElem?_map] at hy
    cases hh : (blocks sv 0 rows)[i]? with
    | none => rw [hh] at hy; cases hy
    | some b =>
      rw [hh] at hy
      cases hy
      have hlt := (List.getElem?_eq_some_iff.mp hh).1
      have hst : (stOf sv rows)[i]? = some ((about sv (-1)).length + ((blocks sv 0 rows).take i).flatten.length) := starts_get _ _ _ hlt
      rw [blocks_len] at hlt
      ((repeat sizeOf_list_dec) <;> (try dsimp only))
      refine ⟨_, _, rfl, G2, ?_⟩
      ((repeat sizeOf_list_dec) <;> (try dsimp only))
      refine (w_mAppend G2 (by
        unfold ivs
        rw [List.length_map, List.length_take]
        exact Nat.lt_of_le_of_lt (show _ ≤ 1000 by omega) (by decide))).mpr ?_
      rw [P2, take_ivs hst]
      ((repeat sizeOf_list_dec) <;> (try dsimp only))
      refine w_sAug rfl ?_
      ((repeat sizeOf_list_dec) <;> (try dsimp only))
      refine w_addI.mpr ?_
      refine ⟨some (blockV b), x7, hlt, rfl, ?_⟩
      rw [take_flat hh, List.length_append, List.length_map]
      rw [show (((about sv (-1)).length + ((blocks sv 0 rows).take i).flatten.length : Nat) : Int) + (b.length : Int) = (((about sv (-1)).length + (((blocks sv 0 rows).take i).flatten.length + b.length) : Nat) : Int) by omega]
      rfl
  · rintro env S ⟨x6, x7, hi, rfl, rfl⟩
    refine ⟨seq_at0 G1, ?_⟩
    rw [List.length_map, blocks_len, List.take_of_length_le (Nat.le_of_eq (st_len sv rows))]
    ((repeat sizeOf_list_dec) <;> (try dsimp only))
    refine for_go (all := (blocks sv 0 rows).map blockV) (fun i env S => ∃ (x5 x6 x7 : Option PV), i ≤ rows.length ∧ S = A ++ Cell.lst ((pushes (about sv (-1)) ++ (((blocks sv 0 rows).take i).map fun b => b.map (ledRow (stOf sv rows))).flatten).map Row.pv) :: Cell.lst ((blocks sv 0 rows).map blockV) :: (B ++ [Cell.lst (ivs (stOf sv rows))]) ∧ env = [some (.tup (rows.map Row.pv)), some x, some (.loc A.length), some (.loc (A.length + 1)), some (.loc (A.length + (B.length + 2))), x5, x6, x7]) (seq_at0 G1) ⟨_, _, _, Nat.zero_le _, by simp, rfl⟩ ?_ ?_
    · rintro i env S y ⟨x5, x6, x7, hi, rfl, rfl⟩ hy
      refine ⟨seq_at0 G1, ?_⟩
      rw [List.getElem?_map] at hy
      cases hh : (blocks sv 0 rows)[i]? with
      | none => rw [hh] at hy; cases hy
      | some b =>
        rw [hh] at hy
        cases hy
        have hlt := (List.getElem?_eq_some_iff.mp hh).1
        rw [blocks_len] at hlt
        have hm := List.mem_of_getElem? hh
        have hb := block_len hm
        ((repeat sizeOf_list_dec) <;> (try dsimp only))
        refine ⟨_, _, rfl, G0, ?_⟩
        ((repeat sizeOf_list_dec) <;> (try dsimp only))
        refine lc_vals (enc := Row.pv) (fun r => (ledRow (stOf sv rows) r).pv) (by rfl) (by omega) (fun r hrb => ?_) ?_
        · ((repeat sizeOf_list_dec) <;> (try dsimp only))
          refine (led_anew_spec _ (stOf sv rows) _ G2 r ?_).mono ?_
          · rw [st_len]
            exact block_to ht hm r hrb
          · rintro _ _ ⟨rfl, rfl⟩
            exact ⟨rfl, rfl⟩
        · have hfl : (((blocks sv 0 rows).take i).map fun b => b.map (ledRow (stOf sv rows))).flatten.length = ((blocks sv 0 rows).take i).flatten.length := by
            rw [← List.map_flatten, List.length_map]
          have h3 := hti i
          refine (w_mExtend G0 rfl (by
            rw [List.length_map, List.length_map, List.length_append, hfl, hpl]
            exact Nat.le_trans (show _ ≤ 300000 by omega) (by decide))).mpr ?_
          rw [P0]
          ((repeat sizeOf_list_dec) <;> (try dsimp only))
          refine ⟨_, _, _, hlt, ?_, rfl⟩
          have e9 : (((blocks sv 0 rows).take (i + 1)).map fun b => b.map (ledRow (stOf sv rows))).flatten = (((blocks sv 0 rows).take i).map fun b => b.map (ledRow (stOf sv rows))).flatten ++ b.map (ledRow (stOf sv rows)) := by
            rw [take_next hh]
            simp
          rw [e9]
          simp only [List.map_append, List.map_map, List.append_assoc]
          rfl
    · rintro env S ⟨x5, x6, x7, hi, rfl, rfl⟩
      refine ⟨seq_at0 G1, ?_⟩
      rw [List.length_map, List.take_of_length_le (Nat.le_refl _)]
      ((repeat sizeOf_list_dec) <;> (try dsimp only))
      refine (w_tuple (seq_at0 G0)).mpr ?_
      ((repeat sizeOf_list_dec) <;> (try dsimp only))
      refine (leave_drop hA (by simp) ?_).mpr ⟨rfl, rfl⟩
      unfold out1
      simp only
      rw [if_pos (Rows.low _ _)]
      rfl
end

/-! PureLa -/
/-! PureLa: states of a routine: what their rows do to them, how they break the pact. -/
section
open PySem L2
inductive Mk where
  | good | loose | own (b : _root_.Fin 6)
  deriving DecidableEq
def numS (i : Int) : Str := (toString i : String)
def Mk.str : Mk → Str
  | .good => "good"
  | .loose => "loose"
  | .own b => numS (b.val : Int)
def Mk.pv (m : Mk) : PV := .str m.str
def allMk : List Mk := [.good, .loose, .own 0, .own 1, .own 2, .own 3, .own 4, .own 5]
theorem Mk.mem (m : Mk) : m ∈ allMk := by
  rcases m with _ | _ | ⟨b, hb⟩
  · decide
  · decide
  · match b, hb with
    | 0, _ => exact List.mem_of_getElem? (i := 2) rfl
    | 1, _ => exact List.mem_of_getElem? (i := 3) rfl
    | 2, _ => exact List.mem_of_getElem? (i := 4) rfl
    | 3, _ => exact List.mem_of_getElem? (i := 5) rfl
    | 4, _ => exact List.mem_of_getElem? (i := 6) rfl
    | 5, _ => exact List.mem_of_getElem? (i := 7) rfl
theorem Mk.injB : (allMk.all fun a => allMk.all fun b => !decide (a.str = b.str) || decide (a = b)) = true := by decide +kernel
theorem Mk.inj {a b : Mk} (h : a.str = b.str) : a = b := by
  have := List.all_eq_true.mp (List.all_eq_true.mp Mk.injB a a.mem) b b.mem
  rw [decide_eq_true h] at this
  simpa using this
theorem Mk.okB : (allMk.all fun a => PyData.strOk a.str) = true := by decide +kernel
theorem Mk.strOk (a : Mk) : PyData.strOk a.str = true := List.all_eq_true.mp Mk.okB a a.mem
def marks (ms : List Mk) : List PV := ms.map Mk.pv
structure Sg where
  row : Nat
  bx : List Mk
  pile : List Mk
  deriving DecidableEq
def Sg.pv (s : Sg) : PV := .tup [.int s.row, .tup (marks s.bx), .tup (marks s.pile)]
theorem marks_inj : ∀ {a b : List Mk}, marks a = marks b → a = b
  | [], [], _ => rfl
  | [], _ :: _, h => by cases h
  | _ :: _, [], h => by cases h
  | x :: a, y :: b, h => by
    have h : Mk.pv x :: marks a = Mk.pv y :: marks b := h
    injection h with h1 h2
    injection h1 with h1
    rw [Mk.inj h1, marks_inj h2]
theorem Sg.inj {a b : Sg} (h : a.pv = b.pv) : a = b := by
  obtain ⟨r, x, p⟩ := a
  obtain ⟨r', x', p'⟩ := b
  unfold Sg.pv at h
  injection h with h
  injection h with h1 h
  injection h with h2 h
  injection h with h3 _
  injection h1 with h1
  injection h2 with h2
  injection h3 with h3
  have q1 : r = r' := Int.ofNat.inj h1
  have q2 : x = x' := marks_inj h2
  have q3 : p = p' := marks_inj h3
  rw [q1, q2, q3]
theorem marks_len (ms : List Mk) : (marks ms).length = ms.length := List.length_map ..
theorem marks_at {ms : List Mk} {b : Nat} (h : b < ms.length) : atI (marks ms) (b : Int) = some (ms.getD b .loose).pv := by
  have : ms[b]? = some (ms.getD b .loose) := by rw [List.getD_eq_getElem?_getD, List.getElem?_eq_getElem h]; rfl
  exact atI_map this
theorem marks_keys (d : Nat) (ms : List Mk) : (marks ms).all (keyD d) = true := List.all_eq_true.mpr fun x hx => by
  obtain ⟨m, _, rfl⟩ := List.mem_map.mp hx
  cases d <;> rfl
theorem Sg.key (s : Sg) : isKey s.pv = true := by
  show (keyD 7 (.int s.row) && (keyD 7 (.tup (marks s.bx)) && (keyD 7 (.tup (marks s.pile)) && true))) = true
  have h1 : keyD 7 (.tup (marks s.bx)) = true := marks_keys 6 _
  have h2 : keyD 7 (.tup (marks s.pile)) = true := marks_keys 6 _
  rw [h1, h2]
  rfl
theorem marks_low (n : Nat) (ms : List Mk) : ∀ x ∈ marks ms, LW.low n x = true := fun x hx => by
  obtain ⟨m, _, rfl⟩ := List.mem_map.mp hx
  exact low_str
theorem Sg.low (n : Nat) (s : Sg) : LW.low n s.pv = true := low_tup fun x hx => by
  simp only [List.mem_cons, List.not_mem_nil, or_false] at hx
  rcases hx with rfl | rfl | rfl
  · exact low_int
  · exact low_tup (marks_low n _)
  · exact low_tup (marks_low n _)
/-- what the box b has that its caller has in it -/
def fig (b : Nat) : Mk := .own (_root_.Fin.ofNat 6 b)
theorem fig_str {b : Nat} (h : b < 6) : (fig b).str = numS (b : Int) := by
  unfold fig Mk.str
  simp only [_root_.Fin.ofNat]
  rw [Nat.mod_eq_of_lt h]
abbrev Flt : Type := Str × Int
def unfit (bx : List Mk) (carries : Bool) : List Nat → Option Flt
  | [] => none
  | b :: r => if bx.getD b .loose = .loose then some ("loose", (b : Int)) else if bx.getD b .loose ≠ .good ∧ carries = false then some ("caller", (b : Int)) else unfit bx carries r
def lostK (bx : List Mk) : List Nat → Option Flt
  | [] => none
  | b :: r => if bx.getD b .loose = fig b then lostK bx r else some ("kept", (b : Int))
def Row.looks (hc : Nat → House) : Row → List Nat
  | .move _ b => [b]
  | .add _ b c => [b, c]
  | .take _ b c => [b, c]
  | .push b => [b]
  | .say b => [b]
  | .zero b _ => [b]
  | .call k => (hc k).ins
  | _ => []
def Row.carries : Row → Bool
  | .move _ _ => true
  | .push _ => true
  | _ => false
/-- how a state breaks the pact by its row -/
def Sg.brk (h : House) (hc : Nat → House) (s : Sg) (row : Row) : Option Flt := match row with
  | .back => if 0 < s.pile.length then some ("pile", -1) else match lostK s.bx h.kept with
    | some f => some f
    | none => unfit s.bx false [h.out]
  | row => match unfit s.bx row.carries (row.looks hc) with
    | some f => some f
    | none => match row with
      | .push b => if s.pile.length = 8 then some ("deep", (b : Int)) else none
      | .pop b => if s.pile.length = 0 then some ("pile", (b : Int)) else none
      | _ => none
def behind (h : House) (bx : List Mk) : List Mk := ((List.range 6).map fun b => if h.kept.contains b then bx.getD b .loose else .loose).set h.out .good
def Sg.boxes (hc : Nat → House) (s : Sg) : Row → List Mk
  | .put b _ => s.bx.set b .good
  | .add b _ _ => s.bx.set b .good
  | .take b _ _ => s.bx.set b .good
  | .move a b => s.bx.set a (s.bx.getD b .loose)
  | .pop b => s.bx.set b (s.pile.getLastD .loose)
  | .call k => behind (hc k) s.bx
  | _ => s.bx
def Sg.piled (s : Sg) : Row → List Mk
  | .push b => s.pile ++ [s.bx.getD b .loose]
  | .pop _ => s.pile.dropLast
  | _ => s.pile
def Row.goals (at_ : Nat) : Row → List Nat
  | .back => []
  | .go t => [t]
  | .zero _ t => if t = at_ + 1 then [t] else if t < at_ + 1 then [t, at_ + 1] else [at_ + 1, t]
  | _ => [at_ + 1]
def Sg.nexts (hc : Nat → House) (s : Sg) (row : Row) : List Sg := (row.goals s.row).map fun t => ⟨t, s.boxes hc row, s.piled row⟩
/-- a state's row is there, its boxes are six -/
structure Sg.At (r : Routine) (s : Sg) (row : Row) : Prop where
  at_ : r.rows[s.row]? = some row
  six : s.bx.length = 6
  deep : s.pile.length ≤ 8
def optF : Option Flt → PV
  | none => .non
  | some f => .tup [.str f.1, .int f.2]
def hof (p : Prog) (k : Nat) : House := match p.routines[k]? with
  | some r => p.houses.getD r.house ⟨[], 0, []⟩
  | none => ⟨[], 0, []⟩
theorem hof_eq {p : Prog} {k : Nat} {r : Routine} {h : House} (hr : p.routines[k]? = some r) (hh : p.houses[r.house]? = some h) : hof p k = h := by
  unfold hof
  rw [hr]
  simp only []
  rw [List.getD_eq_getElem?_getD, hh]
  rfl
theorem hof_some {p : Prog} (hp : p.Ok) {k : Nat} (hk : k < p.routines.length) : ∃ r, p.routines[k]? = some r ∧ p.houses[r.house]? = some (hof p k) ∧ (hof p k).Ok := by
  have hr := hp.routines p.routines[k] (List.getElem_mem hk)
  have e := hof_eq (List.getElem?_eq_getElem hk) (List.getElem?_eq_getElem hr.house)
  exact ⟨_, List.getElem?_eq_getElem hk, by rw [e]; exact List.getElem?_eq_getElem hr.house, by rw [e]; exact hp.houses _ (List.getElem_mem hr.house)⟩
end

/-! PureLi1 -/
/-! PureLi1: check_number. -/
section
open PySem L2
theorem check_number_spec (S : Store) (p : Prog) (i : Nat) (hi : i < p.routines.length) : Post (m_check_number [p.pv, .int i] S) fun v S' => v = .non ∧ S' = S := by
  unfold m_check_number
  refine w_fnP rfl ?_
  ((repeat sizeOf_list_dec) <;> (try dsimp only))
  rw [List.length_map]
  refine (is_below_spec _ _ _).mono ?_
  rintro _ _ ⟨rfl, rfl⟩
  rw [decide_eq_true (by omega)]
  ((repeat sizeOf_list_dec) <;> (try dsimp only))
  exact (leave_same rfl).mpr ⟨rfl, rfl⟩
end

/-! PureSy -/
/-! PureSy: what saves there can be; put_in. -/
section
open PySem L2
def toldIn (p : Prog) (i : Nat) (r : Routine) (row : Int) : Option Nat := if row = -1 then some (hof p i).out else if 0 ≤ row ∧ row < (r.rows.length : Int) then match r.rows[row.toNat]? with
  | some (.call c) => some (hof p c).out
  | _ => none
  else none
def optN : Option Nat → PV
  | none => .non
  | some n => .int (n : Int)
def Row.callB : Row → Option Nat
  | .call c => some c
  | _ => none
theorem call_word (r : Row) : ∃ w vs, r.pv = .tup (.str w :: vs) ∧ PyData.strOk w = true ∧ decide (w = ("call" : Str)) = r.callB.isSome := by
  cases r <;> (refine ⟨_, _, rfl, by decide +kernel, ?_⟩; first | (show _ = false; decide +kernel) | (show _ = true; decide +kernel))
theorem rows_at {r : Routine} {row : Int} (h : 0 ≤ row ∧ row < (r.rows.length : Int)) : ∃ x, r.rows[row.toNat]? = some x ∧ atI (r.rows.map Row.pv) row = some x.pv := by
  obtain ⟨n, rfl⟩ : ∃ n : Nat, row = n := ⟨row.toNat, by omega⟩
  have hn : n < r.rows.length := by omega
  exact ⟨r.rows[n], List.getElem?_eq_getElem hn, atI_map (List.getElem?_eq_getElem hn)⟩
theorem told_in_spec (S : Store) (p : Prog) (hp : p.Ok) (i : Nat) (r : Routine) (hr : p.routines[i]? = some r) (row : Int) : Post (m_told_in [p.pv, .int i, .int row] S) fun v S' => v = optN (toldIn p i r row) ∧ S' = S := by
  obtain ⟨r2, hr2, hh, hk⟩ := hof_some hp (List.getElem?_eq_some_iff.mp hr).1
  rw [hr] at hr2
  obtain rfl := Option.some.inj hr2
  unfold m_told_in
  refine w_fnP rfl ?_
  ((repeat sizeOf_list_dec) <;> (try dsimp only))
  by_cases h1 : row = -1
  · rw [beq_iff_eq.mpr h1]
    ((repeat sizeOf_list_dec) <;> (try dsimp only))
    refine (house_of_spec _ p i r _ hr hh).mono ?_
    rintro _ S1 ⟨rfl, e⟩
    obtain rfl := e.symm
    unfold House.pv
    ((repeat sizeOf_list_dec) <;> (try dsimp only))
    refine (leave_same rfl).mpr ⟨?_, rfl⟩
    unfold toldIn
    rw [if_pos h1]
    rfl
  · rw [beq_eq_false_iff_ne.mpr h1]
    ((repeat sizeOf_list_dec) <;> (try dsimp only))
    refine (rows_of_spec _ p i r hr).mono ?_
    rintro _ S1 ⟨rfl, e⟩
    obtain rfl := e.symm
    ((repeat sizeOf_list_dec) <;> (try dsimp only))
    rw [List.length_map]
    refine (is_below_spec _ _ _).mono ?_
    rintro _ S1 ⟨rfl, e⟩
    obtain rfl := e.symm
    by_cases h2 : 0 ≤ row ∧ row < (r.rows.length : Int)
    · rw [decide_eq_true h2]
      obtain ⟨x, hx1, hx2⟩ := rows_at h2
      obtain ⟨w, vs, hw, hok, hc⟩ := call_word x
      ((repeat sizeOf_list_dec) <;> (try dsimp only))
      refine (w_ix rfl hx2).mpr ?_
      rw [hw]
      ((repeat sizeOf_list_dec) <;> (try dsimp only))
      refine (w_neS hok (by decide +kernel)).mpr ?_
      rw [hc]
      cases hq : x.callB with
      | none =>
        rw [show (!(none : Option Nat).isSome) = true from rfl]
        ((repeat sizeOf_list_dec) <;> (try dsimp only))
        refine (leave_same rfl).mpr ⟨?_, rfl⟩
        unfold toldIn
        rw [if_neg h1, if_pos h2, hx1]
        cases x <;> first | rfl | (cases hq; done)
      | some c =>
        have hxc : x = .call c := by
          cases x <;> first | (cases hq; done) | (cases hq; rfl)
        subst hxc
        cases hw
        have hc' : c < p.routines.length := ((hp.routines r (List.mem_of_getElem? hr)).rows _ (List.mem_of_getElem? hx1) : (Row.call c).Ok _ _)
        obtain ⟨r2, hr2, hh2, _⟩ := hof_some hp hc'
        rw [show (!(some c).isSome) = false from rfl]
        ((repeat sizeOf_list_dec) <;> (try dsimp only))
        refine (w_ix rfl hx2).mpr ?_
        rw [show (Row.call c).pv = .tup [.str "call", .int c] from rfl]
        ((repeat sizeOf_list_dec) <;> (try dsimp only))
        refine (house_of_spec _ p c r2 _ hr2 hh2).mono ?_
        rintro _ S1 ⟨rfl, e⟩
        obtain rfl := e.symm
        unfold House.pv
        ((repeat sizeOf_list_dec) <;> (try dsimp only))
        refine (leave_same rfl).mpr ⟨?_, rfl⟩
        unfold toldIn
        rw [if_neg h1, if_pos h2, hx1]
        rfl
    · rw [decide_eq_false h2]
      ((repeat sizeOf_list_dec) <;> (try dsimp only))
      refine (leave_same rfl).mpr ⟨?_, rfl⟩
      unfold toldIn
      rw [if_neg h1, if_neg h2]
      rfl
def isSv (p : Prog) (i : Nat) (r : Routine) (q : Int × Int) : Bool := match toldIn p i r q.1 with
  | some o => decide (0 ≤ q.2 ∧ q.2 < 6) && !(q.2 == (o : Int))
  | none => false
theorem is_save_spec (S : Store) (p : Prog) (hp : p.Ok) (i : Nat) (r : Routine) (hr : p.routines[i]? = some r) (q : Int × Int) : Post (m_is_save [p.pv, .int i, pvP q] S) fun v S' => v = .bl (isSv p i r q) ∧ S' = S := by
  unfold m_is_save pvP
  refine w_fnP rfl ?_
  ((repeat sizeOf_list_dec) <;> (try dsimp only))
  refine (is_tuple_of_spec _ _ _ _).mono ?_
  rintro _ S1 ⟨rfl, e⟩
  obtain rfl := e.symm
  rw [show decide ((2 : Int) ≤ (([PV.int q.1, PV.int q.2].length : Nat) : Int) ∧ (([PV.int q.1, PV.int q.2].length : Nat) : Int) ≤ 2) = true from rfl]
  ((repeat sizeOf_list_dec) <;> (try dsimp only))
  refine (told_in_spec _ p hp i r hr q.1).mono ?_
  rintro _ S1 ⟨rfl, e⟩
  obtain rfl := e.symm
  ((repeat sizeOf_list_dec) <;> (try dsimp only))
  unfold isSv
  cases ht : toldIn p i r q.1 with
  | none =>
    refine (w_notNv (k := true) rfl).mpr ?_
    ((repeat sizeOf_list_dec) <;> (try dsimp only))
    exact (leave_same rfl).mpr ⟨rfl, rfl⟩
  | some o =>
    refine (w_notNv (k := false) rfl).mpr ?_
    ((repeat sizeOf_list_dec) <;> (try dsimp only))
    refine (is_below_spec _ _ _).mono ?_
    rintro _ S1 ⟨rfl, e⟩
    obtain rfl := e.symm
    by_cases h : 0 ≤ q.2 ∧ q.2 < 6
    · rw [decide_eq_true h]
      unfold optN
      ((repeat sizeOf_list_dec) <;> (try dsimp only))
      exact (leave_same rfl).mpr ⟨rfl, rfl⟩
    · rw [decide_eq_false h]
      ((repeat sizeOf_list_dec) <;> (try dsimp only))
      exact (leave_same rfl).mpr ⟨rfl, rfl⟩
theorem is_save_no (S : Store) (p : Prog) (i : Nat) (xs : List PV) (h : xs.length ≠ 2) : Post (m_is_save [p.pv, .int i, .tup xs] S) fun v S' => v = .bl false ∧ S' = S := by
  unfold m_is_save
  refine w_fnP rfl ?_
  ((repeat sizeOf_list_dec) <;> (try dsimp only))
  refine (is_tuple_of_spec _ _ _ _).mono ?_
  rintro _ S1 ⟨rfl, e⟩
  obtain rfl := e.symm
  rw [decide_eq_false (by omega)]
  ((repeat sizeOf_list_dec) <;> (try dsimp only))
  exact (leave_same rfl).mpr ⟨rfl, rfl⟩
def ltP (a b : Int × Int) : Bool := lexI [a.1, a.2] [b.1, b.2]
def rises : List (Int × Int) → Bool
  | a :: b :: r => ltP a b && rises (b :: r)
  | _ => true
theorem w_ltP {a b : Int × Int} {S : Store} {Q : PV → Store → Prop} : Post (oLtT (pvP a) (pvP b) S) Q ↔ Q (.bl (ltP a b)) S := Post.ok
def pairP (x : PV) : Bool := match x with
  | .tup [.tup [.int a, .int b], .tup [.int c, .int d]] => ltP (a, b) (c, d)
  | _ => false
theorem rises_pairs : ∀ ps : List (Int × Int), (pairs (ps.map pvP) ((ps.map pvP).drop 1)).all pairP = rises ps
  | [] => rfl
  | [a] => rfl
  | a :: b :: r => by
    have ih := rises_pairs (b :: r)
    show (ltP a b && (pairs ((b :: r).map pvP) (((b :: r).map pvP).drop 1)).all pairP) = (ltP a b && rises (b :: r))
    rw [ih]
/-- what may be handed in as a save -/
def SvLike (x : PV) : Prop := (∃ q, x = pvP q) ∨ ∃ ys, x = .tup ys ∧ ys.length ≠ 2
def qP (p : Prog) (i : Nat) (r : Routine) (x : PV) : Bool := match x with
  | .tup [.int a, .int b] => isSv p i r (a, b)
  | _ => false
theorem is_save_like (S : Store) (p : Prog) (hp : p.Ok) (i : Nat) (r : Routine) (hr : p.routines[i]? = some r) {x : PV} (h : SvLike x) : Post (m_is_save [p.pv, .int i, x] S) fun v S' => v = .bl (qP p i r x) ∧ S' = S := by
  rcases h with ⟨q, rfl⟩ | ⟨ys, rfl, hy⟩
  · exact is_save_spec S p hp i r hr q
  · have e : qP p i r (.tup ys) = false := by
      unfold qP
      split
      · rename_i h
        cases h
        exact absurd rfl hy
      · rfl
    rw [e]
    exact is_save_no S p i ys hy
theorem qP_pairs (p : Prog) (i : Nat) (r : Routine) (ps : List (Int × Int)) : (ps.map pvP).all (qP p i r) = ps.all (isSv p i r) := by
  rw [List.all_map]
  rfl
theorem drop1 (xs : List PV) : cut xs (some 1) none = xs.drop 1 := cut_drop xs 1
theorem check_saves_ok (S : Store) (p : Prog) (hp : p.Ok) (i : Nat) (r : Routine) (hr : p.routines[i]? = some r) (ps : List (Int × Int)) (hl : ps.length ≤ 100) (hq : ps.all (isSv p i r) = true) (hs : rises ps = true) : Post (m_check_saves [p.pv, .int i, .ls (ps.map pvP)] S) fun v S' => v = .non ∧ S' = S := by
  unfold m_check_saves
  refine w_fnP rfl ?_
  ((repeat sizeOf_list_dec) <;> (try dsimp only))
  refine lc_all (all := ps.map pvP) (by rfl) (by rw [List.length_map]; omega) (qP p i r) (fun x hx => ?_) ?_
  · obtain ⟨q, _, rfl⟩ := List.mem_map.mp hx
    ((repeat sizeOf_list_dec) <;> (try dsimp only))
    refine ⟨by trivial, ?_⟩
    ((repeat sizeOf_list_dec) <;> (try dsimp only))
    exact is_save_like _ p hp i r hr (.inl ⟨q, rfl⟩)
  · ((repeat sizeOf_list_dec) <;> (try dsimp only))
    refine w_all.mpr ?_
    rw [qP_pairs, hq]
    ((repeat sizeOf_list_dec) <;> (try dsimp only))
    rw [drop1]
    refine lc_all (all := pairs (ps.map pvP) ((ps.map pvP).drop 1)) (by rfl) (by rw [pairs_length, List.length_map]; omega) pairP (fun x hx => ?_) ?_
    · obtain ⟨j, hj⟩ := List.getElem?_of_mem hx
      obtain ⟨a, b, ha, hb, rfl⟩ := pairs_at hj
      obtain ⟨u, _, rfl⟩ := List.mem_map.mp (List.mem_of_getElem? ha)
      obtain ⟨v, _, rfl⟩ := List.mem_map.mp (List.mem_of_mem_drop (List.mem_of_getElem? hb))
      refine (w_gTp (xs := [pvP u, pvP v]) (by rfl) (by rfl)).mpr ?_
      ((repeat sizeOf_list_dec) <;> (try dsimp only))
      refine ⟨by trivial, ?_⟩
      ((repeat sizeOf_list_dec) <;> (try dsimp only))
      exact w_ltP.mpr ⟨rfl, rfl⟩
    · ((repeat sizeOf_list_dec) <;> (try dsimp only))
      refine w_all.mpr ?_
      rw [rises_pairs, hs]
      ((repeat sizeOf_list_dec) <;> (try dsimp only))
      exact (leave_same rfl).mpr ⟨rfl, rfl⟩
theorem check_saves_no (S : Store) (p : Prog) (hp : p.Ok) (i : Nat) (r : Routine) (hr : p.routines[i]? = some r) (xs : List PV) (hl : xs.length ≤ 100) (hx : ∀ x ∈ xs, SvLike x) (h : xs.all (qP p i r) = false ∨ ∃ ps, xs = ps.map pvP ∧ rises ps = false) : PostX (m_check_saves [p.pv, .int i, .ls xs] S) fun e S' => e = ⟨"BadSaves", []⟩ ∧ S' = S := by
  have hi6 : i < 6 := Nat.lt_of_lt_of_le (List.getElem?_eq_some_iff.mp hr).1 hp.r6
  unfold m_check_saves
  refine x_fnP rfl ?_
  by_cases ha : xs.all (qP p i r) = false
  · refine x_seq0 (x_if ?_)
    ((repeat sizeOf_list_dec) <;> (try dsimp only))
    refine lc_all (all := xs) (by rfl) (by omega) (qP p i r) (fun x hxm => ?_) ?_
    · ((repeat sizeOf_list_dec) <;> (try dsimp only))
      refine ⟨by trivial, ?_⟩
      ((repeat sizeOf_list_dec) <;> (try dsimp only))
      exact is_save_like _ p hp i r hr (hx x hxm)
    · ((repeat sizeOf_list_dec) <;> (try dsimp only))
      refine w_all.mpr ?_
      rw [ha]
      ((repeat sizeOf_list_dec) <;> (try dsimp only))
      refine x_raise (x_join (jp_c (jp_f ?_ (by decide)) (by decide)))
      ((repeat sizeOf_list_dec) <;> (try dsimp only))
      exact ⟨_, rfl, by omega, jp_nil ⟨by trivial, by trivial⟩⟩
  · obtain ⟨ps, rfl, hps⟩ := h.resolve_left ha
    have ha : (ps.map pvP).all (qP p i r) = true := by simpa using ha
    refine x_seq1 ?_
    ((repeat sizeOf_list_dec) <;> (try dsimp only))
    refine lc_all (all := ps.map pvP) (by rfl) (by omega) (qP p i r) (fun x hxm => ?_) ?_
    · ((repeat sizeOf_list_dec) <;> (try dsimp only))
      refine ⟨by trivial, ?_⟩
      ((repeat sizeOf_list_dec) <;> (try dsimp only))
      exact is_save_like _ p hp i r hr (hx x hxm)
    · ((repeat sizeOf_list_dec) <;> (try dsimp only))
      refine w_all.mpr ?_
      rw [ha]
      ((repeat sizeOf_list_dec) <;> (try dsimp only))
      refine ⟨by trivial, x_if ?_⟩
      ((repeat sizeOf_list_dec) <;> (try dsimp only))
      rw [drop1]
      refine lc_all (all := pairs (ps.map pvP) ((ps.map pvP).drop 1)) (by rfl) (by rw [pairs_length]; omega) pairP (fun x hx => ?_) ?_
      · obtain ⟨j, hj⟩ := List.getElem?_of_mem hx
        obtain ⟨a, b, ha, hb, rfl⟩ := pairs_at hj
        obtain ⟨u, _, rfl⟩ := List.mem_map.mp (List.mem_of_getElem? ha)
        obtain ⟨v, _, rfl⟩ := List.mem_map.mp (List.mem_of_mem_drop (List.mem_of_getElem? hb))
        refine (w_gTp (xs := [pvP u, pvP v]) (by rfl) (by rfl)).mpr ?_
        ((repeat sizeOf_list_dec) <;> (try dsimp only))
        refine ⟨by trivial, ?_⟩
        ((repeat sizeOf_list_dec) <;> (try dsimp only))
        exact w_ltP.mpr ⟨rfl, rfl⟩
      · ((repeat sizeOf_list_dec) <;> (try dsimp only))
        refine w_all.mpr ?_
        rw [rises_pairs, hps]
        ((repeat sizeOf_list_dec) <;> (try dsimp only))
        refine x_raise ?_
        ((repeat sizeOf_list_dec) <;> (try dsimp only))
        exact ⟨by trivial, by trivial⟩
/-- a program with other rows in a routine, as it stands -/
def progV (p : Prog) (i : Nat) (r : Routine) (rows : List Row) : PV := .tup [.tup (p.houses.map House.pv), .tup ((p.routines.map Routine.pv).set i (.tup [.int r.house, .tup (rows.map Row.pv)]))]
theorem with_rows_spec (S : Store) (p : Prog) (hp : p.Ok) (i : Nat) (r : Routine) (hr : p.routines[i]? = some r) (rows : List Row) : Post (m_with_rows [p.pv, .int i, .tup (rows.map Row.pv)] S) fun v S' => v = progV p i r rows ∧ S' = S := by
  have hi := (List.getElem?_eq_some_iff.mp hr).1
  have h6 := hp.r6
  unfold m_with_rows
  refine w_fnP rfl ?_
  unfold Prog.pv
  ((repeat sizeOf_list_dec) <;> (try dsimp only))
  refine (w_ix rfl (atI_map hr)).mpr ?_
  unfold Routine.pv
  ((repeat sizeOf_list_dec) <;> (try dsimp only))
  refine w_aStar.mpr ?_
  ((repeat sizeOf_list_dec) <;> (try dsimp only))
  rw [cut_take]
  refine ⟨_, rfl, ?_⟩
  ((repeat sizeOf_list_dec) <;> (try dsimp only))
  refine w_aStar.mpr ?_
  ((repeat sizeOf_list_dec) <;> (try dsimp only))
  rw [show ((i : Int) + 1) = ((i + 1 : Nat) : Int) from rfl, cut_drop]
  refine ⟨_, rfl, ?_⟩
  ((repeat sizeOf_list_dec) <;> (try dsimp only))
  refine (w_tupN (by
    simp only [List.length_append, List.length_take, List.length_cons, List.length_drop, List.length_map, List.length_nil]
    exact Nat.le_trans (show _ ≤ 20 by omega) (by decide))).mpr ?_
  ((repeat sizeOf_list_dec) <;> (try dsimp only))
  refine (leave_same rfl).mpr ⟨?_, rfl⟩
  unfold progV
  rw [List.set_eq_take_append_cons_drop, if_pos (by rw [List.length_map]; exact hi), List.append_nil]
  rfl
/-- what comes of saves that can be put in -/
structure SvOk (p : Prog) (i : Nat) (r : Routine) (sv : List Save) : Prop where
  few : sv.length ≤ 100
  ok : (sv.map fun s => (s.1, (s.2 : Int))).all (isSv p i r) = true
  rise : rises (sv.map fun s => (s.1, (s.2 : Int))) = true
theorem svP_eq (sv : List Save) : sv.map svP = (sv.map fun s => (s.1, (s.2 : Int))).map pvP := by
  rw [List.map_map]
  rfl
theorem put_in_spec (S : Store) (hS : LowS S) (p : Prog) (hp : p.Ok) (i : Nat) (r : Routine) (hr : p.routines[i]? = some r) (sv : List Save) (h : SvOk p i r sv) (hlen : (savedRows sv r.rows).length ≤ 32) : Post (m_put_in [p.pv, .int i, .ls (sv.map svP)] S) fun v S' => v = progV p i r (savedRows sv r.rows) ∧ S' = S := by
  have hro := hp.routines r (List.mem_of_getElem? hr)
  have hl := hro.len
  unfold m_put_in
  refine w_fnP rfl ?_
  ((repeat sizeOf_list_dec) <;> (try dsimp only))
  refine (check_program_spec _ hS p hp).mono ?_
  rintro _ S1 ⟨rfl, e⟩
  obtain rfl := e.symm
  ((repeat sizeOf_list_dec) <;> (try dsimp only))
  refine (check_number_spec _ p i (List.getElem?_eq_some_iff.mp hr).1).mono ?_
  rintro _ S1 ⟨rfl, e⟩
  obtain rfl := e.symm
  ((repeat sizeOf_list_dec) <;> (try dsimp only))
  have h3 := check_saves_ok S p hp i r hr _ (by rw [List.length_map]; exact h.few) h.ok h.rise
  rw [← svP_eq] at h3
  refine h3.mono ?_
  rintro _ S1 ⟨rfl, e⟩
  obtain rfl := e.symm
  ((repeat sizeOf_list_dec) <;> (try dsimp only))
  refine (rows_of_spec _ p i r hr).mono ?_
  rintro _ S1 ⟨rfl, e⟩
  obtain rfl := e.symm
  ((repeat sizeOf_list_dec) <;> (try dsimp only))
  refine (saved_rows_spec _ hS (IsSv.ls sv) h.few r.rows (by omega) fun x hx => (hro.rows x hx).to).mono ?_
  rintro _ S1 ⟨rfl, e⟩
  obtain rfl := e.symm
  ((repeat sizeOf_list_dec) <;> (try dsimp only))
  rw [List.length_map, decide_eq_false (by omega)]
  ((repeat sizeOf_list_dec) <;> (try dsimp only))
  refine (with_rows_spec _ p hp i r hr _).mono ?_
  rintro _ S1 ⟨rfl, e⟩
  obtain rfl := e.symm
  exact (leave_same rfl).mpr ⟨rfl, rfl⟩
theorem put_in_much (S : Store) (hS : LowS S) (p : Prog) (hp : p.Ok) (i : Nat) (r : Routine) (hr : p.routines[i]? = some r) (sv : List Save) (h : SvOk p i r sv) (hlen : 32 < (savedRows sv r.rows).length) : PostX (m_put_in [p.pv, .int i, .ls (sv.map svP)] S) fun e S' => e = ⟨"BadSaves", []⟩ ∧ S' = S := by
  have hro := hp.routines r (List.mem_of_getElem? hr)
  have hl := hro.len
  unfold m_put_in
  refine x_fnP rfl (x_seq1 ?_)
  ((repeat sizeOf_list_dec) <;> (try dsimp only))
  refine (check_program_spec _ hS p hp).mono ?_
  rintro _ S1 ⟨rfl, e⟩
  obtain rfl := e.symm
  ((repeat sizeOf_list_dec) <;> (try dsimp only))
  refine ⟨by trivial, x_seq1 ?_⟩
  ((repeat sizeOf_list_dec) <;> (try dsimp only))
  refine (check_number_spec _ p i (List.getElem?_eq_some_iff.mp hr).1).mono ?_
  rintro _ S1 ⟨rfl, e⟩
  obtain rfl := e.symm
  ((repeat sizeOf_list_dec) <;> (try dsimp only))
  refine ⟨by trivial, x_seq1 ?_⟩
  ((repeat sizeOf_list_dec) <;> (try dsimp only))
  have h3 := check_saves_ok S p hp i r hr _ (by rw [List.length_map]; exact h.few) h.ok h.rise
  rw [← svP_eq] at h3
  refine h3.mono ?_
  rintro _ S1 ⟨rfl, e⟩
  obtain rfl := e.symm
  ((repeat sizeOf_list_dec) <;> (try dsimp only))
  refine ⟨by trivial, x_seq1 ?_⟩
  ((repeat sizeOf_list_dec) <;> (try dsimp only))
  refine (rows_of_spec _ p i r hr).mono ?_
  rintro _ S1 ⟨rfl, e⟩
  obtain rfl := e.symm
  ((repeat sizeOf_list_dec) <;> (try dsimp only))
  refine (saved_rows_spec _ hS (IsSv.ls sv) h.few r.rows (by omega) fun x hx => (hro.rows x hx).to).mono ?_
  rintro _ S1 ⟨rfl, e⟩
  obtain rfl := e.symm
  ((repeat sizeOf_list_dec) <;> (try dsimp only))
  refine ⟨by trivial, x_seq0 (x_if ?_)⟩
  ((repeat sizeOf_list_dec) <;> (try dsimp only))
  rw [List.length_map, decide_eq_true (by omega)]
  ((repeat sizeOf_list_dec) <;> (try dsimp only))
  refine x_raise (x_join (jp_c (jp_f ?_ (by decide)) (by decide)))
  ((repeat sizeOf_list_dec) <;> (try dsimp only))
  exact ⟨_, rfl, by decide, jp_c (jp_nil ⟨by trivial, by trivial⟩) (by decide)⟩
theorem put_in_no (S : Store) (hS : LowS S) (p : Prog) (hp : p.Ok) (i : Nat) (r : Routine) (hr : p.routines[i]? = some r) (xs : List PV) (hl : xs.length ≤ 100) (hx : ∀ x ∈ xs, SvLike x) (h : xs.all (qP p i r) = false ∨ ∃ ps, xs = ps.map pvP ∧ rises ps = false) : PostX (m_put_in [p.pv, .int i, .ls xs] S) fun e S' => e = ⟨"BadSaves", []⟩ ∧ S' = S := by
  unfold m_put_in
  refine x_fnP rfl (x_seq1 ?_)
  ((repeat sizeOf_list_dec) <;> (try dsimp only))
  refine (check_program_spec _ hS p hp).mono ?_
  rintro _ S1 ⟨rfl, e⟩
  obtain rfl := e.symm
  ((repeat sizeOf_list_dec) <;> (try dsimp only))
  refine ⟨by trivial, x_seq1 ?_⟩
  ((repeat sizeOf_list_dec) <;> (try dsimp only))
  refine (check_number_spec _ p i (List.getElem?_eq_some_iff.mp hr).1).mono ?_
  rintro _ S1 ⟨rfl, e⟩
  obtain rfl := e.symm
  ((repeat sizeOf_list_dec) <;> (try dsimp only))
  refine ⟨by trivial, x_seq0 (x_drop (x_call ?_))⟩
  ((repeat sizeOf_list_dec) <;> (try dsimp only))
  exact check_saves_no _ p hp i r hr xs hl hx h
end

/-! PureSz -/
/-! PureSz: the law's own saves, and its own put_in. -/
section
open PySem L2
theorem w_sortSetP {m : XE} {env : LW.Env} {S : Store} {Q : PV → Store → Prop} (h : Post (m env S) fun x S => ∃ ps, (lstOf S x).bind prs = some ps ∧ ps.length < 60 ∧ Q (.ls ((setP ps).map pvP)) S) : Post (eSortSetP m env S) Q := by
  unfold eSortSetP
  refine Post.bind.mpr (h.mono ?_)
  rintro x S ⟨ps, h1, h2, h3⟩
  rw [h1]
  simp only
  rw [if_pos h2]
  exact Post.ok.mpr h3
theorem prs_map : ∀ ps : List (Int × Int), prs (ps.map pvP) = some ps
  | [] => rfl
  | q :: ps => by
    show (prs (ps.map pvP)).map ((q.1, q.2) :: ·) = _
    rw [prs_map ps]
    rfl
theorem ltP_of {a b : Int × Int} (h : leP a b = true) (hne : a ≠ b) : ltP a b = true := by
  have h := leP_iff.mp h
  show (if a.1 = b.1 then (if a.2 = b.2 then false else decide (a.2 < b.2)) else decide (a.1 < b.1)) = true
  split
  · rename_i e
    have h2 : a.2 ≤ b.2 := by omega
    have h3 : a.2 ≠ b.2 := fun z => hne (Prod.ext e z)
    rw [if_neg h3]
    exact decide_eq_true (by omega)
  · exact decide_eq_true (by omega)
theorem rises_of : ∀ {l : List (Int × Int)}, (l.Pairwise fun a b => leP a b = true) → l.Nodup → rises l = true
  | [], _, _ => rfl
  | [a], _, _ => rfl
  | a :: b :: r, h, nd => by
    obtain ⟨h1, h2⟩ := List.pairwise_cons.mp h
    obtain ⟨n1, n2⟩ := List.nodup_cons.mp nd
    show (ltP a b && rises (b :: r)) = true
    rw [rises_of h2 n2, ltP_of (h1 b List.mem_cons_self) (fun z => n1 (by rw [z]; exact List.mem_cons_self))]
    rfl
theorem dedP_len : ∀ l : List (Int × Int), (dedP l).length ≤ l.length
  | [] => Nat.le_refl _
  | a :: r => by
    have := dedP_len r
    unfold dedP
    split <;> simp only [List.length_cons] <;> omega
theorem setP_len (l : List (Int × Int)) : (setP l).length ≤ l.length := by
  unfold setP
  rw [List.length_mergeSort]
  exact dedP_len l
theorem leave_any {g0 g : Hs} {rest more : Store} {v w : PV} {Q : PV → Store → Prop} (hlow : LowR rest) (hm : more ≠ []) (ho : out1 (g.st rest).length (g.st rest ++ more) v = some w) : Post (leave (g0.st rest).length v (g.st (rest ++ more))) Q ↔ Q w (g.st rest) := leave_drop (hlow.st g) hm ho
/-- a place of a save: the whole, or a call -/
def Place (r : Routine) (a : Int) : Prop := a = -1 ∨ ∃ (k c : Nat), a = k ∧ r.rows[k]? = some (.call c)
theorem place_told {p : Prog} {i : Nat} {r : Routine} {a : Int} (h : Place r a) : ∃ o, toldIn p i r a = some o ∧ ((a = -1 ∧ o = (hof p i).out) ∨ ∃ (k c : Nat), a = k ∧ r.rows[k]? = some (.call c) ∧ o = (hof p c).out) := by
  rcases h with rfl | ⟨k, c, rfl, hk⟩
  · exact ⟨_, rfl, .inl ⟨rfl, rfl⟩⟩
  · have hlt := (List.getElem?_eq_some_iff.mp hk).1
    refine ⟨(hof p c).out, ?_, .inr ⟨k, c, rfl, hk, rfl⟩⟩
    unfold toldIn
    rw [if_neg (by omega), if_pos (by omega), Int.toNat_natCast, hk]
structure SvIn (p : Prog) (i : Nat) (r : Routine) (q : Int × Int) : Prop where
  place : Place r q.1
  sv : isSv p i r q = true
theorem SvIn.box {p : Prog} {i : Nat} {r : Routine} {q : Int × Int} (h : SvIn p i r q) : 0 ≤ q.2 ∧ q.2 < 6 := by
  have := h.sv
  unfold isSv at this
  split at this
  · rw [Bool.and_eq_true] at this
    exact of_decide_eq_true this.1
  · cases this
theorem saves_spec (g : Hs) (rest : Store) (hlow : LowR rest) (hg : g.Ok) (p : Prog) (hp : p.Ok) (i : Nat) (r : Routine) (hr : p.routines[i]? = some r) (most : Nat) (hm : most ≤ 50) :
    Post (m_saves [.loc 1, p.pv, .int i, .int most] (g.st rest)) fun v S => ∃ (sv : List Save) (g' : Hs), v = .ls (sv.map svP) ∧ SvOk p i r sv ∧ (∀ s ∈ sv, Place r s.1) ∧ sv.length ≤ most ∧ S = g'.st rest ∧ g'.Ok := by
  have hro := hp.routines r (List.mem_of_getElem? hr)
  have hlen := hro.len
  obtain ⟨r2, hr2, hh, hk⟩ := hof_some hp (List.getElem?_eq_some_iff.mp hr).1
  rw [hr] at hr2
  obtain rfl := Option.some.inj hr2
  unfold m_saves
  refine w_fnP rfl ?_
  unfold Prog.pv
  ((repeat sizeOf_list_dec) <;> (try dsimp only))
  refine (w_ix rfl (atI_map hr)).mpr ?_
  unfold Routine.pv
  ((repeat sizeOf_list_dec) <;> (try dsimp only))
  rw [List.length_map]
  refine (w_rng (by omega)).mpr ?_
  rw [Int.toNat_natCast]
  refine lc_some (by omega) (by exact Nat.le_of_ble_eq_true rfl) (fun k => match r.rows[k]? with | some x => x.callB.isSome | none => false) (fun k hkl => ?_) fun xs hxs hxm => ?_
  · obtain ⟨w, vs, hw, hok, hc⟩ := call_word r.rows[k]
    have hat : atI (r.rows.map Row.pv) (k : Int) = some (.tup (.str w :: vs)) := by
      rw [atI_map (List.getElem?_eq_getElem hkl), hw]
    ((repeat sizeOf_list_dec) <;> (try dsimp only))
    refine (w_ix rfl hat).mpr ?_
    ((repeat sizeOf_list_dec) <;> (try dsimp only))
    refine (w_eqS hok (by decide +kernel)).mpr ?_
    rw [hc, List.getElem?_eq_getElem hkl]
    ((repeat sizeOf_list_dec) <;> (try dsimp only))
    exact ⟨by trivial, by trivial⟩
  have hxl : xs.length ≤ r.rows.length := by
    have h1 : xs.Nodup := hxs.imp fun h => Nat.ne_of_lt h
    have h2 := L2.nat_nodup_len xs (List.range r.rows.length) h1 fun x hx => List.mem_range.mpr ((hxm x).mp hx).1
    rw [List.length_range] at h2
    exact h2
  refine (w_addLL (xs := [.int (-1), .int (-1)]) (ys := ivs xs) (by rw [ivs_length]; exact Nat.le_trans (show 2 + xs.length ≤ 40 by omega) (by decide))).mpr ?_
  generalize hpl : ([.int (-1), .int (-1)] ++ ivs xs : List PV) = places
  have hplen : places.length = 2 + xs.length := by
    rw [← hpl, List.length_append, ivs_length]
    rfl
  have hplace : ∀ a : Int, 0 ≤ a → a < (places.length : Int) → ∃ b, Place r b ∧ atI places a = some (.int b) := fun a h0 h1 => by
    obtain ⟨n, rfl⟩ : ∃ n : Nat, a = n := ⟨a.toNat, by omega⟩
    have hn : n < places.length := by omega
    suffices h : ∃ b, Place r b ∧ places[n]? = some (PV.int b) by
      obtain ⟨b, hb, e⟩ := h
      exact ⟨b, hb, by rw [L2.atI_nat (j := n)]; exact e⟩
    rw [← hpl] at hn ⊢
    match n, hn with
    | 0, _ => exact ⟨-1, .inl rfl, rfl⟩
    | 1, _ => exact ⟨-1, .inl rfl, rfl⟩
    | n + 2, hn =>
      have hn2 : n < xs.length := by
        rw [List.length_append, ivs_length] at hn
        have hn : n + 2 < 2 + xs.length := hn
        omega
      have hx := (hxm xs[n]).mp (List.getElem_mem hn2)
      refine ⟨xs[n], .inr ⟨xs[n], ?_⟩, ?_⟩
      · have h2 := hx.2
        rw [List.getElem?_eq_getElem hx.1] at h2
        simp only at h2
        cases hq : r.rows[xs[n]].callB with
        | none => rw [hq] at h2; cases h2
        | some c =>
          refine ⟨c, rfl, ?_⟩
          rw [List.getElem?_eq_getElem hx.1]
          cases he : r.rows[xs[n]] <;> rw [he] at hq <;> first | (cases hq; rfl) | (cases hq; done)
      · show (ivs xs)[n]? = _
        unfold ivs
        rw [List.getElem?_map, List.getElem?_eq_getElem hn2]
        rfl
  ((repeat sizeOf_list_dec) <;> (try dsimp only))
  rw [Hs.app]
  ((refine Post.mono (next_spec _ _ _ hg ?hn0 ?hn1) ?_); (case hn0 => omega); (case hn1 => omega))
  rintro _ _ ⟨many, g1, rfl, rfl, hg1, many0, many1⟩
  obtain ⟨n, rfl⟩ : ∃ n : Nat, many = n := ⟨many.toNat, by omega⟩
  ((repeat sizeOf_list_dec) <;> (try dsimp only))
  rw [Int.toNat_natCast]
  have hsl : rest.length + 2 = (g.st rest).length := rfl
  refine for_go (all := upto 0 n) (fun k env S => ∃ (g : Hs) (ps : List (Int × Int)) (x8 x9 x10 : Option PV), Hs.Ok g ∧ k ≤ n ∧ ps.length = k ∧ (∀ q ∈ ps, SvIn p i r q) ∧ S = g.st (rest ++ [.lst (ps.map pvP)]) ∧ env = [some (.loc 1), some (.tup [.tup (p.houses.map House.pv), .tup (p.routines.map Routine.pv)]), some (.int i), some (.int most), some (.tup (r.rows.map Row.pv)), some (.ls places), none, some (.loc (rest.length + 2)), x8, x9, x10]) (by rfl) ⟨g1, [], _, _, _, hg1, Nat.zero_le _, rfl, fun _ h => absurd h List.not_mem_nil, rfl, rfl⟩ ?_ ?_
  · rintro k env S x ⟨g, ps, x8, x9, x10, hg, hk1, hpsl, hps, rfl, rfl⟩ hx
    refine ⟨by rfl, ?_⟩
    have hkn : k < n := by
      have := (List.getElem?_eq_some_iff.mp hx).1
      rw [upto_length] at this
      exact this
    ((repeat sizeOf_list_dec) <;> (try dsimp only))
    ((refine Post.mono (next_spec _ _ _ hg ?hn0 ?hn1) ?_); (case hn0 => omega); (case hn1 => omega))
    rintro _ _ ⟨j, g2, rfl, rfl, hg2, j0, j1⟩
    obtain ⟨a, ha, hat⟩ := hplace j j0 (by omega)
    refine (w_ix rfl hat).mpr ?_
    ((repeat sizeOf_list_dec) <;> (try dsimp only))
    obtain ⟨o, ho1, ho2⟩ := place_told (p := p) (i := i) ha
    have hcell : ∀ g : Hs, (g.st (rest ++ [Cell.lst (ps.map pvP)]))[rest.length + 2]? = some (.lst (ps.map pvP)) := fun g => Hs.at0 (A := rest) (B := [])
    have hbox : o < 6 := by
      rcases ho2 with ⟨_, rfl⟩ | ⟨kk, c, _, hkc, rfl⟩
      · exact hk.out
      · have hc' : c < p.routines.length := ((hp.routines r (List.mem_of_getElem? hr)).rows _ (List.mem_of_getElem? hkc) : (Row.call c).Ok _ _)
        obtain ⟨rc, hrc, hhc, hkk⟩ := hof_some hp hc'
        exact hkk.out
    have tail : ∀ (d : Int) (g3 : Hs), Hs.Ok g3 → 0 ≤ d → d < 5 → SvIn p i r (a, ((o : Int) + 1 + d) % 6) := fun d g3 _ d0 d1 => by
      refine ⟨ha, ?_⟩
      unfold isSv
      rw [ho1]
      have h1 : 0 ≤ ((o : Int) + 1 + d) % 6 ∧ ((o : Int) + 1 + d) % 6 < 6 := ⟨Int.emod_nonneg _ (by decide), Int.emod_lt_of_pos _ (by decide)⟩
      have h2 : ((o : Int) + 1 + d) % 6 ≠ (o : Int) := by omega
      simp only
      rw [decide_eq_true h1, beq_eq_false_iff_ne.mpr h2]
      rfl
    rcases ho2 with ⟨rfl, rfl⟩ | ⟨kk, c, rfl, hkc, rfl⟩
    · rw [show decide ((-1 : Int) < 0) = true from rfl]
      ((repeat sizeOf_list_dec) <;> (try dsimp only))
      refine (w_ix rfl (atI_map hr)).mpr ?_
      unfold Routine.pv
      ((repeat sizeOf_list_dec) <;> (try dsimp only))
      refine (w_ix rfl (atI_map hh)).mpr ?_
      unfold House.pv
      ((repeat sizeOf_list_dec) <;> (try dsimp only))
      refine ⟨_, _, rfl, hcell g2, ?_⟩
      ((repeat sizeOf_list_dec) <;> (try dsimp only))
      ((refine Post.mono (next_spec _ _ _ hg2 ?hn0 ?hn1) ?_); (case hn0 => omega); (case hn1 => omega))
      rintro _ _ ⟨d, g3, rfl, rfl, hg3, d0, d1⟩
      ((repeat sizeOf_list_dec) <;> (try dsimp only))
      refine (w_mAppend (hcell g3) (by rw [List.length_map, hpsl]; exact Nat.lt_of_le_of_lt (show k ≤ 100 by omega) (by decide))).mpr ?_
      rw [Hs.set0 (A := rest) (B := [])]
      ((repeat sizeOf_list_dec) <;> (try dsimp only))
      refine ⟨g3, ps ++ [(-1, ((hof p i).out + 1 + d) % 6)], _, _, _, hg3, hkn, by rw [List.length_append, hpsl]; rfl, fun q hq => ?_, by rw [List.map_append]; rfl, rfl⟩
      rcases List.mem_append.mp hq with hq | hq
      · exact hps q hq
      · rw [List.mem_singleton.mp hq]
        exact tail d g3 hg3 d0 d1
    · have hc' : c < p.routines.length := ((hp.routines r (List.mem_of_getElem? hr)).rows _ (List.mem_of_getElem? hkc) : (Row.call c).Ok _ _)
      obtain ⟨rc, hrc, hhc, _⟩ := hof_some hp hc'
      rw [decide_eq_false (show ¬ (kk : Int) < 0 by omega)]
      ((repeat sizeOf_list_dec) <;> (try dsimp only))
      refine (w_ix rfl (atI_map hkc)).mpr ?_
      rw [show (Row.call c).pv = .tup [.str "call", .int c] from rfl]
      ((repeat sizeOf_list_dec) <;> (try dsimp only))
      refine (w_ix rfl (atI_map hrc)).mpr ?_
      unfold Routine.pv
      ((repeat sizeOf_list_dec) <;> (try dsimp only))
      refine (w_ix rfl (atI_map hhc)).mpr ?_
      unfold House.pv
      ((repeat sizeOf_list_dec) <;> (try dsimp only))
      refine ⟨_, _, rfl, hcell g2, ?_⟩
      ((repeat sizeOf_list_dec) <;> (try dsimp only))
      ((refine Post.mono (next_spec _ _ _ hg2 ?hn0 ?hn1) ?_); (case hn0 => omega); (case hn1 => omega))
      rintro _ _ ⟨d, g3, rfl, rfl, hg3, d0, d1⟩
      ((repeat sizeOf_list_dec) <;> (try dsimp only))
      refine (w_mAppend (hcell g3) (by rw [List.length_map, hpsl]; exact Nat.lt_of_le_of_lt (show k ≤ 100 by omega) (by decide))).mpr ?_
      rw [Hs.set0 (A := rest) (B := [])]
      ((repeat sizeOf_list_dec) <;> (try dsimp only))
      refine ⟨g3, ps ++ [((kk : Int), ((hof p c).out + 1 + d) % 6)], _, _, _, hg3, hkn, by rw [List.length_append, hpsl]; rfl, fun q hq => ?_, by rw [List.map_append]; rfl, rfl⟩
      rcases List.mem_append.mp hq with hq | hq
      · exact hps q hq
      · rw [List.mem_singleton.mp hq]
        exact tail d g3 hg3 d0 d1
  · rintro env S ⟨g, ps, x8, x9, x10, hg, hk1, hpsl, hps, rfl, rfl⟩
    refine ⟨by rfl, ?_⟩
    rw [upto_length] at hpsl
    ((repeat sizeOf_list_dec) <;> (try dsimp only))
    refine w_sortSetP ?_
    ((repeat sizeOf_list_dec) <;> (try dsimp only))
    refine ⟨ps, ?_, by omega, ?_⟩
    · rw [show lstOf (g.st (rest ++ [Cell.lst (ps.map pvP)])) (.loc (rest.length + 2)) = some (ps.map pvP) from lstOf_at (Hs.at0 (A := rest) (B := []))]
      exact prs_map ps
    · have hin : ∀ q ∈ setP ps, SvIn p i r q := fun q hq => hps q ((mem_setP q ps).mp hq)
      have hsv : (setP ps).map pvP = ((setP ps).map fun q => ((q.1, q.2.toNat) : Save)).map svP := by
        rw [List.map_map]
        refine List.map_congr_left fun q hq => ?_
        have := (hin q hq).box
        show PV.tup [.int q.1, .int q.2] = .tup [.int q.1, .int (q.2.toNat : Int)]
        rw [Int.toNat_of_nonneg this.1]
      have hback : ((setP ps).map fun q => ((q.1, q.2.toNat) : Save)).map (fun s => (s.1, (s.2 : Int))) = setP ps := by
        rw [List.map_map]
        have : ∀ q ∈ setP ps, ((fun s : Save => (s.1, (s.2 : Int))) ∘ fun q : Int × Int => ((q.1, q.2.toNat) : Save)) q = q := fun q hq => by
          show (q.1, ((q.2.toNat : Nat) : Int)) = q
          rw [Int.toNat_of_nonneg (hin q hq).box.1]
        exact (List.map_congr_left this).trans (List.map_id' _)
      refine (leave_any (g := g) (g0 := _) (w := .ls ((setP ps).map pvP)) hlow (by simp) ?_).mpr ?_
      · unfold out1
        simp only
        rw [if_pos]
        exact low_ls fun x hx => by
          obtain ⟨q, _, rfl⟩ := List.mem_map.mp hx
          exact low_tup fun y hy => by
            simp only [List.mem_cons, List.not_mem_nil, or_false] at hy
            rcases hy with rfl | rfl <;> exact low_int
      · have hlen2 : (setP ps).length ≤ ps.length := setP_len ps
        refine ⟨_, g, congrArg PV.ls hsv, ⟨?_, ?_, ?_⟩, fun s hs => ?_, ?_, rfl, hg⟩
        · rw [List.length_map]; omega
        · rw [hback]
          exact List.all_eq_true.mpr fun q hq => (hin q hq).sv
        · rw [hback]
          exact rises_of (setP_sorted ps) (nodup_setP ps)
        · obtain ⟨q, hq, rfl⟩ := List.mem_map.mp hs
          exact (hin q hq).place
        · rw [List.length_map]; omega
theorem row_ints (r : Row) : ∃ w ks, r.pv = .tup (.str w :: ivs ks) ∧ PyData.strOk w = true ∧ decide (w = ("back" : Str)) = r.backB ∧ (r.backB = true → ks = []) := by
  cases r with
  | put a b => exact ⟨"put", [a, b], rfl, by decide +kernel, (by decide +kernel : decide (("put" : Str) = ("back" : Str)) = false), fun h => absurd h (show ¬ (false = true) by decide)⟩
  | move a b => exact ⟨"move", [a, b], rfl, by decide +kernel, (by decide +kernel : decide (("move" : Str) = ("back" : Str)) = false), fun h => absurd h (show ¬ (false = true) by decide)⟩
  | add a b c => exact ⟨"add", [a, b, c], rfl, by decide +kernel, (by decide +kernel : decide (("add" : Str) = ("back" : Str)) = false), fun h => absurd h (show ¬ (false = true) by decide)⟩
  | take a b c => exact ⟨"take", [a, b, c], rfl, by decide +kernel, (by decide +kernel : decide (("take" : Str) = ("back" : Str)) = false), fun h => absurd h (show ¬ (false = true) by decide)⟩
  | push a => exact ⟨"push", [a], rfl, by decide +kernel, (by decide +kernel : decide (("push" : Str) = ("back" : Str)) = false), fun h => absurd h (show ¬ (false = true) by decide)⟩
  | pop a => exact ⟨"pop", [a], rfl, by decide +kernel, (by decide +kernel : decide (("pop" : Str) = ("back" : Str)) = false), fun h => absurd h (show ¬ (false = true) by decide)⟩
  | say a => exact ⟨"say", [a], rfl, by decide +kernel, (by decide +kernel : decide (("say" : Str) = ("back" : Str)) = false), fun h => absurd h (show ¬ (false = true) by decide)⟩
  | zero a b => exact ⟨"zero", [a, b], rfl, by decide +kernel, (by decide +kernel : decide (("zero" : Str) = ("back" : Str)) = false), fun h => absurd h (show ¬ (false = true) by decide)⟩
  | go a => exact ⟨"go", [a], rfl, by decide +kernel, (by decide +kernel : decide (("go" : Str) = ("back" : Str)) = false), fun h => absurd h (show ¬ (false = true) by decide)⟩
  | call a => exact ⟨"call", [a], rfl, by decide +kernel, (by decide +kernel : decide (("call" : Str) = ("back" : Str)) = false), fun h => absurd h (show ¬ (false = true) by decide)⟩
  | back => exact ⟨"back", [], rfl, by decide +kernel, (by decide +kernel : decide (("back" : Str) = ("back" : Str)) = true), fun _ => rfl⟩
theorem plain_intsK (n m : Nat) (S : Store) : ∀ xs : List Nat, ((ivs xs).map (res n S)).all (plain m) = true
  | [] => rfl
  | x :: r => by
    show (plain m (res n S (.int x)) && ((ivs r).map (res n S)).all (plain m)) = true
    rw [plain_intsK n m S r]
    rw [show res n S (.int (x : Int)) = .int x by cases n <;> rfl, show plain m (.int (x : Int)) = true by cases m <;> rfl]
    rfl
theorem w_eqBack {r : Row} {S : Store} {Q : PV → Store → Prop} : Post (oEq r.pv (.tup [.str "back"]) S) Q ↔ Q (.bl r.backB) S := by
  obtain ⟨w, ks, hw, hok, hb, hk⟩ := row_ints r
  rw [hw]
  have h1 : plain 20 (res 20 S (.tup [.str "back"])) = true := by
    show (PyData.strOk ("back" : Str) && true) = true
    decide +kernel
  have h2 : plain 20 (res 20 S (.tup (.str w :: ivs ks))) = true := by
    show (PyData.strOk w && ((ivs ks).map (res 19 S)).all (plain 19)) = true
    rw [hok, plain_intsK]
    rfl
  have h3 : eqv (res 20 S (.tup (.str w :: ivs ks))) (res 20 S (.tup [.str "back"])) = r.backB := by
    show (decide (w = ("back" : Str)) && eqvs ((ivs ks).map (res 19 S)) []) = r.backB
    rw [hb]
    cases hq : r.backB with
    | false => rfl
    | true => rw [hk hq]; rfl
  unfold oEq
  rw [if_pos ⟨h2, h1⟩, h3]
  exact Post.ok
def ledE : XE := eIf (bVal (eOp oIn (eOp oIx (eVar 8) (eC (.int 0))) (eTup (aCons (eC (.str "zero")) (aCons (eC (.str "go")) (aNil)))))) (eOp oAdd (eCut (eVar 8) (none) (some (eUn oNeg (eC (.int 1))))) (eTup (aCons (eOp oIx (eVar 11) (eOp oIx (eVar 8) (eUn oNeg (eC (.int 1))))) (aNil)))) (eVar 8)
theorem led_no (S : Store) (st : List Nat) (r : Row) (env : LW.Env) (h8 : env[8]? = some (some r.pv)) (w : Str) (ks : List Nat) (hw : r.pv = .tup (.str w :: ivs ks)) (hq : inSeq (.str w) [.str "zero", .str "go"] = false) (he : ledRow st r = r) : Post (ledE env S) fun v S' => v = (ledRow st r).pv ∧ S' = S := by
  unfold ledE
  refine w_ifE.mpr (w_val.mpr (w_op.mpr (w_op.mpr ((w_var h8).mpr (w_c.mpr ?_)))))
  rw [hw]
  refine (w_ix (xs := .str w :: ivs ks) (i := 0) rfl (L2.atI_nat (j := 0) rfl)).mpr ?_
  ((repeat sizeOf_list_dec) <;> (try dsimp only))
  refine (w_in (xs := [.str "zero", .str "go"]) (by rfl) rfl (by rfl)).mpr ?_
  rw [hq]
  ((repeat sizeOf_list_dec) <;> (try dsimp only))
  refine (w_var h8).mpr ?_
  rw [he]
  exact ⟨by trivial, by trivial⟩
theorem led_law_spec (S : Store) (st : List Nat) (l : Nat) (hl : S[l]? = some (.lst (ivs st))) (r : Row) (hr : r.To st.length) (env : LW.Env) (h8 : env[8]? = some (some r.pv)) (h11 : env[11]? = some (some (.loc l))) : Post (ledE env S) fun v S' => v = (ledRow st r).pv ∧ S' = S := by
  have hseq : seqOf S (.loc l) = some (ivs st) := seq_at0 hl
  cases r with
  | go t =>
    have h8 : env[8]? = some (some (.tup [.str "go", .int t])) := h8
    unfold ledE
    refine w_ifE.mpr (w_val.mpr (w_op.mpr (w_op.mpr ((w_var h8).mpr (w_c.mpr ?_)))))
    ((repeat sizeOf_list_dec) <;> (try dsimp only))
    refine (w_in (xs := [.str "zero", .str "go"]) (by rfl) rfl (by rfl)).mpr ?_
    rw [show inSeq (.str "go") [.str "zero", .str "go"] = true by decide +kernel]
    ((repeat sizeOf_list_dec) <;> (try dsimp only))
    refine (w_var h8).mpr ?_
    ((repeat sizeOf_list_dec) <;> (try dsimp only))
    refine (w_var h11).mpr ?_
    ((repeat sizeOf_list_dec) <;> (try dsimp only))
    refine (w_var h8).mpr ?_
    ((repeat sizeOf_list_dec) <;> (try dsimp only))
    refine (w_ix rfl rfl).mpr ?_
    refine (w_ix hseq (ivs_ix hr)).mpr ?_
    ((repeat sizeOf_list_dec) <;> (try dsimp only))
    refine (w_addT (xs := [.str "go"]) (ys := [.int (st.getD t 0 : Nat)]) (show 1 + 1 ≤ lim by decide)).mpr ?_
    exact ⟨rfl, rfl⟩
  | zero b t =>
    have h8 : env[8]? = some (some (.tup [.str "zero", .int b, .int t])) := h8
    unfold ledE
    refine w_ifE.mpr (w_val.mpr (w_op.mpr (w_op.mpr ((w_var h8).mpr (w_c.mpr ?_)))))
    ((repeat sizeOf_list_dec) <;> (try dsimp only))
    refine (w_in (xs := [.str "zero", .str "go"]) (by rfl) rfl (by rfl)).mpr ?_
    rw [show inSeq (.str "zero") [.str "zero", .str "go"] = true by decide +kernel]
    ((repeat sizeOf_list_dec) <;> (try dsimp only))
    refine (w_var h8).mpr ?_
    ((repeat sizeOf_list_dec) <;> (try dsimp only))
    refine (w_var h11).mpr ?_
    ((repeat sizeOf_list_dec) <;> (try dsimp only))
    refine (w_var h8).mpr ?_
    ((repeat sizeOf_list_dec) <;> (try dsimp only))
    refine (w_ix rfl rfl).mpr ?_
    refine (w_ix hseq (ivs_ix hr)).mpr ?_
    ((repeat sizeOf_list_dec) <;> (try dsimp only))
    refine (w_addT (xs := [.str "zero", .int b]) (ys := [.int (st.getD t 0 : Nat)]) (show 2 + 1 ≤ lim by decide)).mpr ?_
    exact ⟨rfl, rfl⟩
  | put a b => exact led_no S st _ env h8 "put" [a, b] rfl (by decide +kernel) rfl
  | move a b => exact led_no S st _ env h8 "move" [a, b] rfl (by decide +kernel) rfl
  | add a b c => exact led_no S st _ env h8 "add" [a, b, c] rfl (by decide +kernel) rfl
  | take a b c => exact led_no S st _ env h8 "take" [a, b, c] rfl (by decide +kernel) rfl
  | push a => exact led_no S st _ env h8 "push" [a] rfl (by decide +kernel) rfl
  | pop a => exact led_no S st _ env h8 "pop" [a] rfl (by decide +kernel) rfl
  | say a => exact led_no S st _ env h8 "say" [a] rfl (by decide +kernel) rfl
  | call a => exact led_no S st _ env h8 "call" [a] rfl (by decide +kernel) rfl
  | back => exact led_no S st _ env h8 "back" [] rfl (by decide +kernel) rfl
end

/-! PureTb -/
/-! PureTb: the law's own put_in. -/
section
open PySem L2
theorem progV_low (n : Nat) (p : Prog) (i : Nat) (r : Routine) (rows : List Row) : LW.low n (progV p i r rows) = true := by
  have hp : LW.low n (.tup [.tup (p.houses.map House.pv), .tup (p.routines.map Routine.pv)]) = true := Prog.low n p
  unfold LW.low lows at hp
  rw [Bool.and_eq_true] at hp
  refine low_tup fun x hx => ?_
  simp only [List.mem_cons, List.not_mem_nil, or_false] at hx
  rcases hx with rfl | rfl
  · exact hp.1
  · refine low_tup fun y hy => ?_
    rcases List.mem_or_eq_of_mem_set hy with hy | rfl
    · obtain ⟨q, _, rfl⟩ := List.mem_map.mp hy
      exact Routine.low n q
    · exact low_tup fun z hz => by
        simp only [List.mem_cons, List.not_mem_nil, or_false] at hz
        rcases hz with rfl | rfl
        · exact low_int
        · exact Rows.low _ _
/-- saves that are about the whole or calls -/
theorem about_back {r : Routine} {sv : List Save} (h : ∀ s ∈ sv, Place r s.1) {k : Nat} {row : Row} (hk : r.rows[k]? = some row) (hb : row.backB = true) : about sv k = [] := by
  unfold about
  rw [List.filter_eq_nil_iff.mpr, List.map_nil]
  intro s hs z
  have z : s.1 = (k : Int) := by simpa using z
  rcases h s hs with e | ⟨k', c, e, hc⟩
  · omega
  · have : k' = k := by omega
    subst this
    rw [hk] at hc
    cases hc
    cases hb
theorem blocks_flat_len (sv : List Save) (rows : List Row) (hl : sv.length ≤ 100) (hr : rows.length ≤ 1000) (i : Nat) : ((blocks sv 0 rows).take i).flatten.length ≤ 1000 * 201 := by
  have hbl : (blocks sv 0 rows).flatten.length ≤ 1000 * 201 := by
    have h1 := flat_len (n := 201) fun b hb => Nat.le_trans (block_len (sv := sv) (rows := rows) hb) (by omega)
    rw [blocks_len] at h1
    omega
  have e : (blocks sv 0 rows).flatten = ((blocks sv 0 rows).take i).flatten ++ ((blocks sv 0 rows).drop i).flatten := by rw [← List.flatten_append, List.take_append_drop]
  have := congrArg List.length e
  rw [List.length_append] at this
  omega
/-- what the law has laid out before row k -/
def laid (sv : List Save) (rows : List Row) (k : Nat) : List Row := pushes (about sv (-1)) ++ ((blocks sv 0 rows).take k).flatten
theorem led_pushes (st : List Nat) (bs : List Nat) : (pushes bs).map (ledRow st) = pushes bs := by
  unfold pushes
  rw [List.map_map]
  rfl
theorem laid_led (sv : List Save) (rows : List Row) : (laid sv rows rows.length).map (ledRow (stOf sv rows)) = savedRows sv rows := by
  unfold laid savedRows
  rw [List.take_of_length_le (by rw [blocks_len]; exact Nat.le_refl _), List.map_append, led_pushes, List.map_flatten]
theorem P1 {A Y : Store} {t b c : Cell} : (A ++ t :: b :: Y).set (A.length + 1) c = A ++ t :: c :: Y := set_app (i := 1)
theorem laid_len (sv : List Save) (rows : List Row) (k : Nat) : (laid sv rows k).length = (about sv (-1)).length + ((blocks sv 0 rows).take k).flatten.length := by
  unfold laid pushes
  rw [List.length_append, List.length_map]
theorem laid_next {sv : List Save} {rows : List Row} {k : Nat} {row : Row} (h : rows[k]? = some row) : laid sv rows (k + 1) = laid sv rows k ++ blockOf sv k row := by
  have hb : (blocks sv 0 rows)[k]? = some (blockOf sv k row) := by
    rw [blocks_get, h, Nat.zero_add]
    rfl
  unfold laid
  rw [take_flat hb, List.append_assoc]
theorem block_is {sv : List Save} {k : Nat} {row : Row} (h : row.backB = true → about sv k = []) : blockOf sv k row = ((pushes (about sv k) ++ if row.backB = true then pops (about sv (-1)) else []) ++ [row]) ++ pops (about sv k) := by
  unfold blockOf
  cases hq : row.backB with
  | true =>
    rw [h hq, if_pos rfl, if_pos rfl]
    simp [pushes, pops]
  | false => simp
theorem lc_valsB {α : Type} {enc : α → PV} {it : LW.It} {zs : List α} {env : LW.Env} {S : Store} {QA : List PV → Store → Prop} {v : Nat} {e : XE} (f : α → PV) (ha : it.items S = some (zs.map enc)) (hn : zs.length < lim)
    (he : ∀ z, z ∈ zs → Post (e (env.set v (some (enc z))) S) fun y S' => y = f z ∧ S' = S) (hQ : QA (zs.map f) S) : LcP it (gNm v) bYes e env S QA := by
  refine ⟨zs.map enc, ha, lc_inv (fun i acc S' => i ≤ zs.length ∧ acc = (zs.take i).map f ∧ S' = S) ?_ ?_ _ 0 rfl (Nat.zero_le _) _ _ ⟨Nat.zero_le _, rfl, rfl⟩⟩
  · rintro i acc S' x ⟨hi, rfl, rfl⟩ hx
    refine ⟨ha, ?_⟩
    obtain ⟨z, hz, rfl⟩ : ∃ z : α, zs[i]? = some z ∧ x = enc z := by
      rw [List.getElem?_map] at hx
      cases hh : zs[i]? with
      | none => rw [hh] at hx; cases hx
      | some z => rw [hh] at hx; cases hx; exact ⟨z, rfl, rfl⟩
    have hlt := (List.getElem?_eq_some_iff.mp hz).1
    refine w_gNm.mpr (w_yes.mpr ?_)
    rw [if_pos rfl]
    refine (he z (List.mem_of_getElem? hz)).mono ?_
    rintro y S3 ⟨rfl, rfl⟩
    refine ⟨?_, hlt, by rw [take_next hz, List.map_append]; rfl, rfl⟩
    rw [List.length_map, List.length_take]
    omega
  · rintro acc S' ⟨_, rfl, rfl⟩
    refine ⟨ha, ?_⟩
    rw [List.length_map, List.take_length]
    exact hQ
set_option maxHeartbeats 4000000 in
theorem put_in_law_spec (A : Store) (hA : LowS A) (p : Prog) (hp : p.Ok) (i : Nat) (r : Routine) (hr : p.routines[i]? = some r) (sv : List Save) (hl : sv.length ≤ 100) (hpl : ∀ s ∈ sv, Place r s.1) : Post (m_put_in_ [p.pv, .int i, .ls (sv.map svP)] A) fun v S' => v = progV p i r (savedRows sv r.rows) ∧ S' = A := by
  have hro := hp.routines r (List.mem_of_getElem? hr)
  have hrl := hro.len
  have hi := (List.getElem?_eq_some_iff.mp hr).1
  have h6 := hp.r6
  have hwl := about_len sv (-1)
  unfold m_put_in_
  refine w_fnP rfl ?_
  unfold Prog.pv
  refine w_seq.mpr (w_asg.mpr ?_)
  ((repeat sizeOf_list_dec) <;> (try dsimp only))
  refine (w_ix rfl (atI_map hr)).mpr ?_
  rw [show r.pv = .tup [.int r.house, .tup (r.rows.map Row.pv)] from rfl]
  ((repeat sizeOf_list_dec) <;> (try dsimp only))
  have ab : ∀ (S : Store) (env : LW.Env) (a : Int) (e1 : XE) (QA : List PV → Store → Prop), 9 < env.length → (∀ z : Save, Post (e1 ((env.set 8 (some (.int z.1))).set 9 (some (.int (z.2 : Int)))) S) fun v S' => v = .int a ∧ S' = S) → QA (ivs (about sv a)) S → LcP (.seq (.ls (sv.map svP))) (gTp [gNm 8, gNm 9]) (bVal (eOp oEq (eVar 8) e1)) (eVar 9) env S QA := fun S env a e1 QA hlen h1 hQ => by
    refine lc_gen (enc := svP) (fun s => s.1 == a) (fun s => .int (s.2 : Int)) (by rfl) (by omega) (fun z hz => ?_) ?_
    · have g8 : ((env.set 8 (some (.int z.1))).set 9 (some (.int (z.2 : Int))))[8]? = some (some (.int z.1)) := by
        rw [List.getElem?_set_ne (by decide), List.getElem?_set_self (by omega)]
      have g9 : ((env.set 8 (some (.int z.1))).set 9 (some (.int (z.2 : Int))))[9]? = some (some (.int (z.2 : Int))) := by
        rw [List.getElem?_set_self (by rw [List.length_set]; exact hlen)]
      refine (w_gTp (xs := [.int z.1, .int (z.2 : Int)]) (by rfl) (by rfl)).mpr ?_
      refine w_go1.mpr (w_gNm.mpr (w_go1.mpr (w_gNm.mpr (w_go0.mpr ?_))))
      refine w_val.mpr (w_op.mpr ((w_var g8).mpr ((h1 z).mono ?_)))
      rintro _ S1 ⟨rfl, e⟩
      obtain rfl := e.symm
      refine w_eqI.mpr ?_
      ((repeat sizeOf_list_dec) <;> (try dsimp only))
      refine ⟨by trivial, ?_⟩
      cases (z.1 == a) with
      | true =>
        refine (w_var g9).mpr ?_
        exact ⟨by trivial, by trivial⟩
      | false => ((repeat sizeOf_list_dec) <;> (try dsimp only))
    · have : (sv.filter fun s => s.1 == a).map (fun s => PV.int (s.2 : Int)) = ivs (about sv a) := by
        unfold about ivs
        rw [List.map_map]
        rfl
      rw [this]
      exact hQ
  refine ab _ _ (-1) _ _ (Nat.le_of_ble_eq_true rfl) (fun z => ?_) ?_
  · ((repeat sizeOf_list_dec) <;> (try dsimp only))
    exact ⟨by trivial, by trivial⟩
  ((repeat sizeOf_list_dec) <;> (try dsimp only))
  refine lc_each (fun b => (Row.push b).pv) (by rfl) (by omega) (fun b _ => ?_) ?_
  · ((repeat sizeOf_list_dec) <;> (try dsimp only))
    exact ⟨by trivial, by trivial⟩
  have hmp : (about sv (-1)).map (fun b => (Row.push b).pv) = (laid sv r.rows 0).map Row.pv := by
    unfold laid pushes
    rw [List.take_zero, List.flatten_nil, List.append_nil, List.map_map]
    rfl
  rw [hmp]
  ((repeat sizeOf_list_dec) <;> (try dsimp only))
  rw [len1, List.length_map]
  refine (w_rng (by omega)).mpr ?_
  rw [Int.toNat_natCast]
  have hs0 : (A ++ [Cell.lst ((laid sv r.rows 0).map Row.pv)]) ++ [Cell.lst []] = A ++ Cell.lst ((laid sv r.rows 0).map Row.pv) :: [Cell.lst (ivs ((stOf sv r.rows).take 0))] := by
    rw [List.append_assoc]
    rfl
  rw [hs0]
  refine for_go (all := upto 0 r.rows.length) (fun k env S => ∃ (x12 x13 : Option PV), k ≤ r.rows.length ∧ S = A ++ Cell.lst ((laid sv r.rows k).map Row.pv) :: [Cell.lst (ivs ((stOf sv r.rows).take k))] ∧ env = [some (.tup [.tup (p.houses.map House.pv), .tup (p.routines.map Routine.pv)]), some (.int i), some (.ls (sv.map svP)), some (.tup (p.houses.map House.pv)), some (.tup (p.routines.map Routine.pv)), some (.int r.house), some (.tup (r.rows.map Row.pv)), some (.ls (ivs (about sv (-1)))), none, none, some (.loc A.length), some (.loc (A.length + 1)), x12, x13]) (by rfl) ⟨none, none, Nat.zero_le _, rfl, rfl⟩ ?_ ?_
  · rintro k env S x ⟨x12, x13, hk, rfl, rfl⟩ hx
    refine ⟨by rfl, ?_⟩
    have hkn : k < r.rows.length := by
      have := (List.getElem?_eq_some_iff.mp hx).1
      rw [upto_length] at this
      exact this
    rw [upto_get hkn, Int.zero_add] at hx
    cases hx
    have hrow : r.rows[k]? = some r.rows[k] := List.getElem?_eq_getElem hkn
    have hst : (stOf sv r.rows)[k]? = some (laid sv r.rows k).length := by
      rw [laid_len]
      exact starts_get _ _ _ (by rw [blocks_len]; exact hkn)
    have hll := blocks_flat_len sv r.rows hl (by omega) k
    have hal := about_len sv (k : Int)
    have hlk : (laid sv r.rows k).length ≤ 201100 := by rw [laid_len]; omega
    ((repeat sizeOf_list_dec) <;> (try dsimp only))
    refine ⟨_, _, rfl, G1, ?_⟩
    ((repeat sizeOf_list_dec) <;> (try dsimp only))
    refine (w_len (seq_at0 G0)).mpr ?_
    ((repeat sizeOf_list_dec) <;> (try dsimp only))
    rw [List.length_map]
    refine (w_mAppend G1 (by
      unfold ivs
      rw [List.length_map, List.length_take]
      exact Nat.lt_of_le_of_lt (show _ ≤ 32 by omega) (by decide))).mpr ?_
    rw [P1, take_ivs hst]
    ((repeat sizeOf_list_dec) <;> (try dsimp only))
    refine ab _ _ k _ _ (Nat.le_of_ble_eq_true rfl) (fun z => ?_) ?_
    · ((repeat sizeOf_list_dec) <;> (try dsimp only))
      exact ⟨by trivial, by trivial⟩
    ((repeat sizeOf_list_dec) <;> (try dsimp only))
    refine ⟨_, _, rfl, G0, ?_⟩
    ((repeat sizeOf_list_dec) <;> (try dsimp only))
    refine lc_each (fun b => (Row.push b).pv) (by rfl) (by omega) (fun b _ => ?_) ?_
    · ((repeat sizeOf_list_dec) <;> (try dsimp only))
      exact ⟨by trivial, by trivial⟩
    have hm1 : (about sv k).map (fun b => (Row.push b).pv) = (pushes (about sv k)).map Row.pv := by
      unfold pushes
      rw [List.map_map]
      rfl
    have hm2 : ∀ bs : List Nat, bs.reverse.map (fun b => (Row.pop b).pv) = (pops bs).map Row.pv := fun bs => by
      unfold pops
      rw [List.map_map]
      rfl
    have hpl1 : (pushes (about sv k)).length = (about sv k).length := List.length_map ..
    have hpl2 : ∀ bs : List Nat, (pops bs).length = bs.length := fun bs => by
      unfold pops
      rw [List.length_map, List.length_reverse]
    rw [hm1]
    refine (w_mExtend G0 rfl (by rw [List.length_map, List.length_map, hpl1]; exact Nat.le_trans (show _ ≤ 201300 by omega) (by decide))).mpr ?_
    rw [P0, ← List.map_append]
    refine w_seq.mpr (Post.mono (Q := fun q S => q.1 = .nx ∧ q.2 = [some (.tup [.tup (p.houses.map House.pv), .tup (p.routines.map Routine.pv)]), some (.int i), some (.ls (sv.map svP)), some (.tup (p.houses.map House.pv)), some (.tup (p.routines.map Routine.pv)), some (.int r.house), some (.tup (r.rows.map Row.pv)), some (.ls (ivs (about sv (-1)))), none, none, some (.loc A.length), some (.loc (A.length + 1)), some (.int k), some (.ls (ivs (about sv k)))] ∧ S = A ++ Cell.lst ((laid sv r.rows k ++ (pushes (about sv k) ++ if r.rows[k].backB = true then pops (about sv (-1)) else [])).map Row.pv) :: [Cell.lst (ivs ((stOf sv r.rows).take (k + 1)))]) ?_ ?_)
    · ((repeat sizeOf_list_dec) <;> (try dsimp only))
      refine (w_ix rfl (atI_map hrow)).mpr ?_
      ((repeat sizeOf_list_dec) <;> (try dsimp only))
      refine w_eqBack.mpr ?_
      ((repeat sizeOf_list_dec) <;> (try dsimp only))
      cases hq : r.rows[k].backB with
      | false =>
        ((repeat sizeOf_list_dec) <;> (try dsimp only))
        refine ⟨by trivial, by trivial, ?_⟩
        simp
      | true =>
        ((repeat sizeOf_list_dec) <;> (try dsimp only))
        refine ⟨_, _, rfl, G0, ?_⟩
        ((repeat sizeOf_list_dec) <;> (try dsimp only))
        refine w_rev.mpr ?_
        rw [ivs_rv]
        ((repeat sizeOf_list_dec) <;> (try dsimp only))
        refine lc_each (fun b => (Row.pop b).pv) (by rfl) (by rw [List.length_reverse]; omega) (fun b _ => ?_) ?_
        · ((repeat sizeOf_list_dec) <;> (try dsimp only))
          exact ⟨by trivial, by trivial⟩
        rw [hm2]
        refine (w_mExtend G0 rfl (by rw [List.length_map, List.length_map, hpl2, List.length_append, hpl1]; exact Nat.le_trans (show _ ≤ 201500 by omega) (by decide))).mpr ?_
        rw [P0]
        ((repeat sizeOf_list_dec) <;> (try dsimp only))
        refine ⟨by trivial, by trivial, ?_⟩
        simp
    rintro ⟨fl, env⟩ S ⟨h0, h1, rfl⟩
    have h0 : fl = .nx := h0
    have h1 : env = _ := h1
    subst h0 h1
    generalize hmid : (pushes (about sv k) ++ if r.rows[k].backB = true then pops (about sv (-1)) else []) = mid
    have hml : mid.length ≤ 200 := by
      rw [← hmid, List.length_append, hpl1]
      split
      · rw [hpl2]; omega
      · rw [List.length_nil]; omega
    ((repeat sizeOf_list_dec) <;> (try dsimp only))
    refine ⟨_, _, rfl, G0, ?_⟩
    ((repeat sizeOf_list_dec) <;> (try dsimp only))
    refine (w_ix rfl (atI_map hrow)).mpr ?_
    refine (w_mAppend G0 (by rw [List.length_map, List.length_append]; exact Nat.lt_of_le_of_lt (show _ ≤ 201500 by omega) (by decide))).mpr ?_
    rw [P0]
    ((repeat sizeOf_list_dec) <;> (try dsimp only))
    refine ⟨_, _, rfl, G0, ?_⟩
    ((repeat sizeOf_list_dec) <;> (try dsimp only))
    refine w_rev.mpr ?_
    rw [ivs_rv]
    ((repeat sizeOf_list_dec) <;> (try dsimp only))
    refine lc_each (fun b => (Row.pop b).pv) (by rfl) (by rw [List.length_reverse]; omega) (fun b _ => ?_) ?_
    · ((repeat sizeOf_list_dec) <;> (try dsimp only))
      exact ⟨by trivial, by trivial⟩
    rw [hm2]
    refine (w_mExtend G0 rfl (by rw [List.length_append, List.length_map, List.length_map, hpl2, List.length_append]; exact Nat.le_trans (show _ ≤ 201500 by simp only [List.length_cons, List.length_nil]; omega) (by decide))).mpr ?_
    rw [P0]
    ((repeat sizeOf_list_dec) <;> (try dsimp only))
    refine ⟨_, _, hkn, ?_, rfl⟩
    rw [laid_next hrow, block_is (about_back hpl hrow), hmid]
    simp only [List.map_append, List.append_assoc, List.map_cons, List.map_nil]
  · rintro env S ⟨x12, x13, hk, rfl, rfl⟩
    refine ⟨by rfl, ?_⟩
    rw [upto_length, List.take_of_length_le (Nat.le_of_eq (st_len sv r.rows))]
    ((repeat sizeOf_list_dec) <;> (try dsimp only))
    have hll := blocks_flat_len sv r.rows hl (by omega) r.rows.length
    have hn : (laid sv r.rows r.rows.length).length ≤ 1000 * 201 + 100 := by rw [laid_len]; omega
    generalize hL : laid sv r.rows r.rows.length = L at hn
    have hlb : (savedRows sv r.rows) = L.map (ledRow (stOf sv r.rows)) := by rw [← hL, laid_led]
    rw [hlb]
    have hto : ∀ x ∈ L, x.To (stOf sv r.rows).length := fun x hx => by
      rw [st_len]
      rw [← hL] at hx
      unfold laid at hx
      rcases List.mem_append.mp hx with hx | hx
      · obtain ⟨b, _, rfl⟩ := List.mem_map.mp hx
        exact True.intro
      · obtain ⟨b, hb, hxb⟩ := List.mem_flatten.mp hx
        exact block_to (fun y hy => (hro.rows y hy).to) (List.mem_of_mem_take hb) x hxb
    refine lc_valsB (enc := Row.pv) (fun x => (ledRow (stOf sv r.rows) x).pv) (seq_at0 G0) (Nat.lt_of_le_of_lt hn (by decide)) (fun x hx => ?_) ?_
    · exact led_law_spec _ (stOf sv r.rows) _ G1 x (hto x hx) _ rfl rfl
    rw [show L.map (fun x => (ledRow (stOf sv r.rows) x).pv) = (L.map (ledRow (stOf sv r.rows))).map Row.pv by rw [List.map_map]; rfl]
    ((repeat sizeOf_list_dec) <;> (try dsimp only))
    rw [cut_take]
    refine (w_addT (by
      simp only [List.length_take, List.length_map, List.length_cons, List.length_nil]
      exact Nat.le_trans (show _ ≤ 20 by omega) (by decide))).mpr ?_
    ((repeat sizeOf_list_dec) <;> (try dsimp only))
    rw [show ((i : Int) + 1) = ((i + 1 : Nat) : Int) from rfl, cut_drop]
    refine (w_addT (by
      simp only [List.length_append, List.length_take, List.length_drop, List.length_map, List.length_cons, List.length_nil]
      exact Nat.le_trans (show _ ≤ 20 by omega) (by decide))).mpr ?_
    ((repeat sizeOf_list_dec) <;> (try dsimp only))
    have hv : PV.tup [.tup (p.houses.map House.pv), .tup ((p.routines.map Routine.pv).take i ++ [.tup [.int r.house, .tup ((L.map (ledRow (stOf sv r.rows))).map Row.pv)]] ++ (p.routines.map Routine.pv).drop (i + 1))] = progV p i r (L.map (ledRow (stOf sv r.rows))) := by
      unfold progV
      rw [List.set_eq_take_append_cons_drop, if_pos (by rw [List.length_map]; exact hi)]
      simp
    rw [hv]
    refine (leave_drop hA (by simp) ?_).mpr ⟨rfl, rfl⟩
    unfold out1
    have hlo := progV_low A.length p i r (L.map (ledRow (stOf sv r.rows)))
    unfold progV at hlo ⊢
    simp only
    rw [if_pos hlo]
end

/-! PureLz0 -/
/-! PureZd: the law's measure of likeness; its draws' beginning. -/
section
open PySem L2
theorem w_ffD {A B : Prop} {d : Decidable (false = true)} : (@ite Prop (false = true) d A B) ↔ B := by rw [if_neg Bool.false_ne_true]
theorem w_ttD {A B : Prop} {d : Decidable (true = true)} : (@ite Prop (true = true) d A B) ↔ A := by rw [if_pos rfl]
def isa2R (t u : Ty) (x : PV) (S : Store) : R PV := match isTy S x t, isTy S x u with
  | some k, some j => .ok (.bl (k || j)) S
  | _, _ => .bad
theorem w_isa2 {t u : Ty} {a : XE} {env : LW.Env} {S : Store} {Q : PV → Store → Prop} : Post (eIsa2 t u a env S) Q ↔ Post (a env S) fun x S => Post (isa2R t u x S) Q := by
  unfold eIsa2
  rw [Post.bind]
  exact Iff.rfl
theorem w_isa2T {S : Store} {Q : PV → Store → Prop} {x : PV} {t u : Ty} {j : Bool} (h : isTy S x t = some true) (h2 : isTy S x u = some j) : Post (isa2R t u x S) Q ↔ Q (.bl true) S := by
  unfold isa2R
  rw [h, h2]
  exact Post.ok
theorem w_isa2J {S : Store} {Q : PV → Store → Prop} {x : PV} {t u : Ty} (h : isTy S x t = some false) (h2 : isTy S x u = some true) : Post (isa2R t u x S) Q ↔ Q (.bl true) S := by
  unfold isa2R
  rw [h, h2]
  exact Post.ok
theorem w_isa2N {S : Store} {Q : PV → Store → Prop} {x : PV} {t u : Ty} (h : isTy S x t = some false) (h2 : isTy S x u = some false) : Post (isa2R t u x S) Q ↔ Q (.bl false) S := by
  unfold isa2R
  rw [h, h2]
  exact Post.ok
theorem w_neB {a b : Bool} {S : Store} {Q : PV → Store → Prop} : Post (oNe (.bl a) (.bl b) S) Q ↔ Q (.bl (!(a == b))) S := by
  unfold oNe
  rw [if_pos ⟨rfl, rfl⟩]
  exact Post.ok
theorem w_eqB {a b : Bool} {S : Store} {Q : PV → Store → Prop} : Post (oEq (.bl a) (.bl b) S) Q ↔ Q (.bl (a == b)) S := by
  unfold oEq
  rw [if_pos ⟨rfl, rfl⟩]
  exact Post.ok
/-- [x for x in range(n) if p(x)], p nowhere -/
theorem lc_none {env : LW.Env} {S : Store} {QA : List PV → Store → Prop} {v n : Nat} {t : XB} {e : XE}
    (ht : ∀ i, i < n → Post (t (env.set v (some (.int (i : Int)))) S) fun k S' => k = false ∧ S' = S) (hQ : QA [] S) : LcP (.rng 0 n) (gNm v) t e env S QA := by
  refine ⟨upto 0 n, rfl, lc_inv (fun i acc S' => i ≤ n ∧ acc = [] ∧ S' = S) ?_ ?_ _ 0 rfl (Nat.zero_le _) _ _ ⟨Nat.zero_le _, rfl, rfl⟩⟩
  · rintro i acc S' x ⟨hi, rfl, rfl⟩ hx
    refine ⟨rfl, ?_⟩
    have hlt : i < n := by
      have := (List.getElem?_eq_some_iff.mp hx).1
      rw [upto_length] at this
      exact this
    rw [upto_get hlt] at hx
    cases hx
    refine w_gNm.mpr ?_
    rw [Int.zero_add]
    refine (ht i hlt).mono ?_
    rintro k S2 ⟨rfl, rfl⟩
    rw [if_neg (by decide)]
    exact ⟨hlt, rfl, rfl⟩
  · rintro acc S' ⟨_, rfl, rfl⟩
    exact ⟨rfl, hQ⟩
end
section
open PySem L2
end
local macro_rules | `(tactic| ac_rfl) => `(tactic| (simp only [PV.isNon, Bool.false_eq_true, ↓reduceIte]))
local macro_rules | `(tactic| ac_rfl) => `(tactic| (with_reducible refine w_ttD.mpr ?_))
local macro_rules | `(tactic| ac_rfl) => `(tactic| (with_reducible refine w_ffD.mpr ?_))
local macro_rules | `(tactic| ac_rfl) => `(tactic| sizeOf_list_dec)
local macro_rules | `(tactic| ac_rfl) => `(tactic| ((with_reducible refine (w_isaK (k := ?wx) ?wh).mpr ?_); (case wh => assumption)))
local macro_rules | `(tactic| ac_rfl) => `(tactic| ((with_reducible refine (w_isa2N ?wh ?wi).mpr ?_); (case wh => first | rfl | assumption); (case wi => first | rfl | assumption)))
local macro_rules | `(tactic| ac_rfl) => `(tactic| ((with_reducible refine (w_isa2J ?wh ?wi).mpr ?_); (case wh => first | rfl | assumption); (case wi => first | rfl | assumption)))
local macro_rules | `(tactic| ac_rfl) => `(tactic| ((with_reducible refine (w_isa2T (j := ?wj) ?wh ?wi).mpr ?_); (case wh => first | rfl | assumption); (case wi => first | rfl | assumption)))
local macro_rules | `(tactic| ac_rfl) => `(tactic| (with_reducible refine w_eqB.mpr ?_))
local macro_rules | `(tactic| ac_rfl) => `(tactic| (with_reducible refine w_neB.mpr ?_))
local macro_rules | `(tactic| ac_rfl) => `(tactic| (with_reducible refine w_isa2.mpr ?_))
section
open PySem L2
inductive Alk (S : Store) : Nat → PV → PV → Prop
  | non (n : Nat) : Alk S n .non .non
  | bl (n : Nat) (b : Bool) : Alk S n (.bl b) (.bl b)
  | int (n : Nat) (i : Int) : Alk S n (.int i) (.int i)
  | str (n : Nat) (s : Str) (h : PyData.strOk s = true) : Alk S n (.str s) (.str s)
  | seq (n : Nat) (x y : PV) (xs ys : List PV) (k : Bool) (hx : seqOf S x = some xs) (hy : seqOf S y = some ys) (tx : isTy S x .list = some k) (ty : isTy S y .list = some k) (ux : isTy S x .tuple = some (!k)) (uy : isTy S y .tuple = some (!k))
      (hl : xs.length = ys.length) (hn : xs.length ≤ 100000) (h : ∀ (i : Nat) (a b : PV), xs[i]? = some a → ys[i]? = some b → Alk S n a b) : Alk S (n + 1) x y
/-- the draws' beginning -/
theorem mix_spec (ns : List Int) (seed : Int) (hn : ns.length ≤ 63) : Post (m_mix [.fz (ns.map .int), .int seed] []) fun v S => v = .loc 1 ∧ ∃ a, S = Hs.st ⟨ns, a, 0⟩ [] := by
  unfold m_mix
  refine w_fnK rfl ?_
  ((repeat ac_rfl) <;> (try dsimp only))
  refine for_go (all := ns.map .int) (fun i env S => ∃ a x, S = [] ∧ env = [some (.fz (ns.map .int)), some (.int seed), some (.int a), x]) (by rfl) ⟨seed, none, rfl, rfl⟩ ?_ ?_
  · rintro i env S x ⟨a, x3, rfl, rfl⟩ hx
    refine ⟨by rfl, ?_⟩
    rw [List.getElem?_map] at hx
    cases hh : ns[i]? with
    | none => rw [hh] at hx; cases hx
    | some z =>
      rw [hh] at hx
      cases hx
      ((repeat ac_rfl) <;> (try dsimp only))
      exact ⟨_, _, by trivial, rfl⟩
  · rintro env S ⟨a, x3, rfl, rfl⟩
    refine ⟨by rfl, ?_⟩
    ((repeat ac_rfl) <;> (try dsimp only))
    exact ⟨by trivial, a, rfl⟩
end

/-! PureLz -/
/-! PureLz: likeness. -/
section
open PySem L2
theorem alike_spec (S : Store) : ∀ (n : Nat) (x y : PV), Alk S n x y → Post (mm_alike (n + 1) [x, y] S) fun v S' => v = .bl true ∧ S' = S
  | n, _, _, .non _ => by
    unfold mm_alike
    refine w_fnP rfl ?_
    ((repeat ac_rfl) <;> (try dsimp only))
    exact (leave_same rfl).mpr ⟨rfl, rfl⟩
  | n, _, _, .bl _ b => by
    unfold mm_alike
    refine w_fnP rfl ?_
    ((repeat ac_rfl) <;> (try dsimp only))
    rw [show (b == b) = true from beq_self_eq_true b]
    exact (leave_same rfl).mpr ⟨rfl, rfl⟩
  | n, _, _, .int _ i => by
    unfold mm_alike
    refine w_fnP rfl ?_
    ((repeat ac_rfl) <;> (try dsimp only))
    rw [show (i == i) = true from beq_self_eq_true i]
    exact (leave_same rfl).mpr ⟨rfl, rfl⟩
  | n, _, _, .str _ s h => by
    unfold mm_alike
    refine w_fnP rfl ?_
    ((repeat ac_rfl) <;> (try dsimp only))
    refine (w_eqS h h).mpr ?_
    rw [decide_eq_true rfl]
    ((repeat ac_rfl) <;> (try dsimp only))
    exact (leave_same rfl).mpr ⟨rfl, rfl⟩
  | n + 1, _, _, .seq _ x y xs ys k hx hy tx ty ux uy hl hn h => by
    unfold mm_alike
    refine w_fnP rfl ?_
    cases k <;> simp only [Bool.not_true, Bool.not_false] at ux uy
    all_goals
      ((repeat ac_rfl) <;> (try dsimp only))
      rw [if_neg (by decide)]
      ((repeat ac_rfl) <;> (try dsimp only))
      refine (w_len hx).mpr ?_
      ((repeat ac_rfl) <;> (try dsimp only))
      refine (w_len hy).mpr ?_
      ((repeat ac_rfl) <;> (try dsimp only))
      rw [hl, beq_self_eq_true]
      ((repeat ac_rfl) <;> (try dsimp only))
      refine (w_len hy).mpr ?_
      ((repeat ac_rfl) <;> (try dsimp only))
      rw [Int.toNat_natCast]
      refine lc_none (fun i hi => ?_) ?_
      · have h1 : xs[i]? = some xs[i] := List.getElem?_eq_getElem _
        have h2 : ys[i]? = some ys[i] := List.getElem?_eq_getElem _
        ((repeat ac_rfl) <;> (try dsimp only))
        refine (w_ix hx (by rw [L2.atI_nat (j := i)]; exact h1)).mpr ?_
        ((repeat ac_rfl) <;> (try dsimp only))
        refine (w_ix hy (by rw [L2.atI_nat (j := i)]; exact h2)).mpr ?_
        ((repeat ac_rfl) <;> (try dsimp only))
        refine (alike_spec S n _ _ (h i _ _ h1 h2)).mono ?_
        rintro _ _ ⟨rfl, rfl⟩
        ((repeat ac_rfl) <;> (try dsimp only))
        exact ⟨by trivial, by trivial⟩
      · ((repeat ac_rfl) <;> (try dsimp only))
        refine (w_eqE' rfl).mpr ?_
        ((repeat ac_rfl) <;> (try dsimp only))
        exact (leave_same rfl).mpr ⟨rfl, rfl⟩
end

/-! PureEq -/
/-! PureEq: equal to itself. -/
section
open PySem L2
mutual
theorem eqv_self : ∀ (n : Nat) (x : PV), plain n x = true → eqv x x = true
  | _, .non, _ => rfl
  | _, .bl b, _ => by unfold eqv; simp
  | _, .int i, _ => by unfold eqv; simp
  | _, .str s, _ => by unfold eqv; simp
  | n + 1, .tup xs, h => by
    unfold plain at h
    unfold eqv
    exact eqvs_self n xs h
  | n + 1, .ls xs, h => by
    unfold plain at h
    unfold eqv
    exact eqvs_self n xs h
  | 0, .tup _, h => by unfold plain at h; cases h
  | 0, .ls _, h => by unfold plain at h; cases h
  | n, .fz _, h => by cases n <;> (unfold plain at h; cases h)
  | n, .dc _ _, h => by cases n <;> (unfold plain at h; cases h)
  | n, .loc _, h => by cases n <;> (unfold plain at h; cases h)
theorem eqvs_self : ∀ (n : Nat) (xs : List PV), xs.all (plain n) = true → eqvs xs xs = true
  | _, [], _ => rfl
  | n, x :: xs, h => by
    rw [List.all_cons, Bool.and_eq_true] at h
    unfold eqvs
    simp only
    rw [eqv_self n x h.1, eqvs_self n xs h.2]
    rfl
end
theorem w_neRes {x y z : PV} {S : Store} {Q : PV → Store → Prop} (hx : res 20 S x = z) (hy : res 20 S y = z) (hp : plain 20 z = true) : Post (oNe x y S) Q ↔ Q (.bl false) S := by
  unfold oNe
  rw [hx, hy, if_pos ⟨hp, hp⟩, eqv_self _ _ hp]
  exact Post.ok
theorem w_eqRes {x y z : PV} {S : Store} {Q : PV → Store → Prop} (hx : res 20 S x = z) (hy : res 20 S y = z) (hp : plain 20 z = true) : Post (oEq x y S) Q ↔ Q (.bl true) S := by
  unfold oEq
  rw [hx, hy, if_pos ⟨hp, hp⟩, eqv_self _ _ hp]
  exact Post.ok
end

/-! PureLsb -/
/-! PureLsb: k11 as a whole. -/
section
open PySem L2
theorem alk_tup (S : Store) (n : Nat) {xs : List PV} (hn : xs.length ≤ 100000) (h : ∀ x ∈ xs, Alk S n x x) : Alk S (n + 1) (.tup xs) (.tup xs) := by
  refine .seq n _ _ xs xs false rfl rfl rfl rfl rfl rfl rfl hn fun i x y hx hy => ?_
  rw [hx] at hy
  cases hy
  exact h _ (List.mem_of_getElem? hx)
theorem alk_row (S : Store) (n : Nat) (r : Row) : Alk S (n + 1) r.pv r.pv := by
  obtain ⟨w, ks, hw, hok, _, _⟩ := row_ints r
  have hlen : ks.length ≤ 3 := by
    have e := congrArg (fun v => match v with | PV.tup xs => xs.length | _ => 0) hw
    cases r <;> (simp [Row.pv, ivs] at e; first | omega | (rw [e]; exact Nat.zero_le _))
  rw [hw]
  refine alk_tup S n (by rw [List.length_cons, ivs_length]; omega) fun x hx => ?_
  rcases List.mem_cons.mp hx with rfl | hx
  · exact .str _ _ hok
  · obtain ⟨k, _, rfl⟩ := List.mem_map.mp hx
    exact .int _ _
theorem alk_rows (S : Store) (n : Nat) {rs : List Row} (h : rs.length ≤ 1000) : Alk S (n + 2) (.tup (rs.map Row.pv)) (.tup (rs.map Row.pv)) := alk_tup S (n + 1) (by rw [List.length_map]; omega) fun x hx => by
  obtain ⟨r, _, rfl⟩ := List.mem_map.mp hx
  exact alk_row S n r
theorem alk_pair (S : Store) (n : Nat) {k : Int} {x : PV} (h : Alk S n x x) : Alk S (n + 1) (.tup [.int k, x]) (.tup [.int k, x]) := alk_tup S n (Nat.le_of_ble_eq_true rfl) fun y hy => by
  simp only [List.mem_cons, List.not_mem_nil, or_false] at hy
  rcases hy with rfl | rfl
  · exact .int _ _
  · exact h
theorem alk_ivs (S : Store) (n : Nat) {xs : List Nat} (h : xs.length ≤ 1000) : Alk S (n + 1) (.tup (ivs xs)) (.tup (ivs xs)) := alk_tup S n (by rw [ivs_length]; omega) fun y hy => by
  obtain ⟨k, _, rfl⟩ := List.mem_map.mp hy
  exact .int _ _
theorem alk_house (S : Store) (n : Nat) {h : House} (ho : h.Ok) : Alk S (n + 2) h.pv h.pv := alk_tup S (n + 1) (Nat.le_of_ble_eq_true rfl) fun y hy => by
  simp only [List.mem_cons, List.not_mem_nil, or_false] at hy
  rcases hy with rfl | rfl | rfl
  · exact alk_ivs S n (by have := ho.ins.len; omega)
  · exact .int _ _
  · exact alk_ivs S n (by have := ho.kept.len; omega)
theorem alk_prog (S : Store) {p : Prog} (hp : p.Ok) (i : Nat) (r : Routine) {rows : List Row} (h : rows.length ≤ 1000) : Alk S 5 (progV p i r rows) (progV p i r rows) := alk_tup S 4 (Nat.le_of_ble_eq_true rfl) fun y hy => by
  simp only [List.mem_cons, List.not_mem_nil, or_false] at hy
  rcases hy with rfl | rfl
  · refine alk_tup S 3 (by rw [List.length_map]; have := hp.h3; omega) fun y hy => ?_
    obtain ⟨h, hm, rfl⟩ := List.mem_map.mp hy
    exact alk_house S 1 (hp.houses h hm)
  · refine alk_tup S 3 (by rw [List.length_set, List.length_map]; have := hp.r6; omega) fun y hy => ?_
    rcases List.mem_or_eq_of_mem_set hy with hy | rfl
    · obtain ⟨q, hq, rfl⟩ := List.mem_map.mp hy
      exact alk_pair S 2 (alk_rows S 0 (by have := (hp.routines q hq).len; omega))
    · exact alk_pair S 2 (alk_rows S 0 h)
theorem plain_svs (m k : Nat) (S : Store) : ∀ sv : List Save, ((sv.map svP).map (res (m + 1) S)).all (plain (k + 1)) = true
  | [] => rfl
  | s :: r => by
    show ((plain k (res m S (.int s.1)) && (plain k (res m S (.int (s.2 : Int))) && true)) && ((r.map svP).map (res (m + 1) S)).all (plain (k + 1))) = true
    rw [plain_svs m k S r]
    rw [show res m S (.int s.1) = .int s.1 by cases m <;> rfl, show res m S (.int (s.2 : Int)) = .int (s.2 : Int) by cases m <;> rfl, show plain k (.int s.1) = true by cases k <;> rfl, show plain k (.int (s.2 : Int)) = true by cases k <;> rfl]
    rfl
theorem w_neSv {sv : List Save} {S : Store} {Q : PV → Store → Prop} : Post (oNe (.ls (sv.map svP)) (.ls (sv.map svP)) S) Q ↔ Q (.bl false) S := w_neRes (z := .ls ((sv.map svP).map (res 19 S))) rfl rfl (plain_svs 18 18 S sv)
/-- a save that is none -/
def OddSv (p : Prog) (i : Nat) (r : Routine) (x : PV) : Prop := SvLike x ∧ qP p i r x = false ∧ ∀ n, LW.low n x = true
theorem odd_pair {p : Prog} {i : Nat} {r : Routine} {a b : Int} (h : isSv p i r (a, b) = false) : OddSv p i r (.tup [.int a, .int b]) := ⟨.inl ⟨(a, b), rfl⟩, h, fun n => low_tup fun y hy => by
  simp only [List.mem_cons, List.not_mem_nil, or_false] at hy
  rcases hy with rfl | rfl <;> exact low_int⟩
theorem told_none {p : Prog} {i : Nat} {r : Routine} {a b : Int} (h : toldIn p i r a = none) : isSv p i r (a, b) = false := by
  unfold isSv
  rw [show (a, b).1 = a from rfl, h]
theorem told_out {p : Prog} {i : Nat} {r : Routine} {a b : Int} {o : Nat} (h : toldIn p i r a = some o) (hb : b < 0 ∨ 6 ≤ b ∨ b = (o : Int)) : isSv p i r (a, b) = false := by
  unfold isSv
  rw [show (a, b).1 = a from rfl, h]
  simp only
  by_cases h1 : 0 ≤ b ∧ b < 6
  · have : b = (o : Int) := by omega
    subst this
    rw [beq_self_eq_true]
    rw [Bool.not_true, Bool.and_false]
  · rw [decide_eq_false h1]
    rfl
theorem told_whole (p : Prog) (i : Nat) (r : Routine) : toldIn p i r (-1) = some (hof p i).out := by
  unfold toldIn
  rw [if_pos rfl]
theorem told_far {p : Prog} {i : Nat} {r : Routine} {a : Int} (h : a ≠ -1 ∧ ¬ (0 ≤ a ∧ a < (r.rows.length : Int))) : toldIn p i r a = none := by
  unfold toldIn
  rw [if_neg h.1, if_neg h.2]
theorem told_plain {p : Prog} {i : Nat} {r : Routine} {k : Nat} (h : ∀ c, r.rows[k]? ≠ some (.call c)) : toldIn p i r (k : Int) = none := by
  unfold toldIn
  rw [if_neg (by omega)]
  split
  · rw [Int.toNat_natCast]
    split
    · rename_i c hc
      exact absurd hc (h c)
    · rfl
  · rfl
theorem ltP_no {a b : Int × Int} (h : leP a b = true) : ltP b a = false := by
  have h := leP_iff.mp h
  show (if b.1 = a.1 then (if b.2 = a.2 then false else decide (b.2 < a.2)) else decide (b.1 < a.1)) = false
  split
  · split
    · rfl
    · exact decide_eq_false (by omega)
  · exact decide_eq_false (by omega)
theorem le_data (p q : Int × Int) : leP p q = PySem.W.dataLe false pvD (pvP p) (pvP q) := by
  have hle : PySem.W.dataLe (β := Int × Int) false (fun q => pvD (pvP q)) = fun p q => leP p q := PySem.W.dataLe_ii (β := Int × Int) (fun q => q.1) (fun q => q.2)
  exact (congrFun (congrFun hle p) q).symm
theorem w_sortPP {a b : Int × Int} {S : Store} {Q : PV → Store → Prop} : Post (bSortL [.ls [pvP a, pvP b]] S) Q ↔ Q (.ls (([a, b].mergeSort leP).map pvP)) S := by
  have hs : sortN [pvP a, pvP b] = ([a, b].mergeSort leP).map pvP := (List.map_mergeSort (l := [a, b]) (f := pvP) (r := leP) (s := PySem.W.dataLe false pvD) fun p _ q _ => le_data p q).symm
  have hok : srtB [pvP a, pvP b] = true := by
    refine srtB_of ?_ ?_ ?_ (show 2 ≤ lim by decide) <;> intro x hx
    · simp only [List.mem_cons, List.not_mem_nil, or_false] at hx
      rcases hx with rfl | rfl <;> rfl
    · simp only [List.mem_cons, List.not_mem_nil, or_false] at hx
      rcases hx with rfl | rfl <;> rfl
    · intro y hy
      simp only [List.mem_cons, List.not_mem_nil, or_false] at hx hy
      rcases hx with rfl | rfl <;> rcases hy with rfl | rfl <;> rfl
  unfold bSortL
  simp only
  rw [show keysOf S (.ls [pvP a, pvP b]) = some [pvP a, pvP b] from rfl]
  simp only
  rw [if_pos hok, hs]
  exact Post.ok
theorem falls (a b : Int × Int) : ∃ ps, (([a, b].mergeSort leP).map pvP).reverse = ps.map pvP ∧ rises ps = false ∧ ps.length = 2 := by
  have hl : ([a, b].mergeSort leP).length = 2 := List.length_mergeSort ..
  have hp := List.pairwise_mergeSort leP_trans leP_total [a, b]
  generalize [a, b].mergeSort leP = l at hl hp
  match l, hl with
  | [u, v], _ =>
    refine ⟨[v, u], rfl, ?_, rfl⟩
    have h1 : leP u v = true := (List.pairwise_cons.mp hp).1 v List.mem_cons_self
    show (ltP v u && true) = false
    rw [ltP_no h1]
    rfl
theorem upto_range (n : Nat) : upto 0 n = (List.range n).map fun k : Nat => PV.int k := by
  refine List.ext_getElem? fun i => ?_
  by_cases h : i < n
  · rw [upto_get h, List.getElem?_map, List.getElem?_range h]
    rw [Int.zero_add]
    rfl
  · rw [List.getElem?_eq_none (by rw [upto_length]; omega), List.getElem?_eq_none (by rw [List.length_map, List.length_range]; omega)]
theorem w_addNl {x y : PV} {xs ys : List PV} {S : Store} {Q : PV → Store → Prop} (hx : lstOf S x = some xs) (hy : lstOf S y = some ys) (hl : xs.length + ys.length ≤ lim) : Post (oAddN x y S) Q ↔ Q (.loc S.length) (S ++ [.lst (xs ++ ys)]) := by
  unfold oAddN
  rw [hx, hy]
  simp only
  rw [if_pos hl]
  exact Post.ok
theorem w_mul2 {t : PV} {S : Store} {Q : PV → Store → Prop} : Post (oMul (.ls [t]) (.int 2) S) Q ↔ Q (.ls [t, t]) S := by
  unfold oMul
  simp only [lstOf]
  rw [if_pos ⟨by decide, by decide, Nat.le_of_ble_eq_true rfl⟩]
  exact Post.ok
theorem bad_all {p : Prog} {i : Nat} {r : Routine} {xs : List PV} {y : PV} (h : OddSv p i r y) : (xs ++ [y]).all (qP p i r) = false := by
  rw [List.all_append]
  simp [h.2.1]
end

/-! PureLsc -/
/-! PureLsc: k11 as a whole. -/
section
open PySem L2
set_option maxHeartbeats 8000000 in
theorem law_post (K : PySem.W.Frag) (ns : List Int) (hn : ns.length ≤ 63) : Post (m_law [.fz (ns.map .int)] []) fun v _ => v = .bl true := by
  unfold m_law
  refine w_fnK rfl ?_
  ((repeat sizeOf_list_dec) <;> (try dsimp only))
  refine (mix_spec ns 37 hn).mono ?_
  rintro _ _ ⟨rfl, a, rfl⟩
  ((repeat sizeOf_list_dec) <;> (try dsimp only))
  refine for_go (all := upto 0 6) (fun i env S => ∃ (g : Hs) (rest : Store) (x2 x3 x4 x5 x6 x7 x8 x9 x10 x11 x12 x13 x14 x15 : Option PV), S = g.st rest ∧ g.Ok ∧ LowR rest ∧ env = [some (.fz (ns.map .int)), some (.loc 1), x2, x3, x4, x5, x6, x7, x8, x9, x10, x11, x12, x13, x14, x15, none, none]) (by rfl) ⟨⟨ns, a, 0⟩, [], none, none, none, none, none, none, none, none, none, none, none, none, none, none, rfl, ⟨hn, Int.le_refl _⟩, rfl, rfl⟩ ?_ ?_
  · rintro i env S x ⟨g, rest, x2, x3, x4, x5, x6, x7, x8, x9, x10, x11, x12, x13, x14, x15, rfl, hg, hlow, rfl⟩ hx
    refine ⟨by rfl, ?_⟩
    ((repeat ((fail_if_success (with_reducible refine w_if.mpr ?_)); sizeOf_list_dec)) <;> (try dsimp only))
    refine (any_spec g rest hlow hg).mono ?_
    rintro _ _ ⟨p, g2, rfl, hp, rfl, hg2⟩
    have h6 := hp.r6
    have h1 := hp.r1
    ((repeat ((fail_if_success (with_reducible refine w_if.mpr ?_)); sizeOf_list_dec)) <;> (try dsimp only))
    rw [List.length_map]
    ((refine Post.mono (next_spec _ _ _ hg2 ?hn0 ?hn1) ?_); (case hn0 => omega); (case hn1 => omega))
    rintro _ _ ⟨j, g3, rfl, rfl, hg3, j0, j1⟩
    obtain ⟨n, rfl⟩ : ∃ n : Nat, j = n := ⟨j.toNat, by omega⟩
    have hnl : n < p.routines.length := by omega
    obtain ⟨r, hr⟩ : ∃ r, p.routines[n]? = some r := ⟨_, List.getElem?_eq_getElem hnl⟩
    have hro := hp.routines r (List.mem_of_getElem? hr)
    have hrl := hro.len
    ((repeat ((fail_if_success (with_reducible refine w_if.mpr ?_)); sizeOf_list_dec)) <;> (try dsimp only))
    refine (saves_spec g3 rest hlow hg3 p hp n r hr 6 (by decide)).mono ?_
    rintro _ _ ⟨sv, g4, rfl, hsv, hpl, hsl, rfl, hg4⟩
    have hlo := hlow.st g4
    ((repeat ((fail_if_success (with_reducible refine w_if.mpr ?_)); sizeOf_list_dec)) <;> (try dsimp only))
    refine (put_in_law_spec _ hlo p hp n r hr sv (by omega) hpl).mono ?_
    rintro _ _ ⟨rfl, rfl⟩
    ((repeat ((fail_if_success (with_reducible refine w_if.mpr ?_)); sizeOf_list_dec)) <;> (try dsimp only))
    have hdue : ∀ S (Q : PV → Store → Prop), Q (.tup ((savedRows sv r.rows).map Row.pv)) S → Post (oIx (.tup [.int r.house, .tup ((savedRows sv r.rows).map Row.pv)]) (.int 1) S) Q := fun S Q h => (w_ix rfl rfl).mpr h
    have hset : atI ((p.routines.map Routine.pv).set n (.tup [.int r.house, .tup ((savedRows sv r.rows).map Row.pv)])) (n : Int) = some (.tup [.int r.house, .tup ((savedRows sv r.rows).map Row.pv)]) := by
      rw [L2.atI_nat (j := n)]
      rw [List.getElem?_set_self (by rw [List.length_map]; exact hnl)]
    refine Post.mono (Q := fun q S => q.1 = .nx ∧ S = g4.st rest ∧ q.2 = [some (.fz (ns.map .int)), some (.loc 1), some x, some p.pv, some (.int n), some (.ls (sv.map svP)), some (progV p n r (savedRows sv r.rows)), some (.ls (sv.map svP)), x8, x9, x10, x11, x12, x13, x14, x15, none, none]) ?_ ?_
    · unfold progV
      ((repeat sizeOf_list_dec) <;> (try dsimp only))
      refine (w_ix rfl hset).mpr ?_
      ((repeat sizeOf_list_dec) <;> (try dsimp only))
      rw [List.length_map]
      by_cases hlen : (savedRows sv r.rows).length ≤ 32
      · rw [decide_eq_false (by omega)]
        ((repeat sizeOf_list_dec) <;> (try dsimp only))
        refine (put_in_spec _ hlo p hp n r hr sv hsv hlen).mono ?_
        rintro _ S1 ⟨rfl, e⟩
        obtain rfl := e.symm
        ((repeat sizeOf_list_dec) <;> (try dsimp only))
        refine (alike_spec _ 5 _ _ (alk_prog _ hp n r (by omega))).mono ?_
        rintro _ S1 ⟨rfl, e⟩
        obtain rfl := e.symm
        ((repeat sizeOf_list_dec) <;> (try dsimp only))
        refine w_neSv.mpr ?_
        ((repeat sizeOf_list_dec) <;> (try dsimp only))
        exact ⟨by trivial, by trivial, rfl⟩
      · rw [decide_eq_true (by omega)]
        ((repeat sizeOf_list_dec) <;> (try dsimp only))
        refine w_kind (x_call ?_)
        ((repeat sizeOf_list_dec) <;> (try dsimp only))
        refine (put_in_much _ hlo p hp n r hr sv hsv (by omega)).mono ?_
        rintro _ S1 ⟨rfl, e⟩
        obtain rfl := e.symm
        refine ⟨by decide, by decide, rfl, ?_⟩
        ((repeat sizeOf_list_dec) <;> (try dsimp only))
        rw [if_neg (by decide +kernel)]
        ((repeat sizeOf_list_dec) <;> (try dsimp only))
        exact ⟨by trivial, by trivial, rfl⟩
    rintro ⟨fl, env⟩ S ⟨h0, rfl, h1'⟩
    have h0 : fl = .nx := h0
    have h1' : env = _ := h1'
    subst h0 h1'
    ((repeat sizeOf_list_dec) <;> (try dsimp only))
    refine (w_ix rfl (atI_map hr)).mpr ?_
    rw [show r.pv = .tup [.int r.house, .tup (r.rows.map Row.pv)] from rfl]
    ((repeat sizeOf_list_dec) <;> (try dsimp only))
    obtain ⟨r2, hr2, hh, hk⟩ := hof_some hp hnl
    rw [hr] at hr2
    obtain rfl := Option.some.inj hr2
    rw [List.length_map]
    refine (w_rng (by omega)).mpr ?_
    rw [Int.toNat_natCast]
    refine lc_some (by omega) (by exact Nat.le_of_ble_eq_true rfl) (fun k => match r.rows[k]? with | some x => !x.callB.isSome | none => false) (fun k hkl => ?_) fun xs hxs hxm => ?_
    · obtain ⟨w, vs, hw, hok, hc⟩ := call_word r.rows[k]
      have hat : atI (r.rows.map Row.pv) (k : Int) = some (.tup (.str w :: vs)) := by rw [atI_map (List.getElem?_eq_getElem hkl), hw]
      ((repeat sizeOf_list_dec) <;> (try dsimp only))
      refine (w_ix rfl hat).mpr ?_
      ((repeat sizeOf_list_dec) <;> (try dsimp only))
      refine (w_neS hok (by decide +kernel)).mpr ?_
      rw [hc, List.getElem?_eq_getElem hkl]
      ((repeat sizeOf_list_dec) <;> (try dsimp only))
      exact ⟨by trivial, by trivial⟩
    have hxl : xs.length ≤ r.rows.length := by
      have h1 : xs.Nodup := hxs.imp fun h => Nat.ne_of_lt h
      have h2 := L2.nat_nodup_len xs (List.range r.rows.length) h1 fun x hx => List.mem_range.mpr ((hxm x).mp hx).1
      rw [List.length_range] at h2
      exact h2
    have hxp : 1 ≤ xs.length := by
      have hl : r.rows[r.init.length]? = some r.last := by
        unfold Routine.rows
        rw [List.getElem?_append_right (Nat.le_refl _), Nat.sub_self]
        rfl
      have hm : r.init.length ∈ xs := (hxm _).mpr ⟨(List.getElem?_eq_some_iff.mp hl).1, by
        rw [hl]
        have he := hro.last
        revert he
        cases r.last <;> intro he <;> first | rfl | exact he.elim⟩
      exact List.length_pos_of_mem hm
    ((repeat sizeOf_list_dec) <;> (try dsimp only))
    ((refine Post.mono (next_spec _ _ _ hg4 ?hn0 ?hn1) ?_); (case hn0 => omega); (case hn1 => omega))
    rintro _ _ ⟨far, g5, rfl, rfl, hg5, f0, f1⟩
    ((repeat sizeOf_list_dec) <;> (try dsimp only))
    refine (w_ix rfl (atI_map hr)).mpr ?_
    rw [show r.pv = .tup [.int r.house, .tup (r.rows.map Row.pv)] from rfl]
    ((repeat sizeOf_list_dec) <;> (try dsimp only))
    refine (w_ix rfl (atI_map hh)).mpr ?_
    unfold House.pv
    ((repeat sizeOf_list_dec) <;> (try dsimp only))
    ((refine Post.mono (next_spec _ _ _ hg5 ?hn0 ?hn1) ?_); (case hn0 => omega); (case hn1 => omega))
    rintro _ _ ⟨k, g6, rfl, rfl, hg6, k0, k1⟩
    obtain ⟨kk, rfl⟩ : ∃ kk : Nat, k = kk := ⟨k.toNat, by omega⟩
    refine (w_ix rfl (ivs_ix (by omega))).mpr ?_
    ((repeat sizeOf_list_dec) <;> (try dsimp only))
    rw [List.length_map]
    refine (w_addNl rfl rfl (Nat.le_of_ble_eq_true rfl)).mpr ?_
    have hxk : xs.getD kk 0 ∈ xs := by
      rw [List.getD_eq_getElem?_getD, List.getElem?_eq_getElem (by omega)]
      exact List.getElem_mem _
    have hodd8 : ∀ y ∈ ([.tup [.int (xs.getD kk 0 : Nat), .int 0], .tup [.int ((r.rows.length : Int) + far), .int 0], .tup [.int (-2 - far), .int 0], .tup [.int (-1), .int (6 + far)], .tup [.int (-1), .int (-1)]] ++ [.tup [.int (-1)], .tup [], .tup [.int (-1), .int (hof p n).out]] : List PV), OddSv p n r y := fun y hy => by
      simp only [List.mem_append, List.mem_cons, List.not_mem_nil, or_false] at hy
      rcases hy with (rfl | rfl | rfl | rfl | rfl) | rfl | rfl | rfl
      · refine odd_pair (told_none (told_plain fun c hc => ?_))
        have h2 := ((hxm _).mp hxk).2
        rw [hc] at h2
        cases h2
      · exact odd_pair (told_none (told_far (by omega)))
      · exact odd_pair (told_none (told_far (by omega)))
      · exact odd_pair (told_out (told_whole p n r) (.inr (.inl (by omega))))
      · exact odd_pair (told_out (told_whole p n r) (.inl (by omega)))
      · exact ⟨.inr ⟨_, rfl, by decide⟩, rfl, fun n => low_tup fun z hz => by
          rw [List.mem_singleton.mp hz]
          exact low_int⟩
      · exact ⟨.inr ⟨_, rfl, by decide⟩, rfl, fun n => low_tup fun z hz => absurd hz List.not_mem_nil⟩
      · exact odd_pair (told_out (told_whole p n r) (.inr (.inr rfl)))
    have hlen8 : ([.tup [.int (xs.getD kk 0 : Nat), .int 0], .tup [.int ((r.rows.length : Int) + far), .int 0], .tup [.int (-2 - far), .int 0], .tup [.int (-1), .int (6 + far)], .tup [.int (-1), .int (-1)]] ++ [.tup [.int (-1)], .tup [], .tup [.int (-1), .int (hof p n).out]] : List PV).length = 8 := rfl
    generalize ([.tup [.int (xs.getD kk 0 : Nat), .int 0], .tup [.int ((r.rows.length : Int) + far), .int 0], .tup [.int (-2 - far), .int 0], .tup [.int (-1), .int (6 + far)], .tup [.int (-1), .int (-1)]] ++ [.tup [.int (-1)], .tup [], .tup [.int (-1), .int (hof p n).out]] : List PV) = odds at hodd8 hlen8
    ((repeat sizeOf_list_dec) <;> (try dsimp only))
    refine ⟨_, _, rfl, get_last0, ?_⟩
    ((repeat sizeOf_list_dec) <;> (try dsimp only))
    rw [List.length_map]
    refine (w_rng (by omega)).mpr ?_
    rw [Int.toNat_natCast]
    refine lc_gen (enc := fun k : Nat => PV.int k) (zs := List.range r.rows.length) (fun k => match r.rows[k]? with | some x => x.callB.isSome | none => false) (fun k => .tup [.int k, match r.rows[k]? with | some (.call c) => .int (hof p c).out | _ => .non]) (by show some (upto 0 _) = _; rw [upto_range]) (by rw [List.length_range]; omega) (fun k hk' => ?_) ?_
    · have hkl := List.mem_range.mp hk'
      obtain ⟨w, vs, hw, hok, hc⟩ := call_word r.rows[k]
      have hat : atI (r.rows.map Row.pv) (k : Int) = some (.tup (.str w :: vs)) := by rw [atI_map (List.getElem?_eq_getElem hkl), hw]
      ((repeat sizeOf_list_dec) <;> (try dsimp only))
      refine (w_ix rfl hat).mpr ?_
      ((repeat sizeOf_list_dec) <;> (try dsimp only))
      refine (w_eqS hok (by decide +kernel)).mpr ?_
      rw [hc, List.getElem?_eq_getElem hkl]
      ((repeat sizeOf_list_dec) <;> (try dsimp only))
      refine ⟨by trivial, ?_⟩
      cases hq : r.rows[k].callB with
      | none =>
        rw [show (none : Option Nat).isSome = false from rfl]
        ((repeat sizeOf_list_dec) <;> (try dsimp only))
      | some c =>
        have hrc : r.rows[k] = .call c := by
          cases he : r.rows[k] <;> rw [he] at hq <;> first | (cases hq; rfl) | (cases hq; done)
        have hc' : c < p.routines.length := by
          have h2 := hro.rows _ (List.getElem_mem hkl)
          rw [hrc] at h2
          exact h2
        obtain ⟨rc, hrc2, hhc, _⟩ := hof_some hp hc'
        rw [hrc] at hw
        cases hw
        rw [show (some c).isSome = true from rfl]
        ((repeat sizeOf_list_dec) <;> (try dsimp only))
        refine (w_ix rfl hat).mpr ?_
        ((repeat sizeOf_list_dec) <;> (try dsimp only))
        refine (w_ix rfl (atI_map hrc2)).mpr ?_
        rw [show rc.pv = .tup [.int rc.house, .tup (rc.rows.map Row.pv)] from rfl]
        ((repeat sizeOf_list_dec) <;> (try dsimp only))
        refine (w_ix rfl (atI_map hhc)).mpr ?_
        unfold House.pv
        ((repeat sizeOf_list_dec) <;> (try dsimp only))
        rw [hrc]
        exact ⟨by trivial, by trivial⟩
    have hcl : (((List.range r.rows.length).filter fun k => match r.rows[k]? with | some x => x.callB.isSome | none => false).map fun k : Nat => PV.tup [.int k, match r.rows[k]? with | some (.call c) => .int (hof p c).out | _ => .non]).length ≤ 32 := by
      rw [List.length_map]
      refine Nat.le_trans (List.length_filter_le _ _) ?_
      rw [List.length_range]
      exact hrl
    have hodc : ∀ y ∈ (((List.range r.rows.length).filter fun k => match r.rows[k]? with | some x => x.callB.isSome | none => false).map fun k : Nat => PV.tup [.int k, match r.rows[k]? with | some (.call c) => .int (hof p c).out | _ => .non]), OddSv p n r y := fun y hy => by
      obtain ⟨k, hk', rfl⟩ := List.mem_map.mp hy
      have hkl := List.mem_range.mp (List.mem_filter.mp hk').1
      have hkc := (List.mem_filter.mp hk').2
      rw [List.getElem?_eq_getElem hkl] at hkc
      have hkc : r.rows[k].callB.isSome = true := hkc
      cases hq : r.rows[k].callB with
      | none => rw [hq] at hkc; cases hkc
      | some c =>
        have hrc : r.rows[k]? = some (.call c) := by
          rw [List.getElem?_eq_getElem hkl]
          cases he : r.rows[k] <;> rw [he] at hq <;> first | (cases hq; rfl) | (cases hq; done)
        rw [hrc]
        refine odd_pair (told_out (o := (hof p c).out) ?_ (.inr (.inr rfl)))
        unfold toldIn
        rw [if_neg (by omega), if_pos (by omega), Int.toNat_natCast, hrc]
    generalize (((List.range r.rows.length).filter fun k => match r.rows[k]? with | some x => x.callB.isSome | none => false).map fun k : Nat => PV.tup [.int k, match r.rows[k]? with | some (.call c) => .int (hof p c).out | _ => .non]) = odc at hcl hodc
    refine (w_mExtend get_last0 rfl (Nat.le_trans (show _ ≤ 40 by omega) (by decide))).mpr ?_
    rw [set_last0]
    have hodds : ∀ y ∈ odds ++ odc, OddSv p n r y := fun y hy => (List.mem_append.mp hy).elim (hodd8 y) (hodc y)
    have hol : (odds ++ odc).length ≤ 40 ∧ 8 ≤ (odds ++ odc).length := by rw [List.length_append]; omega
    generalize odds ++ odc = all at hodds hol
    ((repeat sizeOf_list_dec) <;> (try dsimp only))
    refine (w_len (seq_at0 get_last0)).mpr ?_
    ((repeat sizeOf_list_dec) <;> (try dsimp only))
    rw [Hs.app]
    ((refine Post.mono (next_spec _ _ _ hg6 ?hn0 ?hn1) ?_); (case hn0 => omega); (case hn1 => omega))
    rintro _ _ ⟨k2, g7, rfl, rfl, hg7, k20, k21⟩
    obtain ⟨m, rfl⟩ : ∃ m : Nat, k2 = m := ⟨k2.toNat, by omega⟩
    have hml : m < all.length := by omega
    have hget : (g7.st (rest ++ [Cell.lst all]))[(g6.st rest).length]? = some (.lst all) := by
      rw [← Hs.app]
      exact get_last0 (S := g7.st rest)
    refine (w_ix (seq_at0 hget) (L2.atI_nat (j := m) (List.getElem?_eq_getElem hml))).mpr ?_
    ((repeat sizeOf_list_dec) <;> (try dsimp only))
    have hody := hodds _ (List.getElem_mem hml)
    generalize all[m] = y at hody
    refine (w_addLL (xs := sv.map svP) (ys := [y]) (by rw [List.length_map]; exact Nat.le_trans (show sv.length + 1 ≤ 40 by omega) (by decide))).mpr ?_
    ((repeat sizeOf_list_dec) <;> (try dsimp only))
    refine w_mul2.mpr ?_
    ((repeat sizeOf_list_dec) <;> (try dsimp only))
    refine (w_sortPP (a := (-1, (((hof p n).out : Int) + 1) % 6)) (b := (-1, (((hof p n).out : Int) + 2) % 6))).mpr ?_
    ((repeat sizeOf_list_dec) <;> (try dsimp only))
    refine w_rev.mpr ?_
    obtain ⟨ps, hps1, hps2, hps3⟩ := falls (-1, (((hof p n).out : Int) + 1) % 6) (-1, (((hof p n).out : Int) + 2) % 6)
    rw [hps1]
    ((repeat sizeOf_list_dec) <;> (try dsimp only))
    ((refine Post.mono (next_spec _ _ _ hg7 ?hn0 ?hn1) ?_); (case hn0 => omega); (case hn1 => omega))
    rintro _ _ ⟨k3, g8, rfl, rfl, hg8, k30, k31⟩
    have hlw : LowR (rest ++ [Cell.lst all]) := LowS.rest (g := g8) (by
      rw [← Hs.app]
      exact lows_cons (hlow.st g8) fun x hx => (hodds x hx).2.2 _)
    have hlow8 : LowS (g8.st (rest ++ [Cell.lst all])) := hlw.st g8
    obtain ⟨w, hw, hwl, hws, hwb⟩ : ∃ ws : List PV, atI [PV.ls (sv.map svP ++ [y]), .ls (sv.map svP ++ [y]), .ls [.tup [.int (-1), .int (((hof p n).out + 1 + far % 5) % 6)], .tup [.int (-1), .int (((hof p n).out + 1 + far % 5) % 6)]], .ls (ps.map pvP)] k3 = some (.ls ws) ∧ ws.length ≤ 100 ∧ (∀ x ∈ ws, SvLike x) ∧ (ws.all (qP p n r) = false ∨ ∃ ps, ws = ps.map pvP ∧ rises ps = false) := by
      have hbad : (sv.map svP ++ [y]).length ≤ 100 ∧ (∀ x ∈ sv.map svP ++ [y], SvLike x) ∧ ((sv.map svP ++ [y]).all (qP p n r) = false ∨ ∃ ps, sv.map svP ++ [y] = ps.map pvP ∧ rises ps = false) := by
        refine ⟨by rw [List.length_append, List.length_map]; simp only [List.length_cons, List.length_nil]; omega, fun x hx => ?_, .inl (bad_all hody)⟩
        rcases List.mem_append.mp hx with hx | hx
        · rw [svP_eq] at hx
          obtain ⟨q, _, rfl⟩ := List.mem_map.mp hx
          exact .inl ⟨q, rfl⟩
        · rw [List.mem_singleton.mp hx]
          exact hody.1
      have hk3 : k3 = 0 ∨ k3 = 1 ∨ k3 = 2 ∨ k3 = 3 := by omega
      rcases hk3 with rfl | rfl | rfl | rfl
      · exact ⟨_, rfl, hbad⟩
      · exact ⟨_, rfl, hbad⟩
      · refine ⟨_, rfl, Nat.le_of_ble_eq_true rfl, fun x hx => ?_, .inr ⟨[(-1, ((hof p n).out + 1 + far % 5) % 6), (-1, ((hof p n).out + 1 + far % 5) % 6)], rfl, ?_⟩⟩
        · simp only [List.mem_cons, List.not_mem_nil, or_false] at hx
          rcases hx with rfl | rfl <;> exact .inl ⟨(-1, ((hof p n).out + 1 + far % 5) % 6), rfl⟩
        · show (ltP _ _ && true) = false
          rw [ltP_no (leP_iff.mpr (.inr ⟨rfl, Int.le_refl _⟩))]
          rfl
      · refine ⟨_, rfl, by rw [List.length_map, hps3]; decide, fun x hx => ?_, .inr ⟨ps, rfl, hps2⟩⟩
        obtain ⟨q, _, rfl⟩ := List.mem_map.mp hx
        exact .inl ⟨q, rfl⟩
    refine (w_ix rfl hw).mpr ?_
    ((repeat sizeOf_list_dec) <;> (try dsimp only))
    refine w_kind (x_call ?_)
    ((repeat sizeOf_list_dec) <;> (try dsimp only))
    refine (put_in_no _ hlow8 p hp n r hr w hwl hws hwb).mono ?_
    rintro _ S1 ⟨rfl, e⟩
    obtain rfl := e.symm
    refine ⟨by decide, by decide, rfl, ?_⟩
    ((repeat sizeOf_list_dec) <;> (try dsimp only))
    rw [if_neg (by decide +kernel)]
    ((repeat sizeOf_list_dec) <;> (try dsimp only))
    exact ⟨g8, rest ++ [Cell.lst all], _, _, _, _, _, _, _, _, _, _, _, _, _, _, rfl, hg8, hlw, rfl⟩
  · rintro env S ⟨g, rest, x2, x3, x4, x5, x6, x7, x8, x9, x10, x11, x12, x13, x14, x15, rfl, hg, hlow, rfl⟩
    refine ⟨by rfl, ?_⟩
    ((repeat sizeOf_list_dec) <;> (try dsimp only))
theorem m_law_ok {K : PySem.W.Frag} : ∀ ns : List Int, ns.length ≤ 63 → (∀ z ∈ ns, PySem.Builtin.Int.intBits z ≤ 1048576) → ∃ S, m_law [.fz (ns.map .int)] [] = .ok (.bl true) S := fun ns hn _ => by
  obtain ⟨a, S, e, h⟩ := (law_post K ns hn).out
  exact ⟨S, by rw [e, h]⟩
end

/-! Gk11_e -/
section
open PySem PySem.Spec PyProof.Rows L2
theorem all_law {P : Program} {w : World} {K : PySem.W.Frag} {mg : Str → Option Value} {base : Heap} (T : Top w K mg) (tb : LamX.TabB base mg (He.cT K ("law", none)).1 (He.cT K ("law", none)).2) : Cl P w K mg base (xcK K) "law" ["_law_script"] 9 (m_law) := by
  have c_is_tuple_of := ok_is_tuple_of (P := P) (w := w) (base := base) T 
  have c_is_below := ok_is_below (P := P) (w := w) (base := base) T 
  have c_are_rising_boxes := ok_are_rising_boxes (P := P) (w := w) (base := base) T c_is_below
  have c_is_house := ok_is_house (P := P) (w := w) (base := base) T c_are_rising_boxes c_is_below c_is_tuple_of
  have c_check_houses := ok_check_houses (P := P) (w := w) (base := base) T c_is_house c_is_tuple_of
  have c_is_row := ok_is_row (P := P) (w := w) (base := base) T c_is_below
  have c_check_rows := ok_check_rows (P := P) (w := w) (base := base) T c_is_row
  have c_check_routines := ok_check_routines (P := P) (w := w) (base := base) T c_check_rows c_is_below c_is_tuple_of
  have c_check_program := ok_check_program (P := P) (w := w) (base := base) T c_check_routines c_check_houses c_is_tuple_of
  have c_check_number := ok_check_number (P := P) (w := w) (base := base) T c_is_below
  have c_rows_of := ok_rows_of (P := P) (w := w) (base := base) T 
  have c_house_of := ok_house_of (P := P) (w := w) (base := base) T 
  have c_told_in := ok_told_in (P := P) (w := w) (base := base) T c_house_of c_is_below c_rows_of
  have c_is_save := ok_is_save (P := P) (w := w) (base := base) T c_is_below c_told_in c_is_tuple_of
  have c_check_saves := ok_check_saves (P := P) (w := w) (base := base) T c_is_save
  have c_boxes_about := ok_boxes_about (P := P) (w := w) (base := base) T 
  have c_pushes_of := ok_pushes_of (P := P) (w := w) (base := base) T 
  have c_pops_of := ok_pops_of (P := P) (w := w) (base := base) T 
  have c_blocks_of := ok_blocks_of (P := P) (w := w) (base := base) T c_pops_of c_pushes_of c_boxes_about
  have c_led_anew := ok_led_anew (P := P) (w := w) (base := base) T 
  have c_saved_rows := ok_saved_rows (P := P) (w := w) (base := base) T c_led_anew c_blocks_of c_pushes_of c_boxes_about
  have c_with_rows := ok_with_rows (P := P) (w := w) (base := base) T 
  have c_put_in := ok_put_in (P := P) (w := w) (base := base) T c_with_rows c_saved_rows c_rows_of c_check_saves c_check_number c_check_program
  have c_mix := ok_mix (P := P) (w := w) (base := base) T 
  have c_next := ok_next (P := P) (w := w) (base := base) T 
  have c_alike := ok_alike (P := P) (w := w) (base := base) T 
  have c_house := ok_house (P := P) (w := w) (base := base) T c_next
  have c_number := ok_number (P := P) (w := w) (base := base) T c_next
  have c_simple := ok_simple (P := P) (w := w) (base := base) T c_number c_next
  have c_calling := ok_calling (P := P) (w := w) (base := base) T c_next c_number
  have c_zeroed := ok_zeroed (P := P) (w := w) (base := base) T c_next c_simple
  have c_kept := ok_kept (P := P) (w := w) (base := base) T c_number c_next c_calling c_zeroed c_simple
  have c_program := ok_program (P := P) (w := w) (base := base) T c_kept c_next c_house
  have c_wild_row := ok_wild_row (P := P) (w := w) (base := base) T c_next c_number
  have c_odd := ok_odd (P := P) (w := w) (base := base) T c_next c_wild_row
  have c_wild := ok_wild (P := P) (w := w) (base := base) T c_next c_wild_row c_house
  have c_any := ok_any (P := P) (w := w) (base := base) T c_odd c_next c_program c_wild
  have c_saves := ok_saves (P := P) (w := w) (base := base) T c_next
  have c_put_in_ := ok_put_in_ (P := P) (w := w) (base := base) T 
  have c_law := ok_law (P := P) (w := w) (base := base) T c_put_in c_next c_alike c_put_in_ c_saves c_any c_mix tb
  exact c_law
end
end LW
open PySem PySem.W PySem.Calls PyProof.Rows
set_option maxHeartbeats 0 in
set_option maxRecDepth 100000 in
theorem PySem.Challenge.cw_callpact_k11_saves_put_in_holds : PySem.Challenge.rw_callpact_k11_saves_put_in.Holds := by
  w_on; o_law
  refine HandSHeadRun.head_any (r := LW.Rw) (q := view LW.Rw.prog [62]) (H := LW.hk) (ob := LW.ob) (M := 6000) (loose := LW.loose) (d := HandSHeadRun.topDef LW.Rw.prog 62) (kwd := []) LW.ob_eq
    (by kernel_rfl) (fun s => by kernel_rfl) LW.run (by kernel_rfl) (by kernel_rfl) (by kernel_rfl) (by rfl) (by first | assumption | decide +kernel) (by decide +kernel) ⟨rfl, rfl, rfl, rfl, rfl, by decide +kernel⟩ ?hw ?hc
  case hw => w_witness2
  case hc =>
    refine LamX.walk_ofTsE (l := PySem.Challenge.rw_callpact_k11_saves_put_in) (n := 63) (k := 9) (x := "_law_script") (CX := fun w => L2.CX PySem.Challenge.pw_callpact_k11_saves_put_in w) rfl (by decide) (by kernel_rfl) ⟨rfl, by decide, by decide⟩ ?F (fun w H s e s2 z => ?_)
    · intro w mg fa h Y G hmg0
      obtain ⟨K, KX, c⟩ := Y
      have T : LW.Top w K mg := ⟨⟨h, KX, G, c⟩⟩
      have hmg : mg ("law" : PySem.Str) = some (.ref fa) := by
        have e : (HandSHeadRun.topDef LW.Rw.prog 62).name = ("law" : PySem.Str) := by kernel_rfl
        rw [← e]
        exact hmg0
      exact ⟨K, KX, LW.law_end (T.c.def_ 39 (d := LW.d_law) rfl) hmg (LW.t_glo_law T) (fun p hp => ⟨c.empty p hp, c.out p hp, PySem.W.codeHd_of_K KX (c.hd p hp)⟩) (fun base tb => LW.all_law (P := PySem.Challenge.pw_callpact_k11_saves_put_in) (base := base) T (tb _ (.head _))) (LW.m_law_ok (K := K))⟩
    · obtain ⟨a, B, H2, cls, d, _, _, _, _, _, _, _, z⟩ := z
      exact z
