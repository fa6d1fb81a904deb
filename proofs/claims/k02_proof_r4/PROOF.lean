import PyProof.Rows.All
import Wide.All
import OpenK.AllK
import Wide.FinOn
import HandS.ForMost
import HandS.StrMore
import HandS.ForExc
import HandS.WideBits
import HandS.TupAny
import HandS.IsInst
import HandS.Exc
import HandS.WordsExc
import HandS.TupMul
import HandS.Property
import KE.KOpsOwn
import PyProof.ReprRoads
import HandS.RaiseMore
import HandS.Records
import HandS.FStr
import HandS.Iter
import HandS.Zip
import HandS.Rev
import HandS.Style
import PyProof.FString3
import PyProof.Rows.StrIntSpec
import PyProof.Rows.RegStrFacts
import HandS.ClsMeth
import HandS.HeadHook2
import HandS.HeadEnd
import HandS.Head2
import KE.KStateDown
import KE.KIntText
import PyProof.StrLawsLast
import PyProof.StrLawsIn
import PySem.Challenge.RW_wallwalks_k02_goldens
set_option Elab.async false
/-! Mir0: a small language of pure data, with one store of things that change; what a program of it does. -/
namespace Mir
open PySem

/-- data: what does not change is told whole; mref n is the n-th thing of the store -/
inductive D where
  | non
  | bl (b : Bool)
  | int (i : Int)
  | str (s : Str)
  | tup (ds : List D)
  | lst (ds : List D)
  /-- a list that is read alone -/
  | scr (ds : List D)
  | obj (c : Nat) (fs : List (Nat × D))
  | mref (n : Nat)

inductive Cell where
  | lst (ds : List D)
  | ins (c : Nat) (fs : List (Nat × D))

abbrev Sto := List Cell
abbrev Sl := List (Option D)

/-- ex: an own error of the class c, with what it bears -/
inductive R (α : Type) where
  | ok (a : α) (st : Sto)
  | ex (c : Nat) (fs : List (Nat × D)) (st : Sto)
  | no

def R.bind {α β : Type} : R α → (α → Sto → R β) → R β
  | .ok a st, f => f a st
  | .ex c fs st, _ => .ex c fs st
  | .no, _ => .no
@[simp] theorem R.bind_ex {α β : Type} (c : Nat) (fs : List (Nat × D)) (st : Sto) (f : α → Sto → R β) : (R.ex c fs st : R α).bind f = .ex c fs st := rfl
@[simp] theorem R.bind_ok {α β : Type} (a : α) (st : Sto) (f : α → Sto → R β) : (R.ok a st).bind f = f a st := rfl
@[simp] theorem R.bind_no {α β : Type} (f : α → Sto → R β) : (R.no : R α).bind f = .no := rfl
/-- where nothing may be raised -/
def R.calm {α : Type} : R α → R α
  | .ok a st => .ok a st
  | _ => .no
@[simp] theorem R.calm_ok {α : Type} (a : α) (st : Sto) : (R.ok a st).calm = .ok a st := rfl
def opt {α : Type} (o : Option α) (st : Sto) : R α := match o with
  | some a => .ok a st
  | none => .no
@[simp] theorem opt_some {α : Type} (a : α) (st : Sto) : opt (some a) st = .ok a st := rfl
@[simp] theorem opt_none {α : Type} (st : Sto) : opt (none : Option α) st = .no := rfl

/-- built-in functions that are called by name -/
inductive Bi where
  | len | abs | max | min | int | str | bool | repr | divmod | tuple | list | sum | any | all | sorted
  deriving DecidableEq

/-- what isinstance asks for -/
inductive Ty where
  | int | bool | str | tuple | list | own (c : Nat)
  deriving DecidableEq

mutual
inductive E where
  | var (i : Nat)
  | lit (d : D)
  | glob (x : Nat)
  | tup (es : List E)
  | lstF (es : List E)
  | lstO (es : List E)
  | bin (op : Operator) (a b : E)
  | neg (a : E)
  | cmp (op : CmpOp) (a b : E)
  | cmp2 (o1 o2 : CmpOp) (a b c : E)
  | andE (es : List E)
  | orE (es : List E)
  | notE (a : E)
  | ife (c a b : E)
  | idx (a i : E)
  | slc (a : E) (lo hi : Option E)
  | attr (a : E) (f : Nat)
  /-- sh: the number of the call's shape, what is called counted in -/
  | call (f : Nat) (args : List E) (sh : Nat)
  | make (c : Nat) (args : List E) (sh : Nat)
  /-- a method of an own thing -/
  | meth (o : E) (m : Nat) (args : List E) (sh : Nat)
  /-- a method of a text -/
  | smeth (o : E) (m : Nat) (args : List E)
  /-- append to a list of the store -/
  | app (o a : E)
  | bi (b : Bi) (args : List E)
  | isi (a : E) (t : Ty)
  | comp (own : List Nat) (t : Tg) (it : It) (ifs : List E) (elt : E)
  | fplain (a : E)
  | fplus (a : E)
  | fstr (es : List E)
inductive It where
  | val (e : E)
  | rng1 (e : E)
  | rng2 (a b : E)
  | rev (e : E)
  | enum (e : E)
  | zip (a b : E)
inductive Tg where
  | name (i : Nat)
  | tup (ts : List Tg)
  | idx (a i : E)
  | attr (a : E) (f : Nat)
end

inductive S where
  | asg (t : Tg) (e : E)
  | par (is : List Nat) (es : List E)
  | ifs (c : E) (a b : List S)
  | for_ (t : Tg) (it : It) (body : List S)
  | whl (c : E) (body : List S)
  | ret (e : E)
  | retN
  | ex (e : E)
  | pass
  | brk
  | cnt
  | never
  | rse (c : Nat) (args : List E)

/-- a def: parameters, slots, does it hand out a thing of the store, body -/
structure Fn where
  n : Nat
  m : Nat
  leaks : Bool
  body : List S

structure Tab where
  fn : Nat → Option Fn
  gl : Nat → Option D
  has : Nat → Bool
  prop : Nat → Nat → Option Nat
  fld : Nat → Nat → Bool
  mth : Nat → Nat → Option Nat
  init : Nat → Option Nat
  exc : Nat → Option (List Nat)
  shp : Nat → Nat → Option (List (Nat ⊕ D))

/-! ### values -/
/-- the product's size is told -/
def mulOk (i j : Int) : Bool := decide (i.natAbs.log2 + j.natAbs.log2 < 1000000)
def divOk (j : Int) : Bool := decide (j.natAbs.log2 < 9000)
def guardO {α : Type} (p : Prop) [Decidable p] (a : α) : Option α := if p then some a else none
theorem guardO_some {α : Type} {p : Prop} [Decidable p] {a b : α} (h : guardO p a = some b) : p ∧ a = b := by
  unfold guardO at h
  by_cases c : p
  · rw [if_pos c] at h
    exact ⟨c, Option.some.inj h⟩
  · rw [if_neg c] at h
    cases h
/-- ints -/
def intBin : Operator → Int → Int → Option Int
  | .Add, i, j => some (i + j)
  | .Sub, i, j => some (i - j)
  | .Mult, i, j => guardO (mulOk i j = true) (i * j)
  | .FloorDiv, i, j => guardO (0 < j ∧ divOk j = true) (i / j)
  | .Mod, i, j => guardO (0 < j) (i % j)
  | .Pow, i, j => guardO (0 ≤ j ∧ j ≤ 1000000 ∧ i.natAbs < 2 ^ 64) (i ^ j.toNat)
  | .LShift, i, j => guardO (0 ≤ j ∧ j ≤ 1000000 ∧ i.natAbs < 2 ^ 64) (i * 2 ^ j.toNat)
  | .RShift, i, j => guardO (0 ≤ j) (i / 2 ^ j.toNat)
  | .BitAnd, i, j => some (Builtin.bitAnd i j)
  | _, _, _ => none

/-- reserved names of own operators -/
def dun : Operator → Nat
  | .Add => 1
  | .Sub => 2
  | .Mult => 3
  | .Pow => 4
  | _ => 0
def rdun : Operator → Nat
  | .Add => 11
  | .Sub => 12
  | .Mult => 13
  | _ => 0
def dNeg : Nat := 20
def dEq : Nat := 21
def dBool : Nat := 22

def sz : Nat := 16777216
def fits {α : Type} (l : List α) : Bool := decide (l.length ≤ sz)


/-! ### plain data -/
mutual
/-- no own things in it, no thing of the store, not too deep, the texts' signs in bounds -/
def pl : Nat → D → Bool
  | _, .non => true
  | _, .bl _ => true
  | _, .int _ => true
  | _, .str s => PyData.strOk s
  | 0, .tup _ => false
  | n + 1, .tup ds => pls n ds
  | 0, .lst _ => false
  | n + 1, .lst ds => pls n ds
  | _, .scr _ => false
  | _, .obj _ _ => false
  | _, .mref _ => false
def pls : Nat → List D → Bool
  | _, [] => true
  | n, d :: ds => pl n d && pls n ds
end
mutual
def eqv : D → D → Bool
  | .non, .non => true
  | .bl a, .bl b => a == b
  | .bl a, .int j => (if a then 1 else 0) == j
  | .int i, .bl b => i == (if b then 1 else 0)
  | .int i, .int j => decide (i = j)
  | .str x, .str y => decide (x = y)
  | .tup xs, .tup ys => eqvs xs ys
  | .lst xs, .lst ys => eqvs xs ys
  | _, _ => false
def eqvs : List D → List D → Bool
  | [], [] => true
  | x :: xs, y :: ys => eqv x y && eqvs xs ys
  | [], _ :: _ => false
  | _ :: _, [] => false
end
/-- two that are compared by their kind and value at once -/
def flat2 : D → D → Option Bool
  | .non, .non => some true
  | .int i, .int j => some (decide (i = j))
  | .bl a, .bl b => some (decide (a = b))
  | .str x, .str y => some (decide (x = y))
  | .int _, .str _ => some false
  | .str _, .int _ => some false
  | .non, .int _ => some false
  | .int _, .non => some false
  | .non, .str _ => some false
  | .str _, .non => some false
  | .non, .bl _ => some false
  | .bl _, .non => some false
  | _, _ => none
def eqD (a b : D) : Option Bool := match flat2 a b with
  | some k => some k
  | none => if pl 60 a && pl 60 b then some (eqv a b) else none

mutual
/-- names things of the store below n alone -/
def bel (n : Nat) : D → Bool
  | .tup ds => bels n ds
  | .lst ds => bels n ds
  | .scr ds => bels n ds
  | .obj _ fs => belF n fs
  | .mref m => decide (m < n)
  | .non => true
  | .bl _ => true
  | .int _ => true
  | .str _ => true
def bels (n : Nat) : List D → Bool
  | [] => true
  | d :: ds => bel n d && bels n ds
def belF (n : Nat) : List (Nat × D) → Bool
  | [] => true
  | (_, d) :: ds => bel n d && belF n ds
end
def belC (n : Nat) : Cell → Bool
  | .lst ds => bels n ds
  | .ins _ fs => belF n fs
/-- the things of the store stand as they stood, or hold older ones alone -/
def Kp (st st1 : Sto) : Prop := ∀ m c, m < st.length → st1[m]? = some c → st[m]? = some c ∨ belC st.length c = true
theorem Kp.app (st l : Sto) : Kp st (st ++ l) := fun m c hm h => .inl (by rwa [List.getElem?_append_left hm] at h)
theorem Kp.setApp (st l : Sto) (k : Nat) (x : Cell) (hx : belC st.length x = true) : Kp st (st.set k x ++ l) := fun m c hm h => by
  rw [List.getElem?_append_left (by rw [List.length_set]; exact hm)] at h
  by_cases e : k = m
  · subst e
    rw [List.getElem?_set_self hm] at h
    cases h
    exact .inr hx
  · rw [List.getElem?_set_ne e] at h
    exact .inl h
open Classical in
/-- what is told of a def's value, its own things forgotten -/
noncomputable def trim {α : Type} (st : Sto) (ok : Bool) (a : α) (st1 : Sto) : R α :=
  if st1.length = st.length then .ok a st1 else if ok = true ∧ st.length ≤ st1.length ∧ Kp st st1 then .ok a (st1.take st.length) else .no
open Classical in
noncomputable def trimX (st : Sto) (c : Nat) (fs : List (Nat × D)) (st1 : Sto) : R D :=
  if st1.length = st.length then .ex c fs st1 else if belF st.length fs = true ∧ st.length ≤ st1.length ∧ Kp st st1 then .ex c fs (st1.take st.length) else .no
@[simp] theorem trim_same {α : Type} {st st1 : Sto} {ok : Bool} {a : α} (h : st1.length = st.length) : trim st ok a st1 = .ok a st1 := if_pos h
theorem trim_app {α : Type} {st : Sto} (x : Cell) (l : Sto) {ok : Bool} {a : α} (h : ok = true) : trim st ok a (st ++ x :: l) = .ok a st := by
  have h1 : ¬ (st ++ x :: l).length = st.length := by rw [List.length_append, List.length_cons]; omega
  unfold trim
  rw [if_neg h1, if_pos ⟨h, by rw [List.length_append]; omega, Kp.app _ _⟩, List.take_left']
  rfl
theorem trim_setApp {α : Type} {st : Sto} (k : Nat) (y x : Cell) (l : Sto) {ok : Bool} {a : α} (h : ok = true) (hy : belC st.length y = true) : trim st ok a (st.set k y ++ x :: l) = .ok a (st.set k y) := by
  have h1 : ¬ (st.set k y ++ x :: l).length = st.length := by rw [List.length_append, List.length_cons, List.length_set]; omega
  unfold trim
  rw [if_neg h1, if_pos ⟨h, by rw [List.length_append, List.length_set]; omega, Kp.setApp _ _ _ _ hy⟩, List.take_left' (by rw [List.length_set])]

/-! ### items, slices -/
def ixN (n : Nat) (i : Int) : Option Nat := if 0 ≤ i then (if i < n then some i.toNat else none) else if -(n : Int) ≤ i then some (i + n).toNat else none
def atI {α : Type} (xs : List α) (i : Int) : Option α := (ixN xs.length i).bind fun j => xs[j]?
def sIx (n d : Nat) : Option Int → Nat
  | none => d
  | some v => if v < 0 then (v + (n : Int)).toNat else min v.toNat n
def cut {α : Type} (xs : List α) (lo hi : Option Int) : List α := (xs.drop (sIx xs.length 0 lo)).take (sIx xs.length xs.length hi - sIx xs.length 0 lo)

/-- the items of a list or a tuple -/
def items (st : Sto) : D → Option (List D)
  | .tup ds => some ds
  | .lst ds => some ds
  | .scr ds => some ds
  | .mref n => match st[n]? with
    | some (.lst ds) => some ds
    | _ => none
  | _ => none

def idxD (st : Sto) : D → D → Option D
  | .str z, .int i => (guardO (z.length ≤ sz) ()).bind fun _ => (atI z.cps.toList i).map fun c => .str ⟨#[c]⟩
  | a, .int i => (items st a).bind fun ds => atI ds i
  | _, _ => none
def slcD (st : Sto) (a : D) (lo hi : Option Int) : Option D := match a with
  | .str z => guardO (z.length ≤ sz) (.str ⟨(cut z.cps.toList lo hi).toArray⟩)
  | .tup ds => some (.tup (cut ds lo hi))
  | .lst ds => some (.lst (cut ds lo hi))
  | .scr ds => some (.lst (cut ds lo hi))
  | .mref n => match st[n]? with
    | some (.lst ds) => some (.lst (cut ds lo hi))
    | _ => none
  | _ => none

/-! ### truth -/
def truD (st : Sto) : D → Option Bool
  | .non => some false
  | .bl b => some b
  | .int i => some (decide (i ≠ 0))
  | .str s => guardO (s.length ≤ sz) (decide (s.length ≠ 0))
  | .tup ds => some (!ds.isEmpty)
  | .lst ds => some (!ds.isEmpty)
  | .scr ds => some (!ds.isEmpty)
  | .mref n => match st[n]? with
    | some (.lst ds) => some (!ds.isEmpty)
    | _ => none
  | .obj _ _ => none

/-! ### isinstance -/
inductive Kd where
  | non | bl | int | str | tup | lst | obj (c : Nat)
def kdD (has : Nat → Bool) : D → Option Kd
  | .non => some .non
  | .bl _ => some .bl
  | .int _ => some .int
  | .str _ => some .str
  | .tup _ => some .tup
  | .lst _ => some .lst
  | .scr _ => some .lst
  | .obj c _ => guardO (has c = true) (.obj c)
  | .mref _ => none
def isK : Ty → Kd → Bool
  | .int, .int => true
  | .int, .bl => true
  | .bool, .bl => true
  | .str, .str => true
  | .tuple, .tup => true
  | .list, .lst => true
  | .own c, .obj e => decide (e = c)
  | _, _ => false
def isD (has : Nat → Bool) (t : Ty) (d : D) : Option Bool := (kdD has d).map (isK t)

/-! ### comparisons of data -/
def cmpInt : CmpOp → Int → Int → Option Bool
  | .Lt, i, j => some (decide (i < j))
  | .LtE, i, j => some (decide (i ≤ j))
  | .Gt, i, j => some (decide (j < i))
  | .GtE, i, j => some (decide (j ≤ i))
  | _, _, _ => none
def inD (st : Sto) (a b : D) : Option Bool := match items st b with
  | some ds => if pl 0 a && pls 0 ds then some (ds.any fun d => eqv d a) else none
  | none => none
def cmpD (st : Sto) (op : CmpOp) (a b : D) : Option Bool := match op with
  | .Eq => eqD a b
  | .NotEq => (eqD a b).map (!·)
  | .Is => match b with
    | .non => some (match a with
      | .non => true
      | _ => false)
    | _ => none
  | .IsNot => match b with
    | .non => some (match a with
      | .non => false
      | _ => true)
    | _ => none
  | .In => inD st a b
  | .NotIn => (inD st a b).map (!·)
  | op => match a, b with
    | .int i, .int j => cmpInt op i j
    | _, _ => none

/-! ### built-in functions -/
def intsOf : List D → Option (List Int)
  | [] => some []
  | .int i :: r => (intsOf r).map (i :: ·)
  | _ :: _ => none
def bls : List D → Option (List Bool)
  | [] => some []
  | .bl b :: r => (bls r).map (b :: ·)
  | _ :: _ => none
mutual
/-- plain data, as the library has it -/
def toP : D → PyData
  | .non => .none
  | .bl b => .bool b
  | .int i => .int i
  | .str s => .str s
  | .tup ds => .tuple (toPs ds)
  | .lst ds => .list (toPs ds)
  | .scr _ => .none
  | .obj _ _ => .none
  | .mref _ => .none
def toPs : List D → List PyData
  | [] => []
  | d :: ds => toP d :: toPs ds
end
def strOfInt (i : Int) : Option D := guardO (i.natAbs.log2 < 1920) (.str (toString i))
/-- repr of a tuple, a list -/
def reprD (a : D) : Option D := match a with
  | .tup ds => guardO (pl 60 (.tup ds) = true ∧ (toP (.tup ds)).showable = true ∧ (toP (.tup ds)).shown.length ≤ sz) (.str (toP (.tup ds)).shown)
  | .lst ds => guardO (pl 60 (.lst ds) = true ∧ (toP (.lst ds)).showable = true ∧ (toP (.lst ds)).shown.length ≤ sz) (.str (toP (.lst ds)).shown)
  | _ => none
def biD (st : Sto) : Bi → List D → Option D
  | .len, [.str z] => guardO (z.length ≤ sz) (.int z.length)
  | .len, [a] => (items st a).map fun ds => .int ds.length
  | .abs, [.int i] => some (.int (if i < 0 then -i else i))
  | .max, [.int i, .int j] => some (.int (if j > i then j else i))
  | .min, [.int i, .int j] => some (.int (if j < i then j else i))
  | .int, [.int i] => some (.int i)
  | .int, [.bl k] => some (.int (if k then 1 else 0))
  | .int, [.str z] => (guardO (z.length ≤ 640) ()).bind fun _ => (intText? z).map .int
  | .str, [.int i] => strOfInt i
  | .str, [.str z] => some (.str z)
  | .bool, [.int i] => some (.bl (decide (i ≠ 0)))
  | .bool, [.bl k] => some (.bl k)
  | .repr, [.int i] => strOfInt i
  | .repr, [a] => reprD a
  | .divmod, [.int i, .int j] => guardO (0 < j ∧ divOk j = true) (.tup [.int (i / j), .int (i % j)])
  | .tuple, [.mref n] => (items st (.mref n)).map .tup
  | .tuple, [.lst ds] => some (.tup ds)
  | .tuple, [.tup ds] => some (.tup ds)
  | .list, [a] => (items st a).map .lst
  | .sum, [.lst ds] => (intsOf ds).map fun ns => .int ns.sum
  | .any, [.lst ds] => (bls ds).map fun bs => .bl (bs.any id)
  | .all, [.lst ds] => (bls ds).map fun bs => .bl (bs.all id)
  | _, _ => none

/-! ### methods of built-in values; their names are numbers -/
def mStartswith : Nat := 101
def mEndswith : Nat := 102
def mRfind : Nat := 103
def mIsascii : Nat := 104
def mIsdigit : Nat := 105
def mSplit : Nat := 106
def mJoin : Nat := 107
def mAppend : Nat := 108
def mPop : Nat := 109
def mStr (z : Str) (m : Nat) (ds : List D) : Option D :=
  if m = mStartswith then (match ds with
    | [.str y] => some (.bl (Txt.startswith z y))
    | _ => none)
  else if m = mEndswith then (match ds with
    | [.str y] => some (.bl (Txt.endswith z y))
    | _ => none)
  else if m = mRfind then (match ds with
    | [.str y] => some (.int (Txt.rfind z y))
    | _ => none)
  else if m = mIsascii then (match ds with
    | [] => some (.bl (Txt.isascii z))
    | _ => none)
  else if m = mIsdigit then (match ds with
    | [] => some (.bl (Txt.isdigit z))
    | _ => none)
  else none
def appD (st : Sto) (n : Nat) (d : D) : R D := match st[n]? with
  | some (.lst xs) => if xs.length < sz then .ok .non (st.set n (.lst (xs ++ [d]))) else .no
  | _ => .no
def strD (a : D) : Option Str := match a with
  | .str z => some z
  | _ => none
def mlstD (st : Sto) (a : D) : Option Nat := match a with
  | .mref n => (match st[n]? with
    | some (.lst _) => some n
    | _ => none)
  | _ => none

/-! ### what own things do by their defs -/
abbrev Cd := Nat → List D → Sto → R D
section
variable (T : Tab) (cd : Cd)
def ownM (c m : Nat) (ds : List D) (st : Sto) : R D := match T.mth c m with
  | some f => cd f ds st
  | none => .no
def binD (op : Operator) (a b : D) (st : Sto) : R D := match a, b with
  | .int i, .int j => opt ((intBin op i j).map .int) st
  | .str x, .str y => (match op with
    | .Add => if x.length + y.length ≤ sz then .ok (.str (x ++ y)) st else .no
    | _ => .no)
  | .tup xs, .tup ys => (match op with
    | .Add => if xs.length + ys.length ≤ sz then .ok (.tup (xs ++ ys)) st else .no
    | _ => .no)
  | .lst xs, .lst ys => (match op with
    | .Add => if xs.length + ys.length ≤ sz then .ok (.lst (xs ++ ys)) st else .no
    | _ => .no)
  | .obj c fs, .obj e gs => if e = c then ownM T cd c (dun op) [.obj c fs, .obj e gs] st else .no
  | .obj c fs, .int j => ownM T cd c (dun op) [.obj c fs, .int j] st
  | .int i, .obj c fs => if (T.mth c (dun op)).isSome = true then ownM T cd c (rdun op) [.obj c fs, .int i] st else .no
  | _, _ => .no
def negD (a : D) (st : Sto) : R D := match a with
  | .int i => .ok (.int (-i)) st
  | .obj c fs => ownM T cd c dNeg [.obj c fs] st
  | _ => .no
def tstD (a : D) (st : Sto) : R Bool := match a with
  | .obj c fs => (match T.mth c dBool with
    | some f => (cd f [.obj c fs] st).bind fun r st1 => (match r with
      | .bl k => .ok k st1
      | _ => .no)
    | none => .no)
  | a => opt (truD st a) st
def cmpV (op : CmpOp) (a b : D) (st : Sto) : R D := match a with
  | .obj c fs => (match op, b with
    | .Eq, .obj e gs => if e = c then ownM T cd c dEq [.obj c fs, .obj e gs] st else .no
    | .Eq, .int j => ownM T cd c dEq [.obj c fs, .int j] st
    | .NotEq, .obj e gs => if e = c then (ownM T cd c dEq [.obj c fs, .obj e gs] st).bind fun r st1 => (match r with
      | .bl k => .ok (.bl (!k)) st1
      | _ => .no) else .no
    | _, _ => .no)
  | a => opt ((cmpD st op a b).map .bl) st
def blD (d : D) (st : Sto) : R Bool := match d with
  | .bl k => .ok k st
  | _ => .no
def biV (b : Bi) (ds : List D) (st : Sto) : R D := match b, ds with
  | .bool, [.obj c fs] => (tstD T cd (.obj c fs) st).bind fun k st1 => .ok (.bl k) st1
  | b, ds => opt (biD st b ds) st
def attrD (a : D) (f : Nat) (st : Sto) : R D := match a with
  | .obj c fs => (match T.prop c f with
    | some g => (cd g [.obj c fs] st).calm
    | none => if T.fld c f = true then opt (fs.lookup f) st else .no)
  | .mref n => (match st[n]? with
    | some (.ins c fs) => (match T.prop c f with
      | some _ => .no
      | none => if T.fld c f = true then opt (fs.lookup f) st else .no)
    | _ => .no)
  | _ => .no
def bindD (ds : List D) : List (Nat ⊕ D) → Option (List D)
  | [] => some []
  | .inl j :: r => match ds[j]?, bindD ds r with
    | some d, some l => some (d :: l)
    | _, _ => none
  | .inr d :: r => (bindD ds r).map (d :: ·)
def callD (f : Nat) (ds : List D) (sh : Nat) (st : Sto) : R D := match T.shp f sh with
  | some bd => (match bindD ds bd with
    | some l => cd f l st
    | none => .no)
  | none => .no
/-- the method of an own thing -/
def methF (a : D) (m : Nat) : Option Nat := match a with
  | .obj c fs => (match T.mth c m with
    | some f => guardO ((fs.lookup m).isNone = true) f
    | none => none)
  | _ => none
/-- behind an __init__ -/
noncomputable def madeD (c : Nat) (st : Sto) (r : D) (st1 : Sto) : R D := match r, st1[st.length]? with
  | .non, some (.ins e fs) => if e = c then trim st (belF st.length fs) (.obj c fs) st1 else .no
  | _, _ => .no
noncomputable def makeD (c : Nat) (ds : List D) (sh : Nat) (st : Sto) : R D := match T.init c with
  | some f => (callD T cd f (.mref st.length :: ds) sh (st ++ [.ins c []])).bind (madeD c st)
  | none => .no
end

/-- putting an attribute -/
def putA (f : Nat) (d : D) : List (Nat × D) → List (Nat × D)
  | [] => [(f, d)]
  | (g, e) :: r => if g = f then (g, d) :: r else (g, e) :: putA f d r
/-- o[i] = d -/
def setI (st : Sto) (o i d : D) : Option Sto := match o, i with
  | .mref n, .int k => (match st[n]? with
    | some (.lst xs) => (ixN xs.length k).map fun j => st.set n (.lst (xs.set j d))
    | _ => none)
  | _, _ => none
def setAt (fld : Nat → Nat → Bool) (st : Sto) (o : D) (f : Nat) (d : D) : Option Sto := match o with
  | .mref n => (match st[n]? with
    | some (.ins c fs) => guardO (fld c f = true ∧ fs.length < 1000) (st.set n (.ins c (putA f d fs)))
    | _ => none)
  | _ => none

def wipeD (σ : Sl) : List Nat → Sl
  | [] => σ
  | v :: vs => (wipeD σ vs).set v none
open Classical in
/-- a list made turn by turn -/
noncomputable def compD (ok : Sto → Prop) (tg : D → Sl → Sto → R Sl) (ifs : Sl → Sto → R Bool) (elt : Sl → Sto → R D) : List D → Sl → Sto → R (List D)
  | [], _, st => if ok st then .ok [] st else .no
  | d :: r, σ, st => if ok st then ((tg d σ st).bind fun σ1 st1 => (ifs σ1 st1).bind fun k st2 =>
      if k = true then (elt σ1 st2).bind fun x st3 => (compD ok tg ifs elt r σ st3).bind fun xs st4 => .ok (x :: xs) st4
      else compD ok tg ifs elt r σ st2) else .no

/-! ### what a walk gives -/
def rngI (lo : Int) : Nat → List D
  | 0 => []
  | n + 1 => .int lo :: rngI (lo + 1) n
def enumI (i : Int) : List D → List D
  | [] => []
  | d :: r => .tup [.int i, d] :: enumI (i + 1) r
def zipI : List D → List D → List D
  | a :: r, b :: q => .tup [a, b] :: zipI r q
  | _, _ => []

/-- what a walk meets, and what must stay while it goes on -/
def walkD (st : Sto) (a : D) : Option (List D × (Sto → Prop)) := match a with
  | .tup ds => some (ds, fun _ => True)
  | .lst ds => some (ds, fun _ => True)
  | .scr ds => some (ds, fun _ => True)
  | .mref n => (match st[n]? with
    | some (.lst ds) => some (ds, fun st1 => st1[n]? = some (.lst ds))
    | _ => none)
  | _ => none
def walkL (st : Sto) (a : D) : Option (List D × (Sto → Prop)) := match a with
  | .tup _ => none
  | a => walkD st a

/-! ### expressions -/
noncomputable section
variable (T : Tab) (cd : Cd)
mutual
def evE : E → Sl → Sto → R D
  | .var i, σ, st => match σ[i]? with
    | some (some d) => .ok d st
    | _ => .no
  | .lit d, _, st => .ok d st
  | .glob x, _, st => opt (T.gl x) st
  | .tup es, σ, st => (evEs es σ st).bind fun ds st1 => if fits ds then .ok (.tup ds) st1 else .no
  | .lstF es, σ, st => (evEs es σ st).bind fun ds st1 => if fits ds then .ok (.lst ds) st1 else .no
  | .lstO es, σ, st => (evEs es σ st).bind fun ds st1 => if fits ds then .ok (.mref st1.length) (st1 ++ [.lst ds]) else .no
  | .bin op a b, σ, st => (evE a σ st).bind fun x st1 => (evE b σ st1).bind fun y st2 => binD T cd op x y st2
  | .neg a, σ, st => (evE a σ st).bind fun x st1 => negD T cd x st1
  | .cmp op a b, σ, st => (evE a σ st).bind fun x st1 => (evE b σ st1).bind fun y st2 => cmpV T cd op x y st2
  | .cmp2 o1 o2 a b c, σ, st => (evE a σ st).bind fun x st1 => (evE b σ st1).bind fun y st2 => (cmpV T cd o1 x y st2).bind fun r st3 => (match r with
      | .bl true => (evE c σ st3).bind fun z st4 => cmpV T cd o2 y z st4
      | .bl false => .ok (.bl false) st3
      | _ => .no)
  | .andE es, σ, st => evAnd es σ st
  | .orE es, σ, st => evOr es σ st
  | .notE a, σ, st => (evE a σ st).bind fun x st1 => (match x with
      | .bl k => .ok (.bl (!k)) st1
      | _ => .no)
  | .ife c a b, σ, st => (evT c σ st).bind fun k st1 => if k = true then evE a σ st1 else evE b σ st1
  | .idx a i, σ, st => (evE a σ st).bind fun x st1 => (evE i σ st1).bind fun y st2 => opt (idxD st2 x y) st2
  | .slc a lo hi, σ, st => (evE a σ st).bind fun x st1 => (evO lo σ st1).bind fun l st2 => (evO hi σ st2).bind fun h st3 => opt (slcD st3 x l h) st3
  | .attr a f, σ, st => (evE a σ st).bind fun x st1 => attrD T cd x f st1
  | .call f args sh, σ, st => (evEs args σ st).bind fun ds st1 => callD T cd f ds sh st1
  | .make c args sh, σ, st => (evEs args σ st).bind fun ds st1 => makeD T cd c ds sh st1
  | .meth o m args sh, σ, st => (evE o σ st).bind fun x st1 => (opt (methF T x m) st1).bind fun f st2 => (evEs args σ st2).bind fun ds st3 => callD T cd f (x :: ds) sh st3
  | .smeth o m args, σ, st => (evE o σ st).bind fun x st1 => (opt (strD x) st1).bind fun z st2 => (evEs args σ st2).bind fun ds st3 => opt (mStr z m ds) st3
  | .app o a, σ, st => (evE o σ st).bind fun x st1 => (opt (mlstD st1 x) st1).bind fun n st2 => (evE a σ st2).bind fun d st3 => appD st3 n d
  | .bi b args, σ, st => (evEs args σ st).bind fun ds st1 => biV T cd b ds st1
  | .isi a t, σ, st => (evE a σ st).bind fun x st1 => opt ((isD T.has t x).map .bl) st1
  | .comp own t it ifs elt, σ, st => (evIt it σ st).bind fun w st1 => (compD w.2 (fun d σ st => evTg t d σ st) (fun σ st => evIfs ifs σ st) (fun σ st => evE elt σ st) w.1 (wipeD σ own) st1).calm.bind fun rs st2 => if fits rs then .ok (.lst rs) st2 else .no
  | .fplain a, σ, st => (evE a σ st).bind fun x st1 => (match x with
      | .str z => if z.length ≤ sz then .ok (.str z) st1 else .no
      | .int i => opt (strOfInt i) st1
      | _ => .no)
  | .fplus a, σ, st => (evE a σ st).bind fun x st1 => (match x with
      | .int i => if i.natAbs.log2 < 1900 then .ok (.str (if 0 ≤ i then (⟨#[43]⟩ : Str) ++ (toString i : Str) else (toString i : Str))) st1 else .no
      | _ => .no)
  | .fstr es, σ, st => evStr es Str.empty σ st
def evEs : List E → Sl → Sto → R (List D)
  | [], _, st => .ok [] st
  | e :: es, σ, st => (evE e σ st).bind fun d st1 => (evEs es σ st1).bind fun ds st2 => .ok (d :: ds) st2
def evO : Option E → Sl → Sto → R (Option Int)
  | none, _, st => .ok none st
  | some e, σ, st => (evE e σ st).bind fun d st1 => (match d with
      | .int i => .ok (some i) st1
      | _ => .no)
def evAnd : List E → Sl → Sto → R D
  | [], _, _ => .no
  | [e], σ, st => evE e σ st
  | e :: f :: r, σ, st => (evE e σ st).bind fun d st1 => (match d with
      | .bl true => evAnd (f :: r) σ st1
      | .bl false => .ok (.bl false) st1
      | _ => .no)
def evOr : List E → Sl → Sto → R D
  | [], _, _ => .no
  | [e], σ, st => evE e σ st
  | e :: f :: r, σ, st => (evE e σ st).bind fun d st1 => (match d with
      | .bl false => evOr (f :: r) σ st1
      | .bl true => .ok (.bl true) st1
      | _ => .no)
def evStr : List E → Str → Sl → Sto → R D
  | [], acc, _, st => .ok (.str acc) st
  | e :: r, acc, σ, st => (evE e σ st).bind fun d st1 => (match d with
      | .str y => if (acc ++ y).length ≤ sz then evStr r (acc ++ y) σ st1 else .no
      | _ => .no)
/-- a test -/
def evT : E → Sl → Sto → R Bool
  | .andE es, σ, st => evTA es σ st
  | .orE es, σ, st => evTO es σ st
  | .notE a, σ, st => (evT a σ st).bind fun k st1 => .ok (!k) st1
  | .ife c a b, σ, st => (evT c σ st).bind fun k st1 => if k = true then evT a σ st1 else evT b σ st1
  | .cmp op a b, σ, st => ((evE a σ st).bind fun x st1 => (evE b σ st1).bind fun y st2 => cmpV T cd op x y st2).bind blD
  | .cmp2 o1 o2 a b c, σ, st => ((evE a σ st).bind fun x st1 => (evE b σ st1).bind fun y st2 => (cmpV T cd o1 x y st2).bind fun r st3 => (match r with
      | .bl true => (evE c σ st3).bind fun z st4 => cmpV T cd o2 y z st4
      | .bl false => .ok (.bl false) st3
      | _ => .no)).bind blD
  | e, σ, st => (evE e σ st).bind fun d st1 => tstD T cd d st1
def evTA : List E → Sl → Sto → R Bool
  | [], _, _ => .no
  | [e], σ, st => evT e σ st
  | e :: f :: r, σ, st => (evT e σ st).bind fun k st1 => if k = true then evTA (f :: r) σ st1 else .ok false st1
def evTO : List E → Sl → Sto → R Bool
  | [], _, _ => .no
  | [e], σ, st => evT e σ st
  | e :: f :: r, σ, st => (evT e σ st).bind fun k st1 => if k = true then .ok true st1 else evTO (f :: r) σ st1
def evIfs : List E → Sl → Sto → R Bool
  | [], _, st => .ok true st
  | e :: r, σ, st => (evT e σ st).bind fun k st1 => if k = true then evIfs r σ st1 else .ok false st1
def evIt : It → Sl → Sto → R (List D × (Sto → Prop))
  | .val e, σ, st => (evE e σ st).bind fun d st1 => opt (walkD st1 d) st1
  | .rng1 e, σ, st => (evE e σ st).bind fun d st1 => (match d with
      | .int n => if -(2 ^ 62) ≤ n ∧ n < 2 ^ 62 then .ok (rngI 0 n.toNat, fun _ => True) st1 else .no
      | _ => .no)
  | .rng2 a b, σ, st => (evE a σ st).bind fun x st1 => (evE b σ st1).bind fun y st2 => (match x, y with
      | .int i, .int j => if (-(2 ^ 62) ≤ i ∧ i < 2 ^ 62) ∧ -(2 ^ 62) ≤ j ∧ j < 2 ^ 62 then .ok (rngI i (j - i).toNat, fun _ => True) st2 else .no
      | _, _ => .no)
  | .rev e, σ, st => (evE e σ st).bind fun d st1 => opt ((walkD st1 d).map fun w => (w.1.reverse, w.2)) st1
  | .enum e, σ, st => (evE e σ st).bind fun d st1 => opt ((walkL st1 d).map fun w => (enumI 0 w.1, w.2)) st1
  | .zip a b, σ, st => (evE a σ st).bind fun x st1 => (evE b σ st1).bind fun y st2 => (match walkL st2 x, walkL st2 y with
      | some v, some w => .ok (zipI v.1 w.1, fun st => v.2 st ∧ w.2 st) st2
      | _, _ => .no)
def evTg : Tg → D → Sl → Sto → R Sl
  | .name i, d, σ, st => .ok (σ.set i (some d)) st
  | .tup ts, d, σ, st => match d with
    | .tup ds => if ds.length = ts.length then evTgs ts ds σ st else .no
    | _ => .no
  | .idx a i, d, σ, st => (evE a σ st).bind fun x st1 => (evE i σ st1).bind fun y st2 => (match setI st2 x y d with
      | some st3 => .ok σ st3
      | none => .no)
  | .attr a f, d, σ, st => (evE a σ st).bind fun x st1 => (match setAt T.fld st1 x f d with
      | some st3 => .ok σ st3
      | none => .no)
def evTgs : List Tg → List D → Sl → Sto → R Sl
  | [], [], σ, st => .ok σ st
  | t :: ts, d :: ds, σ, st => (evTg t d σ st).bind fun σ1 st1 => evTgs ts ds σ1 st1
  | _, _, _, _ => .no
end

/-! ### statements -/
inductive O where
  | ex (c : Nat) (fs : List (Nat × D)) (st : Sto)
  | nxt (σ : Sl) (st : Sto)
  | ret (d : D) (st : Sto)
  | brk (σ : Sl) (st : Sto)
  | cnt (σ : Sl) (st : Sto)
  | no
/-- behind a value -/
def toO {α : Type} : R α → (α → Sto → O) → O
  | .ok a st, f => f a st
  | .ex c fs st, _ => .ex c fs st
  | .no, _ => .no
def O.then_ : O → (Sl → Sto → O) → O
  | .nxt σ st, f => f σ st
  | o, _ => o
open Classical in
noncomputable def forD (ok : Sto → Prop) (tg : D → Sl → Sto → R Sl) (body : Sl → Sto → O) : List D → Sl → Sto → O
  | [], σ, st => if ok st then .nxt σ st else .no
  | d :: r, σ, st => if ok st then (toO (tg d σ st) fun σ1 st1 => match body σ1 st1 with
    | .nxt σ2 st2 => forD ok tg body r σ2 st2
    | .cnt σ2 st2 => forD ok tg body r σ2 st2
    | .brk σ2 st2 => .nxt σ2 st2
    | .ret d st2 => .ret d st2
    | .ex c fs st2 => .ex c fs st2
    | .no => .no) else .no
def whlD (c : Sl → Sto → R Bool) (body : Sl → Sto → O) : Nat → Sl → Sto → O
  | 0, _, _ => .no
  | n + 1, σ, st => toO (c σ st) fun k st1 => if k = true then (match body σ st1 with
      | .nxt σ2 st2 => whlD c body n σ2 st2
      | .cnt σ2 st2 => whlD c body n σ2 st2
      | .brk σ2 st2 => .nxt σ2 st2
      | .ret d st2 => .ret d st2
      | .ex c fs st2 => .ex c fs st2
      | .no => .no) else .nxt σ st1
def parD : List Nat → List D → Sl → Option Sl
  | [], [], σ => some σ
  | i :: is, d :: ds, σ => parD is ds (σ.set i (some d))
  | _, _, _ => none
def fuel : Nat := 1000000
mutual
def exS : S → Sl → Sto → O
  | .asg t e, σ, st => toO (evE T cd e σ st) fun d st1 => toO (evTg T cd t d σ st1) fun σ1 st2 => .nxt σ1 st2
  | .par is es, σ, st => toO (evEs T cd es σ st) fun ds st1 => (match parD is ds σ with
      | some σ1 => .nxt σ1 st1
      | none => .no)
  | .ifs c a b, σ, st => toO (evT T cd c σ st) fun k st1 => if k = true then exSs a σ st1 else exSs b σ st1
  | .for_ t it body, σ, st => toO (evIt T cd it σ st) fun w st1 => forD w.2 (fun d σ st => evTg T cd t d σ st) (fun σ st => exSs body σ st) w.1 σ st1
  | .whl c body, σ, st => whlD (fun σ st => evT T cd c σ st) (fun σ st => exSs body σ st) fuel σ st
  | .ret e, σ, st => toO (evE T cd e σ st) fun d st1 => .ret d st1
  | .retN, _, st => .ret .non st
  | .ex e, σ, st => toO (evE T cd e σ st) fun _ st1 => .nxt σ st1
  | .pass, σ, st => .nxt σ st
  | .brk, σ, st => .brk σ st
  | .cnt, σ, st => .cnt σ st
  | .never, _, _ => .no
  | .rse c args, σ, st => toO (evEs T cd args σ st) fun ds st1 => (match T.exc c with
      | some fs => if fs.length = ds.length then .ex c (fs.zip ds) st1 else .no
      | none => .no)
def exSs : List S → Sl → Sto → O
  | [], σ, st => .nxt σ st
  | s :: r, σ, st => (exS s σ st).then_ fun σ1 st1 => exSs r σ1 st1
end
end
/-- the slots at a def's start -/
def startD (m : Nat) (ds : List D) : Sl := ds.map some ++ List.replicate (m - ds.length) none
/-- a call, k calls deep -/
noncomputable def run (T : Tab) : Nat → Cd
  | 0, _, _, _ => .no
  | k + 1, f, ds, st => match T.fn f with
    | some fn => if ds.length = fn.n then (match exSs T (run T k) fn.body (startD fn.m ds) st with
        | .ret d st1 => if fn.leaks = true then .ok d st1 else trim st (bel st.length d) d st1
        | .nxt _ st1 => trim st true .non st1
        | .ex c fs st1 => trimX st c fs st1
        | _ => .no) else .no
    | none => .no
end Mir

set_option Elab.async false
set_option linter.all false
set_option maxRecDepth 100000
/-! Mir1: how data stand in the machine's heap. -/
namespace Mir
open PySem L2

/-- what is fixed: the written part, where the classes stand, the names of the attributes -/
structure Lk where
  K : PySem.W.Frag
  ca : Nat → Addr
  nm : Nat → Option Str
  /-- shapes of calls: how many by position, which by name -/
  sh : Nat → Nat × List Str
  inj : ∀ i j x, nm i = some x → nm j = some x → i = j

/-- what is known of the heap: what never changes any more, where the things of the store stand, how many there are -/
structure Wd where
  G : Hp
  r : Nat → Option Addr
  L : Nat
  /-- what others have under way, and nobody touches -/
  F : Hp

structure Wd.Le0 (a b : Wd) : Prop where
  g : Same a.G b.G
  l : a.L ≤ b.L
  r : ∀ n, n < a.L → b.r n = a.r n
structure Wd.Le (a b : Wd) : Prop extends Wd.Le0 a b where
  f : b.F = a.F
theorem Wd.Le0.refl (a : Wd) : a.Le0 a := ⟨Same.refl _, Nat.le_refl _, fun _ _ => rfl⟩
theorem Wd.Le0.trans {a b c : Wd} (x : a.Le0 b) (y : b.Le0 c) : a.Le0 c :=
  ⟨x.g.trans y.g, Nat.le_trans x.l y.l, fun n h => (y.r n (Nat.lt_of_lt_of_le h x.l)).trans (x.r n h)⟩
theorem Wd.Le.refl (a : Wd) : a.Le a := ⟨Wd.Le0.refl _, rfl⟩
theorem Wd.Le.trans {a b c : Wd} (x : a.Le b) (y : b.Le c) : a.Le c := ⟨x.toLe0.trans y.toLe0, y.f.trans x.f⟩

theorem seqT_same {K : PySem.W.Frag} {H H' : Hp} {a : Addr} {xs : List V} (e : Same H H') (h : SqT K H a xs) : SqT K H' a xs := by
  rcases h with h | h
  · rcases h with h | h
    · exact Or.inl (Or.inl (e _ _ h))
    · obtain ⟨o, h⟩ := h
      exact Or.inl (Or.inr ⟨o, e _ _ h⟩)
  · exact Or.inr h

section
variable (Λ : Lk)
mutual
inductive Rel (W : Wd) : V → D → Prop
  | non : Rel W .non .non
  | bl (b : Bool) : Rel W (.bl b) (.bl b)
  | int (i : Int) : Rel W (.int i) (.int i)
  | str (s : Str) : Rel W (.str s) (.str s)
  | tup {a : Addr} {vs : List V} {ds : List D} : SqT Λ.K W.G a vs → RelL W vs ds → Rel W (.ref a) (.tup ds)
  | lst {a : Addr} {vs : List V} {ds : List D} : W.G a = some (.lst vs) → RelL W vs ds → Rel W (.ref a) (.lst ds)
  | scr {a : Addr} {vs : List V} {ds : List D} : SqL Λ.K W.G a vs → RelL W vs ds → Rel W (.ref a) (.scr ds)
  | obj {a dx : Addr} {c : Nat} {vs : List (Str × V)} {fs : List (Nat × D)} : W.G a = some (.ins (Λ.ca c) dx vs) → RelF W vs fs → Rel W (.ref a) (.obj c fs)
  | mref {a : Addr} {n : Nat} : n < W.L → W.r n = some a → Rel W (.ref a) (.mref n)
inductive RelL (W : Wd) : List V → List D → Prop
  | nil : RelL W [] []
  | cons {v : V} {d : D} {vs : List V} {ds : List D} : Rel W v d → RelL W vs ds → RelL W (v :: vs) (d :: ds)
inductive RelF (W : Wd) : List (Str × V) → List (Nat × D) → Prop
  | nil : RelF W [] []
  | cons {x : Str} {f : Nat} {v : V} {d : D} {vs : List (Str × V)} {fs : List (Nat × D)} : Λ.nm f = some x → Rel W v d → RelF W vs fs → RelF W ((x, v) :: vs) ((f, d) :: fs)
end
end

section
variable {Λ : Lk} {W W' : Wd}
mutual
theorem Rel.mono0 (h : W.Le0 W') : ∀ {v : V} {d : D}, Rel Λ W v d → Rel Λ W' v d
  | _, _, .non => .non
  | _, _, .bl b => .bl b
  | _, _, .int i => .int i
  | _, _, .str s => .str s
  | _, _, .tup t l => .tup (seqT_same h.g t) (RelL.mono0 h l)
  | _, _, .lst t l => .lst (h.g _ _ t) (RelL.mono0 h l)
  | _, _, .scr t l => .scr (h.g.seq t) (RelL.mono0 h l)
  | _, _, .obj t l => .obj (h.g _ _ t) (RelF.mono0 h l)
  | _, _, .mref n e => .mref (Nat.lt_of_lt_of_le n h.l) ((h.r _ n).trans e)
theorem RelL.mono0 (h : W.Le0 W') : ∀ {v : List V} {d : List D}, RelL Λ W v d → RelL Λ W' v d
  | _, _, .nil => .nil
  | _, _, .cons a b => .cons (Rel.mono0 h a) (RelL.mono0 h b)
theorem RelF.mono0 (h : W.Le0 W') : ∀ {v : List (Str × V)} {d : List (Nat × D)}, RelF Λ W v d → RelF Λ W' v d
  | _, _, .nil => .nil
  | _, _, .cons e a b => .cons e (Rel.mono0 h a) (RelF.mono0 h b)
end

theorem Rel.mono (h : W.Le W') {v : V} {d : D} (r : Rel Λ W v d) : Rel Λ W' v d := r.mono0 h.toLe0
theorem RelL.mono (h : W.Le W') {v : List V} {d : List D} (r : RelL Λ W v d) : RelL Λ W' v d := r.mono0 h.toLe0
theorem RelF.mono (h : W.Le W') {v : List (Str × V)} {d : List (Nat × D)} (r : RelF Λ W v d) : RelF Λ W' v d := r.mono0 h.toLe0

/-- the things of the store from n on are forgotten -/
def Wd.cutAt (W : Wd) (n : Nat) : Wd := ⟨W.G, W.r, n, W.F⟩
mutual
theorem Rel.cut {n : Nat} : ∀ {v : V} {d : D}, Rel Λ W v d → bel n d = true → Rel Λ (W.cutAt n) v d
  | _, _, .non, _ => .non
  | _, _, .bl b, _ => .bl b
  | _, _, .int i, _ => .int i
  | _, _, .str s, _ => .str s
  | _, _, .tup t l, h => .tup t (RelL.cut l (by simpa only [bel] using h))
  | _, _, .lst t l, h => .lst t (RelL.cut l (by simpa only [bel] using h))
  | _, _, .scr t l, h => .scr t (RelL.cut l (by simpa only [bel] using h))
  | _, _, .obj t l, h => .obj t (RelF.cut l (by simpa only [bel] using h))
  | _, _, .mref _ e, h => .mref (by
    show _ < n
    simpa only [bel, decide_eq_true_eq] using h) e
theorem RelL.cut {n : Nat} : ∀ {v : List V} {d : List D}, RelL Λ W v d → bels n d = true → RelL Λ (W.cutAt n) v d
  | _, _, .nil, _ => .nil
  | _, _, .cons a b, h => by
    simp only [bels, Bool.and_eq_true] at h
    exact .cons (Rel.cut a h.1) (RelL.cut b h.2)
theorem RelF.cut {n : Nat} : ∀ {v : List (Str × V)} {d : List (Nat × D)}, RelF Λ W v d → belF n d = true → RelF Λ (W.cutAt n) v d
  | _, _, .nil, _ => .nil
  | _, _, .cons e a b, h => by
    simp only [belF, Bool.and_eq_true] at h
    exact .cons e (Rel.cut a h.1) (RelF.cut b h.2)
end

/-! ### lists of related things -/
theorem RelL.len : ∀ {vs : List V} {ds : List D}, RelL Λ W vs ds → vs.length = ds.length
  | _, _, .nil => rfl
  | _, _, .cons _ b => congrArg Nat.succ (RelL.len b)
theorem RelL.get : ∀ {vs : List V} {ds : List D} {i : Nat} {d : D}, RelL Λ W vs ds → ds[i]? = some d → ∃ v, vs[i]? = some v ∧ Rel Λ W v d
  | _, _, 0, _, .cons a _, e => by
    simp at e
    subst e
    exact ⟨_, rfl, a⟩
  | _, _, i + 1, d, .cons _ b, e => by
    obtain ⟨v, h1, h2⟩ := RelL.get (i := i) (d := d) b (by simpa using e)
    exact ⟨v, by simpa using h1, h2⟩
theorem RelL.append : ∀ {vs vs' : List V} {ds ds' : List D}, RelL Λ W vs ds → RelL Λ W vs' ds' → RelL Λ W (vs ++ vs') (ds ++ ds')
  | _, _, _, _, .nil, h => h
  | _, _, _, _, .cons a b, h => .cons a (RelL.append b h)
theorem RelL.drop : ∀ {vs : List V} {ds : List D} (n : Nat), RelL Λ W vs ds → RelL Λ W (vs.drop n) (ds.drop n)
  | _, _, 0, h => h
  | _, _, _ + 1, .nil => .nil
  | _, _, n + 1, .cons _ b => RelL.drop n b
theorem RelL.take : ∀ {vs : List V} {ds : List D} (n : Nat), RelL Λ W vs ds → RelL Λ W (vs.take n) (ds.take n)
  | _, _, 0, _ => .nil
  | _, _, _ + 1, .nil => .nil
  | _, _, n + 1, .cons a b => .cons a (RelL.take n b)
theorem RelL.set {v : V} {d : D} (r : Rel Λ W v d) : ∀ {vs : List V} {ds : List D} (n : Nat), RelL Λ W vs ds → RelL Λ W (vs.set n v) (ds.set n d)
  | _, _, _, .nil => .nil
  | _, _, 0, .cons _ b => .cons r b
  | _, _, n + 1, .cons a b => .cons a (RelL.set r n b)
theorem RelL.rev : ∀ {vs : List V} {ds : List D}, RelL Λ W vs ds → RelL Λ W vs.reverse ds.reverse
  | _, _, .nil => .nil
  | _, _, .cons a b => by
    rw [List.reverse_cons, List.reverse_cons]
    exact (RelL.rev b).append (.cons a .nil)
theorem RelF.find : ∀ {vs : List (Str × V)} {fs : List (Nat × D)} {f : Nat} {x : Str} {d : D}, RelF Λ W vs fs → Λ.nm f = some x → fs.lookup f = some d → ∃ v, vs.lookup x = some v ∧ Rel Λ W v d
  | _, _, f, x, d, .cons (x := y) (f := g) e a b, hx, h => by
    rw [List.lookup_cons] at h ⊢
    by_cases c : f = g
    · subst c
      rw [hx] at e
      cases e
      simp at h
      subst h
      exact ⟨_, by simp, a⟩
    · have c2 : (f == g) = false := by simpa using c
      have c3 : (x == y) = false := by
        have : x ≠ y := fun q => c (Λ.inj f g y (q ▸ hx) e)
        simpa using this
      rw [c2] at h
      rw [c3]
      exact RelF.find b hx h
theorem RelF.none : ∀ {vs : List (Str × V)} {fs : List (Nat × D)} {f : Nat} {x : Str}, RelF Λ W vs fs → Λ.nm f = some x → fs.lookup f = Option.none → vs.lookup x = Option.none
  | _, _, _, _, .nil, _, _ => rfl
  | _, _, f, x, .cons (x := y) (f := g) e a b, hx, h => by
    rw [List.lookup_cons] at h ⊢
    by_cases c : f = g
    · subst c
      simp at h
    · have c2 : (f == g) = false := by simpa using c
      have c3 : (x == y) = false := by
        have : x ≠ y := fun q => c (Λ.inj f g y (q ▸ hx) e)
        simpa using this
      rw [c2] at h
      rw [c3]
      exact RelF.none b hx h
theorem RelF.put {v : V} {d : D} {f : Nat} {x : Str} (hx : Λ.nm f = some x) (r : Rel Λ W v d) : ∀ {vs : List (Str × V)} {fs : List (Nat × D)}, RelF Λ W vs fs → RelF Λ W (putF x v vs) (putA f d fs)
  | _, _, .nil => .cons hx r .nil
  | _, _, .cons (x := y) (f := g) e a b => by
    unfold putA putF
    by_cases c : g = f
    · subst c
      rw [hx] at e
      cases e
      simp only [if_true]
      exact .cons hx r b
    · have c3 : ¬ y = x := fun q => c (Λ.inj g f x (q ▸ e) hx)
      rw [if_neg c, if_neg c3]
      exact .cons e a (RelF.put hx r b)
theorem RelF.len : ∀ {vs : List (Str × V)} {fs : List (Nat × D)}, RelF Λ W vs fs → vs.length = fs.length
  | _, _, .nil => rfl
  | _, _, .cons _ _ b => congrArg Nat.succ (RelF.len b)

/-! ### the store -/
def CellOk (Λ : Lk) (W : Wd) (H : Hp) (n : Nat) : Cell → Prop
  | .lst ds => ∃ a vs, W.r n = some a ∧ W.G a = Option.none ∧ H a = some (.lst vs) ∧ RelL Λ W vs ds
  | .ins c fs => ∃ a dx vs, W.r n = some a ∧ W.G a = Option.none ∧ H a = some (.ins (Λ.ca c) dx vs) ∧ RelF Λ W vs fs
structure Sim (Λ : Lk) (W : Wd) (st : Sto) (H : Hp) : Prop where
  len : W.L = st.length
  sub : Same W.G H
  cell : ∀ n c, st[n]? = some c → CellOk Λ W H n c
  inj : ∀ n m a, n < W.L → m < W.L → W.r n = some a → W.r m = some a → n = m
  frm : Same W.F H
  fdis : ∀ a o, W.F a = some o → W.G a = none ∧ ∀ n, n < W.L → W.r n ≠ some a
variable {st : Sto} {H : Hp}

theorem Sim.lt (S : Sim Λ W st H) {n : Nat} {c : Cell} (h : st[n]? = some c) : n < W.L := by
  rw [S.len]
  exact (List.getElem?_eq_some_iff.mp h).1
/-- something new that never changes -/
def Wd.add (W : Wd) (p : Addr) (o : HO) : Wd := ⟨upd W.G p o, W.r, W.L, W.F⟩
theorem Wd.add_le {p : Addr} {o : HO} (h : W.G p = Option.none) : W.Le (W.add p o) :=
  ⟨⟨fun b u e => by
    show upd W.G p o b = some u
    rw [upd_ne (ne_of_none e h)]
    exact e, Nat.le_refl _, fun _ _ => rfl⟩, rfl⟩
theorem Wd.add_at {p : Addr} {o : HO} : (W.add p o).G p = some o := upd_same
theorem Sim.free (S : Sim Λ W st H) {p : Addr} (h : H p = Option.none) : W.G p = Option.none := S.sub.free h
theorem CellOk.mono {H' : Hp} {n : Nat} {c : Cell} (le : W.Le W') (hn : n < W.L) (h : CellOk Λ W H n c) (hG : ∀ a, W.r n = some a → W.G a = Option.none → W'.G a = Option.none)
    (hH : ∀ a o, W.r n = some a → H a = some o → H' a = some o) : CellOk Λ W' H' n c := by
  cases c with
  | lst ds =>
    obtain ⟨a, vs, e1, e2, e3, r⟩ := h
    exact ⟨a, vs, (le.r n hn).trans e1, hG a e1 e2, hH a _ e1 e3, r.mono le⟩
  | ins c fs =>
    obtain ⟨a, dx, vs, e1, e2, e3, r⟩ := h
    exact ⟨a, dx, vs, (le.r n hn).trans e1, hG a e1 e2, hH a _ e1 e3, r.mono le⟩
theorem CellOk.has {n : Nat} {c : Cell} {a : Addr} (h : CellOk Λ W H n c) (e : W.r n = some a) : W.G a = Option.none ∧ ∃ o, H a = some o := by
  cases c with
  | lst ds =>
    obtain ⟨b, vs, e1, e2, e3, r⟩ := h
    rw [e] at e1
    cases e1
    exact ⟨e2, _, e3⟩
  | ins c fs =>
    obtain ⟨b, dx, vs, e1, e2, e3, r⟩ := h
    rw [e] at e1
    cases e1
    exact ⟨e2, _, e3⟩
theorem Sim.new (S : Sim Λ W st H) {p : Addr} {o : HO} (h : H p = Option.none) : Sim Λ (W.add p o) st (upd H p o) := by
  have hG := S.free h
  have sm : Same H (upd H p o) := fun b u e => by
    rw [upd_ne (ne_of_none e h)]
    exact e
  refine ⟨S.len, fun b u e => ?_, fun n c hc => ?_, S.inj, S.frm.trans sm, fun a u e => ⟨?_, (S.fdis a u e).2⟩⟩
  rotate_left
  rotate_left
  · show upd W.G p o a = Option.none
    rw [upd_ne (ne_of_none (S.frm _ _ e) h)]
    exact (S.fdis a u e).1
  · by_cases hb : b = p
    · subst hb
      have e2 : some o = some u := Wd.add_at.symm.trans e
      rw [upd_same]
      exact e2
    · have e2 : upd W.G p o b = some u := e
      rw [upd_ne hb] at e2 ⊢
      exact S.sub b u e2
  · have ck := S.cell n c hc
    refine ck.mono (Wd.add_le hG) (S.lt hc) (fun a e1 e2 => ?_) (fun a u e1 e2 => ?_)
    · obtain ⟨_, v, hv⟩ := ck.has e1
      show upd W.G p o a = Option.none
      rw [upd_ne (ne_of_none hv h)]
      exact e2
    · rw [upd_ne (ne_of_none e2 h)]
      exact e2
/-- a heap that keeps all that is tracked -/
theorem Sim.same {H' : Hp} (S : Sim Λ W st H) (e : Same H H') : Sim Λ W st H' :=
  ⟨S.len, S.sub.trans e, fun n c hc => (S.cell n c hc).mono (Wd.Le.refl _) (S.lt hc) (fun _ _ h => h) (fun a o _ h => e a o h), S.inj, S.frm.trans e, S.fdis⟩
/-- a new thing of the store -/
def Wd.push (W : Wd) (p : Addr) : Wd := ⟨W.G, fun n => if n = W.L then some p else W.r n, W.L + 1, W.F⟩
theorem Wd.push_le {p : Addr} : W.Le (W.push p) := ⟨⟨Same.refl _, Nat.le_succ _, fun n h => by
  show (if n = W.L then some p else W.r n) = W.r n
  rw [if_neg (Nat.ne_of_lt h)]⟩, rfl⟩
theorem Wd.push_at {p : Addr} : (W.push p).r W.L = some p := by
  show (if W.L = W.L then some p else _) = _
  rw [if_pos rfl]
theorem Sim.push {H' : Hp} {p : Addr} {c : Cell} (S : Sim Λ W st H) (h : H p = Option.none) (e : Same H H') (hp : CellOk Λ (W.push p) H' W.L c)
    : Sim Λ (W.push p) (st ++ [c]) H' := by
  refine ⟨by show W.L + 1 = _; rw [List.length_append, S.len]; rfl, S.sub.trans e, fun n d hc => ?_, fun n m a hn hm e1 e2 => ?_, S.frm.trans e, fun a u z => ⟨(S.fdis a u z).1, fun n hn q => ?_⟩⟩
  rotate_left
  rotate_left
  · have q2 : (if n = W.L then some p else W.r n) = some a := q
    by_cases c : n = W.L
    · rw [if_pos c] at q2
      exact ne_of_none (S.frm _ _ z) h (Option.some.inj q2).symm
    · rw [if_neg c] at q2
      have hn2 : n < W.L + 1 := hn
      exact (S.fdis a u z).2 n (by omega) q2
  · by_cases hn : n < st.length
    · rw [List.getElem?_append_left hn] at hc
      exact (S.cell n d hc).mono Wd.push_le (S.lt hc) (fun a _ z => z) (fun a o _ z => e a o z)
    · have hn2 : n < (st ++ [c]).length := (List.getElem?_eq_some_iff.mp hc).1
      rw [List.length_append] at hn2
      have hn3 : n < st.length + 1 := hn2
      have en : n = st.length := by omega
      subst en
      rw [List.getElem?_append_right (Nat.le_refl _), Nat.sub_self] at hc
      have hc2 : c = d := Option.some.inj hc
      subst hc2
      have q := hp
      rw [S.len] at q
      exact q
  · have old : ∀ k, k < W.L + 1 → k ≠ W.L → (W.push p).r k = some a → W.r k = some a ∧ k < W.L := fun k hk hne q => by
      have q2 : (if k = W.L then some p else W.r k) = some a := q
      rw [if_neg hne] at q2
      exact ⟨q2, by omega⟩
    have apart : ∀ k, k < W.L → W.r k = some a → a ≠ p := fun k hk e1 => by
      have hk2 : k < st.length := by rw [← S.len]; exact hk
      obtain ⟨_, o, ho⟩ := (S.cell k st[k] (List.getElem?_eq_getElem hk2)).has e1
      exact ne_of_none ho h
    have atp : ∀ k, k = W.L → (W.push p).r k = some a → a = p := fun k hk q => by
      have q2 : (if k = W.L then some p else W.r k) = some a := q
      rw [if_pos hk] at q2
      exact (Option.some.inj q2).symm
    by_cases c1 : n = W.L
    · by_cases c2 : m = W.L
      · rw [c1, c2]
      · obtain ⟨q2, l2⟩ := old m hm c2 e2
        exact absurd (atp n c1 e1) (apart m l2 q2)
    · by_cases c2 : m = W.L
      · obtain ⟨q1, l1⟩ := old n hn c1 e1
        exact absurd (atp m c2 e2) (apart n l1 q1)
      · obtain ⟨q1, l1⟩ := old n hn c1 e1
        obtain ⟨q2, l2⟩ := old m hm c2 e2
        exact S.inj n m a l1 l2 q1 q2
/-- a thing of the store is changed -/
theorem Sim.write {n : Nat} {c c' : Cell} {a : Addr} {o : HO} (S : Sim Λ W st H) (hc : st[n]? = some c) (ha : W.r n = some a) (ok : CellOk Λ W (upd H a o) n c') : Sim Λ W (st.set n c') (upd H a o) := by
  have hn := S.lt hc
  have hz := ((S.cell n c hc).has ha).1
  refine ⟨by rw [List.length_set]; exact S.len, fun b u e => ?_, fun m d hm => ?_, S.inj, fun b u e => ?_, S.fdis⟩
  rotate_left
  rotate_left
  · have hb : b ≠ a := fun q => (S.fdis b u e).2 n hn (by rw [q]; exact ha)
    rw [upd_ne hb]
    exact S.frm b u e
  · have hb : b ≠ a := ne_of_none e hz
    rw [upd_ne hb]
    exact S.sub b u e
  · by_cases hmn : n = m
    · subst hmn
      rw [List.getElem?_set_self (by rw [← S.len]; exact hn)] at hm
      have e : c' = d := Option.some.inj hm
      subst e
      exact ok
    · rw [List.getElem?_set_ne hmn] at hm
      have lm := S.lt hm
      refine (S.cell m d hm).mono (Wd.Le.refl _) lm (fun _ _ z => z) (fun b u e1 e2 => ?_)
      have hb : b ≠ a := fun q => hmn (S.inj n m a hn lm ha (q ▸ e1))
      rw [upd_ne hb]
      exact e2
mutual
theorem Rel.bel : ∀ {v : V} {d : D}, Rel Λ W v d → bel W.L d = true
  | _, _, .non => by simp only [Mir.bel]
  | _, _, .bl b => by simp only [Mir.bel]
  | _, _, .int i => by simp only [Mir.bel]
  | _, _, .str s => by simp only [Mir.bel]
  | _, _, .tup t l => by simp only [Mir.bel]; exact RelL.bels l
  | _, _, .lst t l => by simp only [Mir.bel]; exact RelL.bels l
  | _, _, .scr t l => by simp only [Mir.bel]; exact RelL.bels l
  | _, _, .obj t l => by simp only [Mir.bel]; exact RelF.belF l
  | _, _, .mref n e => by simp only [Mir.bel]; exact decide_eq_true n
theorem RelL.bels : ∀ {v : List V} {d : List D}, RelL Λ W v d → bels W.L d = true
  | _, _, .nil => by simp only [Mir.bels]
  | _, _, .cons a b => by simp only [Mir.bels, Rel.bel a, RelL.bels b, Bool.and_self]
theorem RelF.belF : ∀ {v : List (Str × V)} {d : List (Nat × D)}, RelF Λ W v d → belF W.L d = true
  | _, _, .nil => by simp only [Mir.belF]
  | _, _, .cons _ a b => by simp only [Mir.belF, Rel.bel a, RelF.belF b, Bool.and_self]
end
theorem CellOk.belC {n : Nat} {c : Cell} (h : CellOk Λ W H n c) : belC W.L c = true := by
  cases c with
  | lst ds =>
    obtain ⟨_, _, _, _, _, r⟩ := h
    exact r.bels
  | ins c fs =>
    obtain ⟨_, _, _, _, _, _, r⟩ := h
    exact r.belF
/-- the store's end is forgotten -/
theorem Sim.cut {W0 : Wd} {st0 : Sto} {H0 : Hp} (S0 : Sim Λ W0 st0 H0) (S : Sim Λ W st H) (h : st0.length ≤ st.length) (kp : Kp st0 st) : Sim Λ (W.cutAt st0.length) (st.take st0.length) H := by
  refine ⟨by show st0.length = _; rw [List.length_take]; omega, S.sub, fun m c hm => ?_, fun k m a hk hm e1 e2 => S.inj k m a ?_ ?_ e1 e2, S.frm, fun a u z => ⟨(S.fdis a u z).1, fun n hn => (S.fdis a u z).2 n ?_⟩⟩
  rotate_left
  rotate_left
  rotate_left
  · have : n < st0.length := hn
    rw [S.len]
    omega
  · have hmn : m < st0.length := by
      have := (List.getElem?_eq_some_iff.mp hm).1
      rw [List.length_take] at this
      omega
    rw [List.getElem?_take_of_lt hmn] at hm
    have q : Mir.belC st0.length c = true := by
      rcases kp m c hmn hm with z | z
      · have := (S0.cell m c z).belC
        rwa [S0.len] at this
      · exact z
    have ck := S.cell m c hm
    cases c with
    | lst ds =>
      obtain ⟨a, vs, e1, e2, e3, r⟩ := ck
      exact ⟨a, vs, e1, e2, e3, r.cut q⟩
    | ins c fs =>
      obtain ⟨a, dx, vs, e1, e2, e3, r⟩ := ck
      exact ⟨a, dx, vs, e1, e2, e3, r.cut q⟩
  · have : k < st0.length := hk
    rw [S.len]
    omega
  · have : m < st0.length := hm
    rw [S.len]
    omega
theorem Wd.le_cut {W0 : Wd} {n : Nat} (h : W0.Le W) (hn : W0.L ≤ n) : W0.Le (W.cutAt n) := ⟨⟨h.g, hn, h.r⟩, h.f⟩
end

/-! ### slots -/
structure SlotR (Λ : Lk) (W : Wd) (σ : St) (σd : Sl) : Prop where
  len : σ.length = σd.length
  at_ : ∀ (i : Nat) d, σd[i]? = some (some d) → ∃ v, σ[i]? = some (some v) ∧ Rel Λ W v d
section
variable {Λ : Lk} {W W' : Wd} {σ : St} {σd : Sl}
theorem SlotR.mono0 (h : W.Le0 W') (s : SlotR Λ W σ σd) : SlotR Λ W' σ σd := ⟨s.len, fun i d e => by
  obtain ⟨v, h1, h2⟩ := s.at_ i d e
  exact ⟨v, h1, h2.mono0 h⟩⟩
theorem SlotR.mono (h : W.Le W') (s : SlotR Λ W σ σd) : SlotR Λ W' σ σd := s.mono0 h.toLe0
theorem SlotR.set (s : SlotR Λ W σ σd) {v : V} {d : D} (r : Rel Λ W v d) (i : Nat) : SlotR Λ W (σ.set i (some v)) (σd.set i (some d)) := by
  refine ⟨by rw [List.length_set, List.length_set]; exact s.len, fun j e h => ?_⟩
  by_cases hj : i = j
  · subst hj
    by_cases hi : i < σd.length
    · rw [List.getElem?_set_self hi] at h
      cases h
      exact ⟨v, by rw [List.getElem?_set_self (by rw [s.len]; exact hi)], r⟩
    · rw [List.getElem?_eq_none (by rw [List.length_set]; omega)] at h
      cases h
  · rw [List.getElem?_set_ne hj] at h
    obtain ⟨w, h1, h2⟩ := s.at_ j e h
    exact ⟨w, by rw [List.getElem?_set_ne hj]; exact h1, h2⟩
theorem SlotR.wipe (s : SlotR Λ W σ σd) : ∀ vs : List Nat, SlotR Λ W (L2.wipe σ vs) (wipeD σd vs)
  | [] => s
  | v :: vs => by
    have ih := SlotR.wipe s vs
    refine ⟨by show ((L2.wipe σ vs).set v none).length = ((wipeD σd vs).set v none).length; rw [List.length_set, List.length_set]; exact ih.len, fun j e h => ?_⟩
    have h2 : ((wipeD σd vs).set v none)[j]? = some (some e) := h
    show ∃ u, ((L2.wipe σ vs).set v none)[j]? = some (some u) ∧ _
    by_cases hj : v = j
    · subst hj
      by_cases hi : v < (wipeD σd vs).length
      · rw [List.getElem?_set_self hi] at h2
        cases h2
      · rw [List.getElem?_eq_none (by rw [List.length_set]; omega)] at h2
        cases h2
    · rw [List.getElem?_set_ne hj] at h2
      obtain ⟨w, h3, h4⟩ := ih.at_ j e h2
      exact ⟨w, by rw [List.getElem?_set_ne hj]; exact h3, h4⟩
end

/-! ### what is wanted behind -/
/-- an error's class and own dict, against what it bears -/
def ExR (Λ : Lk) (W : Wd) (H : Hp) (cls : Value) (od : Option Addr) (c : Nat) (fs : List (Nat × D)) : Prop :=
  cls = .ref (Λ.ca c) ∧ ((fs = [] ∧ od = none) ∨ ∃ d vs, od = some d ∧ H d = some (.xd vs) ∧ RelF Λ W vs fs)
def KOk {α β : Type} (Λ : Lk) (rel : Wd → β → α → Prop) (W : Wd) (d : α) (st : Sto) (Q : β → Hp → Prop) : Prop :=
  ∀ W' v H', W.Le W' → Sim Λ W' st H' → rel W' v d → Q v H'
def KEx (Λ : Lk) (W : Wd) (c : Nat) (fs : List (Nat × D)) (st : Sto) (E : XK) : Prop :=
  ∀ W' H' cls od, W.Le W' → Sim Λ W' st H' → ExR Λ W' H' cls od c fs → E cls od H'
def Post {α β : Type} (Λ : Lk) (rel : Wd → β → α → Prop) (W : Wd) (r : R α) (Q : β → Hp → Prop) (E : XK) : Prop := match r with
  | .ok d st => KOk Λ rel W d st Q
  | .ex c fs st => KEx Λ W c fs st E
  | .no => False
section
variable {Λ : Lk} {W W' : Wd} {α β γ δ : Type} {rel : Wd → β → α → Prop} {r : R α} {Q Q' : β → Hp → Prop} {E : XK}
theorem Post.mono (h : W.Le W') (p : Post Λ rel W r Q E) : Post Λ rel W' r Q E := by
  cases r with
  | ok d st => exact fun W2 v H' le => p W2 v H' (h.trans le)
  | ex c fs st => exact fun W2 H' cls od le => p W2 H' cls od (h.trans le)
  | no => exact p
theorem Post.imp (p : Post Λ rel W r Q E) (hQ : ∀ v H, Q v H → Q' v H) : Post Λ rel W r Q' E := by
  cases r with
  | ok d st => exact fun W2 v H' le s k => hQ _ _ (p W2 v H' le s k)
  | ex c fs st => exact p
  | no => exact p
/-- one behind the other -/
theorem Post.bind {rel' : Wd → δ → γ → Prop} {f : α → Sto → R γ} {Q2 : δ → Hp → Prop} (p : Post Λ rel' W (r.bind f) Q2 E)
    (hQ : ∀ W1 a st1 v H1, W.Le W1 → Sim Λ W1 st1 H1 → rel W1 v a → Post Λ rel' W1 (f a st1) Q2 E → Q v H1) : Post Λ rel W r Q E := by
  cases r with
  | ok d st => exact fun W1 v H1 le s k => hQ W1 d st v H1 le s k (p.mono le)
  | ex c fs st => exact p
  | no => exact p
/-- the same, with what it was behind -/
theorem Post.bindE {rel' : Wd → δ → γ → Prop} {f : α → Sto → R γ} {Q2 : δ → Hp → Prop} (p : Post Λ rel' W (r.bind f) Q2 E)
    (hQ : ∀ W1 a st1 v H1, r = .ok a st1 → W.Le W1 → Sim Λ W1 st1 H1 → rel W1 v a → Post Λ rel' W1 (f a st1) Q2 E → Q v H1) : Post Λ rel W r Q E := by
  cases r with
  | ok d st => exact fun W1 v H1 le s k => hQ W1 d st v H1 rfl le s k (p.mono le)
  | ex c fs st => exact p
  | no => exact p
theorem Post.opt {o : Option α} {st : Sto} (p : Post Λ rel W (opt o st) Q E) : ∃ a, o = some a ∧ KOk Λ rel W a st Q := by
  cases o with
  | none => exact p.elim
  | some a => exact ⟨a, rfl, p⟩
end
end Mir

set_option Elab.async false
set_option linter.all false
set_option maxRecDepth 100000
/-! Mir2: calls, and operations on values. -/
namespace Mir
open PySem L2

/-! ### a def's promise, where no repr is under way -/
structure Good (k : Nat) (A : Around) : Prop where
  room : Room k A
  gd : A.guards = some []
theorem Good.mono {j k : Nat} {A : Around} (g : Good k A) (h : j ≤ k) : Good j A := ⟨g.room.mono h, g.gd⟩
theorem Good.in1 {k : Nat} {A : Around} (g : Good (k + 1) A) : Good k A.in1 := ⟨g.room.in1, g.gd⟩
theorem Good.deeper {k : Nat} {A : Around} (g : Good (k + 1) A) (env : Env) : Good k (A.deeper env) := ⟨g.room.deeper env, g.gd⟩

structure FnG (P : Program) (w : World) (K : PySem.W.Frag) (mg : Str → Option Value) (base : Heap) (k : Nat) (f : Addr) (fd : FuncData) (ps : List Str) (sp : Sp) : Prop where
  run : ∀ (A : Around) (out : List Env) (s : Shared) (H : Hp) (args : Args) (us : List Value) (vs : List V) (Q : VK) (E : XK),
    Good k A → Env0 P w K mg base A out s H → BindsTo s fd args (ps.zip us) → vs.length = ps.length → Vals vs us → sp vs H Q E →
    codeAny (model P w) A (.call (.ref f) args) (CR (L2.CX P w) out P w H s Q E) s
theorem FnG.mono {P : Program} {w : World} {K : PySem.W.Frag} {mg : Str → Option Value} {base : Heap} {j k : Nat} {f : Addr} {fd : FuncData} {ps : List Str} {sp : Sp} (F : FnG P w K mg base j f fd ps sp) (h : j ≤ k) :
    FnG P w K mg base k f fd ps sp := ⟨fun A out s H args us vs Q E g => F.run A out s H args us vs Q E (g.mono h)⟩

/-- data in, data out -/
def spD (Λ : Lk) (g : List D → Sto → R D) : Sp := fun vs H Q E => ∃ W st ds, Sim Λ W st H ∧ RelL Λ W vs ds ∧ Post Λ (Rel Λ) W (g ds st) Q E

/-- from a body: a callee runs, here or one builtin deeper -/
theorem run_fnG {X : Cx} {k : Nat} {f : Addr} {fd : FuncData} {ps : List Str} {sp : Sp} {wx : WX} {A' : Around} {pins : List (Addr × Obj)} {σ : St} {H : Hp} {s : Shared} {Q : VK} {args : Args} {us : List Value} {vs : List V} {E' : Value → Shared → Prop}
    (F : FnG X.prog X.w X.K X.mg X.base k f fd ps sp) (hg : Good k A') (e0 : ∀ s H, Inv X pins σ H s → Env0 X.prog X.w X.K X.mg X.base A' X.stack s H) (tk : ∀ e s', CX X.prog X.w X.stack H s (fun cls od H' => wx cls od σ H') e s' → E' e s')
    (I : Inv X pins σ H s) (hb : BindsTo s fd args (ps.zip us)) (hl : vs.length = ps.length) (r : Vals vs us) (h : sp vs H Q (fun cls od H' => wx cls od σ H')) :
    codeAny (model X.prog X.w) A' (.call (.ref f) args) (fun r s' => match r with
      | .ok (.ret u) => EP X pins σ Q u s'
      | .ok _ => False
      | .error e => E' e s') s := by
  refine codeAny_mono (F.run A' X.stack s H args us vs Q _ hg (e0 s H I) hb hl r h) fun r s' hq => ?_
  cases r with
  | error e => exact tk e s' hq
  | ok fl =>
    cases fl with
    | ret u => exact I.after hq
    | next => exact hq
    | brk => exact hq
    | cont => exact hq

/-! ### what is known of the text -/
/-- a call's values, put in the parameters' order -/
inductive BdV (Λ : Lk) (us : List Value) : List (Nat ⊕ D) → List Value → Prop
  | nil : BdV Λ us [] []
  | arg {j : Nat} {b : Value} {bd : List (Nat ⊕ D)} {bs : List Value} : us[j]? = some b → BdV Λ us bd bs → BdV Λ us (.inl j :: bd) (b :: bs)
  | dflt {d : D} {v : V} {b : Value} {bd : List (Nat ⊕ D)} {bs : List Value} : RelV v b → (∀ W st H, Sim Λ W st H → Rel Λ W v d) → BdV Λ us bd bs → BdV Λ us (.inr d :: bd) (b :: bs)
def BndOk (Λ : Lk) (ps : List Str) (fd : FuncData) (np : Nat) (ks : List Str) (bd : List (Nat ⊕ D)) : Prop :=
  ∀ (s : Shared) (us ws : List Value), Λ.K.In s.heap → us.length = np → ws.length = ks.length → ∃ bs : List Value, BindsTo s fd ⟨us, ks.zip ws⟩ (ps.zip bs) ∧ BdV Λ (us ++ ws) bd bs
structure Kn (Λ : Lk) (T : Tab) (cd : Cd) (k : Nat) (fa : Nat → Addr) (ps : Nat → List Str) (P : Program) (w : World) (mg : Str → Option Value) (base : Heap) : Prop where
  fns : ∀ f fn, T.fn f = some fn → (ps f).length = fn.n ∧ ∃ fd, FnG P w Λ.K mg base k (fa f) fd (ps f) (spD Λ (cd f)) ∧ (∀ s us, Λ.K.In s.heap → us.length = (ps f).length → BindsTo s fd ⟨us, []⟩ ((ps f).zip us)) ∧ PySem.W.keepIn Λ.K (.ref (fa f)) = true ∧ PySem.W.isFn Λ.K (.ref (fa f)) = true ∧
    ∀ i bd, T.shp f i = some bd → bd.length = fn.n ∧ BndOk Λ (ps f) fd (Λ.sh i).1 (Λ.sh i).2 bd
  only : ∀ f ds st, T.fn f = none → cd f ds st = .no
  ary : ∀ f fn ds st, T.fn f = some fn → ds.length ≠ fn.n → cd f ds st = .no

/-- a value is called with values -/
def CallV (Λ : Lk) (X : Cx) (wx : WX) (fv : Value) (g : List D → Sto → R D) : Prop :=
  ∀ (pins : List (Addr × Obj)) (s : Shared) (σ : St) (H : Hp) (us : List Value) (vs : List V) (ds : List D) (W : Wd) (st : Sto) (Q : VK),
    Inv X pins σ H s → Vals vs us → Sim Λ W st H → RelL Λ W vs ds → Post Λ (Rel Λ) W (g ds st) Q (fun cls od H' => wx cls od σ H') →
    wpAny (model X.prog X.w) X.A (call fv us) (EP X pins σ Q) X.xe s
/-- one builtin deeper -/
def CallV1 (Λ : Lk) (X : Cx) (wx : WX) (fv : Value) (g : List D → Sto → R D) : Prop :=
  ∀ (pins : List (Addr × Obj)) (s : Shared) (σ : St) (H : Hp) (us : List Value) (vs : List V) (ds : List D) (W : Wd) (st : Sto) (Q : VK),
    Inv X pins σ H s → Vals vs us → Sim Λ W st H → RelL Λ W vs ds → Post Λ (Rel Λ) W (g ds st) Q (fun cls od H' => wx cls od σ H') →
    wpAny (model X.prog X.w) X.A.in1 (call fv us) (EP X pins σ Q) X.xe s

section
variable {Λ : Lk} {T : Tab} {cd : Cd} {k : Nat} {fa : Nat → Addr} {ps : Nat → List Str} {X : Cx} {wx : WX}

theorem takes_cx (tk : Takes X wx) {pins : List (Addr × Obj)} {σ : St} {H : Hp} {s : Shared} (I : Inv X pins σ H s) : ∀ e s', CX X.prog X.w X.stack H s (fun cls od H' => wx cls od σ H') e s' → X.xe e s' :=
  fun e s' c => tk e s' (XE.of_call I (fun _ _ _ h => h) c)

theorem codeAny_goal {A' : Around} {fv : Value} {us : List Value} {s : Shared} {Q : Value → Shared → Prop} {E : Value → Shared → Prop}
    (h : codeAny (model X.prog X.w) A' (.call fv ⟨us, []⟩) (fun r s' => match r with
      | .ok (.ret u) => Q u s'
      | .ok _ => False
      | .error e => E e s') s) : wpAny (model X.prog X.w) A' (call fv us) Q E s := by
  refine wpAny_call (codeAny_mono h fun r s' hq => ?_)
  cases r with
  | error e => exact hq
  | ok fl => cases fl <;> exact hq

theorem Kn.arity (kn : Kn Λ T cd k fa ps X.prog X.w X.mg X.base) {f : Nat} {ds : List D} {st : Sto} {W : Wd} {Q : VK} {E : XK} (p : Post Λ (Rel Λ) W (cd f ds st) Q E) : ∃ fn, T.fn f = some fn ∧ ds.length = fn.n := by
  cases e : T.fn f with
  | none =>
    rw [kn.only f ds st e] at p
    exact p.elim
  | some fn =>
    refine ⟨fn, rfl, ?_⟩
    by_cases h : ds.length = fn.n
    · exact h
    · rw [kn.ary f fn ds st e h] at p
      exact p.elim

theorem Kn.call (kn : Kn Λ T cd k fa ps X.prog X.w X.mg X.base) (hK : X.K = Λ.K) (hg : Good k X.A) (tk : Takes X wx) (f : Nat) : CallV Λ X wx (.ref (fa f)) (cd f) := by
  intro pins s σ H us vs ds W st Q I r S rl p
  obtain ⟨fn, hf, ha⟩ := kn.arity p
  obtain ⟨hn, fd, F, hb, _, _, _⟩ := kn.fns f fn hf
  have hl : vs.length = (ps f).length := by rw [rl.len, ha, hn]
  rw [← hK] at F
  exact codeAny_goal (run_fnG F hg (fun s H I => I.env0) (takes_cx tk I) I (hb s us (hK ▸ I.kIn) (r.length ▸ hl)) hl r ⟨W, st, ds, S, rl, p⟩)
theorem Kn.call1 (kn : Kn Λ T cd k fa ps X.prog X.w X.mg X.base) (hK : X.K = Λ.K) (hg : Good (k + 1) X.A) (tk : Takes X wx) (f : Nat) : CallV1 Λ X wx (.ref (fa f)) (cd f) := by
  intro pins s σ H us vs ds W st Q I r S rl p
  obtain ⟨fn, hf, ha⟩ := kn.arity p
  obtain ⟨hn, fd, F, hb, _, _, _⟩ := kn.fns f fn hf
  have hl : vs.length = (ps f).length := by rw [rl.len, ha, hn]
  rw [← hK] at F
  exact codeAny_goal (run_fnG F hg.in1 (fun s H I => I.env0.in1) (takes_cx tk I) I (hb s us (hK ▸ I.kIn) (r.length ▸ hl)) hl r ⟨W, st, ds, S, rl, p⟩)
end

/-! ### operations on values -/
def OpV (Λ : Lk) (X : Cx) (wx : WX) (f : Value → Value → Sem Value) (g : D → D → Sto → R D) : Prop :=
  ∀ (pins : List (Addr × Obj)) (s : Shared) (σ : St) (H : Hp) (v u : Value) (x y : V) (a b : D) (W : Wd) (st : Sto) (Q : VK),
    Inv X pins σ H s → RelV x v → RelV y u → Sim Λ W st H → Rel Λ W x a → Rel Λ W y b → Post Λ (Rel Λ) W (g a b st) Q (fun cls od H' => wx cls od σ H') →
    wpAny (model X.prog X.w) X.A (f v u) (EP X pins σ Q) X.xe s

section
variable {Λ : Lk} {T : Tab} {cd : Cd} {X : Cx} {wx : WX} {W : Wd} {st : Sto} {H : Hp} {Q : VK}

theorem KOk.here {α β : Type} {rel : Wd → β → α → Prop} {Q : β → Hp → Prop} {d : α} {v : β} (q : KOk Λ rel W d st Q) (S : Sim Λ W st H) (r : rel W v d) : Q v H := q W v H (Wd.Le.refl W) S r
theorem KOk.newTup {vs : List V} {ds : List D} (q : KOk Λ (Rel Λ) W (.tup ds) st Q) (S : Sim Λ W st H) (r : RelL Λ W vs ds) : ∀ p, H p = none → Q (.ref p) (upd H p (.tup vs)) := fun p hp =>
  q _ _ _ (Wd.add_le (S.free hp)) (S.new hp) (.tup (.inl (.inl Wd.add_at)) (r.mono (Wd.add_le (S.free hp))))
theorem KOk.newLst {vs : List V} {ds : List D} (q : KOk Λ (Rel Λ) W (.lst ds) st Q) (S : Sim Λ W st H) (r : RelL Λ W vs ds) : ∀ p, H p = none → Q (.ref p) (upd H p (.lst vs)) := fun p hp =>
  q _ _ _ (Wd.add_le (S.free hp)) (S.new hp) (.lst Wd.add_at (r.mono (Wd.add_le (S.free hp))))

theorem int_op (op : Operator) {pins : List (Addr × Obj)} {s : Shared} {σ : St} {v u : Value} {i j n : Int} (I : Inv X pins σ H s) (rx : RelV (.int i) v) (ry : RelV (.int j) u) (e : intBin op i j = some n) (q : Q (.int n) H) :
    wpAny (model X.prog X.w) X.A (binaryOp op v u) (EP X pins σ Q) X.xe s := by
  cases op with
  | Add =>
    cases e
    exact op_add pins s σ H _ _ v u Q I rx ry ⟨i, j, rfl, rfl, q⟩
  | Sub =>
    cases e
    exact op_sub pins s σ H _ _ v u Q I rx ry ⟨i, j, rfl, rfl, q⟩
  | Mult =>
    obtain ⟨c, rfl⟩ := guardO_some e
    have c2 : i.natAbs.log2 + j.natAbs.log2 < 1000000 := of_decide_eq_true c
    exact op_mulW pins s σ H _ _ v u Q I rx ry ⟨i, j, rfl, rfl, c2, q⟩
  | FloorDiv =>
    obtain ⟨c, rfl⟩ := guardO_some e
    have c2 : j.natAbs.log2 < 9000 := of_decide_eq_true c.2
    exact op_fdivW pins s σ H _ _ v u Q I rx ry ⟨i, j, rfl, rfl, ⟨c.1, c2⟩, q⟩
  | Mod =>
    obtain ⟨c, rfl⟩ := guardO_some e
    exact op_mod pins s σ H _ _ v u Q I rx ry ⟨i, j, rfl, rfl, c, q⟩
  | Pow =>
    obtain ⟨c, rfl⟩ := guardO_some e
    exact op_pow pins s σ H _ _ v u Q I rx ry ⟨i, j, rfl, rfl, c, q⟩
  | LShift =>
    obtain ⟨c, rfl⟩ := guardO_some e
    exact op_shl pins s σ H _ _ v u Q I rx ry ⟨i, j, rfl, rfl, c, q⟩
  | RShift =>
    obtain ⟨c, rfl⟩ := guardO_some e
    exact op_shr pins s σ H _ _ v u Q I rx ry ⟨i, j, rfl, rfl, c, q⟩
  | BitAnd =>
    cases e
    exact op_and pins s σ H _ _ v u Q I rx ry ⟨i, j, rfl, rfl, q⟩
  | BitOr => cases e
  | BitXor => cases e
  | MatMult => cases e
  | Div => cases e
theorem sz_eq : sz = sizeLine := rfl
end

end Mir
set_option maxHeartbeats 4000000
namespace Mir
open PySem L2 PySem.W
section
variable {prog : Program} {w : World} {A : Around} {E : Value → Shared → Prop} {s : Shared} {Q : Value → Shared → Prop}
theorem int_dec_add {i : Int} {t : Tok} {p C dx : Addr} (ho : s.heap.get? p = some (instObj C dx)) (h : Q .notImplemented s) :
    wpAny (model prog w) A (call (.builtin "int.__add__") [.int i t, .ref p]) Q E s := by
  refine wpAny_call (codeAny_call_builtin F.slot_int_add.plain F.entry_int_add (F.slot_int_add.check _ _ _ _ _ _ _ _ (typeIs_int _ _ _) (F.args_int_add_2 _ _) ?_))
  obtain ⟨hp, g, d, tk, os⟩ := s
  wp_walk using wpAny_load' ho
  exact h
theorem int_dec_sub {i : Int} {t : Tok} {p C dx : Addr} (ho : s.heap.get? p = some (instObj C dx)) (h : Q .notImplemented s) :
    wpAny (model prog w) A (call (.builtin "int.__sub__") [.int i t, .ref p]) Q E s := by
  refine wpAny_call (codeAny_call_builtin F.slot_int_sub.plain F.entry_int_sub (F.slot_int_sub.check _ _ _ _ _ _ _ _ (typeIs_int _ _ _) (F.args_int_sub_2 _ _) ?_))
  obtain ⟨hp, g, d, tk, os⟩ := s
  wp_walk using wpAny_load' ho
  exact h
theorem int_dec_mul {i : Int} {t : Tok} {p C dx : Addr} (ho : s.heap.get? p = some (instObj C dx)) (h : Q .notImplemented s) :
    wpAny (model prog w) A (call (.builtin "int.__mul__") [.int i t, .ref p]) Q E s := by
  refine wpAny_call (codeAny_call_builtin F.slot_int_mul.plain F.entry_int_mul (F.slot_int_mul.check _ _ _ _ _ _ _ _ (typeIs_int _ _ _) (F.args_int_mul_2 _ _) ?_))
  obtain ⟨hp, g, d, tk, os⟩ := s
  wp_walk using wpAny_load' ho
  exact h
end
section
variable {prog : Program} {w : World} {A : Around} {E : Value → Shared → Prop} {s : Shared} {K : PySem.W.Frag} {x C f g : Addr} {ox : Obj} {od : Option Obj}
/-- an int on the left, an own thing on the right: the own reflected operator -/
theorem bin_refl {op : Operator} {b : Value} {idl : String} {Q : Value → Shared → Prop} (X : K.In s.heap) (I : InstAt s.heap x ox C od) (ha : s.TypeIs b "int") (hc : selfFirst K C = true)
    (fl : fillsNumberSlot (.type "int") op.info.2 = pure true) (sl : Slot "int" (PySem.dunder op.info.2) idl) (hsub : subIn K (.ref C) (.type "int") = some false)
    (h0 : findIn K (.ref C) (PySem.dunder op.info.2) = some (some (.ref g))) (hs : findIn K (.ref C) (PySem.dunderR op.info.2) = some (some (.ref f))) (hf : isFn K (.ref f) = true)
    (dec : ∀ Q' : Value → Shared → Prop, Q' .notImplemented s → wpAny (model prog w) A (call (.builtin idl) [b, .ref x]) Q' E s)
    (h : wpAny (model prog w) A (call (.ref f) [.ref x, b]) (CmpBack Q) E s) : wpAny (model prog w) A (binaryOp op b (.ref x)) Q E s := by
  obtain ⟨cd, rest, hcd, hm⟩ := ksp_first hc
  rcases hi : op.info with ⟨sym, nm⟩
  rw [hi] at fl sl h0 hs
  dsimp only at fl sl h0 hs
  have lT : Looks (model prog w) s.heap (typeOf (.ref x)) (.ref C) := I.type
  have lF : Looks (model prog w) s.heap (fillsNumberSlot (.ref C) nm) true := fills_K X hcd hm h0
  have lS : Looks (model prog w) s.heap (isSubtype (.ref C) (.type "int")) false := looks_subIn X hsub
  simp only [binaryOp, hi]
  refine wpAny_holding (wpAny_bind ?_)
  simp only [binaryOp1]
  refine wpAny_bind (wpAny_typeOf ha (wpAny_bind (lT.here (wpAny_bind (wpAny_of_eq fl ?_)))))
  have hne : (Value.type "int" == Value.ref C) = false := by rfl
  simp only [hne, Bool.false_eq_true, if_false]
  refine wpAny_bind (lF.here ?_)
  simp only [Bool.and_self, if_true]
  refine wpAny_bind (lS.here ?_)
  have hpy : numberSlotInPython (.type "int") nm = pure false := rfl
  simp only [Bool.false_eq_true, if_false, pure_bind, Bool.not_false, Bool.and_self, if_true, hpy]
  refine wpAny_bind (wpAny_tryMethod_declines ha sl (dec _ ⟨rfl, ?_⟩))
  simp only [Bool.false_eq_true, if_false, pure_bind, Bool.not_false, Bool.and_self, if_true]
  refine wpAny_bind (m := tryMethod (.ref x) _ b) ?_
  unfold tryMethod
  refine wpAny_bind (special_fn X I hs (beq_iff_eq.mp hf) (wpAny_mono h (fun v s' hv => ?_) fun _ _ e => e))
  cases v <;> first | exact hv.elim | (refine wpAny_pure (wpAny_bind (wpAny_rule (wpAny_pure ?_))); exact wpAny_pure hv)
end
section
variable {prog : Program} {w : World} {A : Around} {E : Value → Shared → Prop} {s : Shared} {K : PySem.W.Frag} {x C f g : Addr} {ox : Obj} {od : Option Obj}
/-- a special method that is a built-in one -/
theorem ifBound_blt {M : Model} {name : Str} {id : String} {args : List Value} {Q : Option Value → Shared → Prop} (X : K.In s.heap) (I : InstAt s.heap x ox C od) (hs : findIn K (.ref C) name = some (some (.builtin id)))
    (hb : ∀ self, bindSpecial (.builtin id) self = pure (.builtin id, [self])) (h : wpAny M A (call (.builtin id) (.ref x :: args)) (fun v => Q (some v)) E s) :
    wpAny M A (callSpecialIfBound? (.ref x) name args) Q E s := by
  simp only [callSpecialIfBound?, bindSpecialIfBound?, specialOf]
  refine wpAny_holding (wpAny_bind (wpAny_bind (wpAny_bind (I.type.here ((looks_findIn X hs).here ?_)))))
  simp only [hb]
  refine wpAny_bind (wpAny_askSetting (wpAny_ite ?_))
  have fin : wpAny M A (call (.builtin id) ([.ref x] ++ args) >>= fun v => pure (some v)) Q E s := wpAny_bind (wpAny_mono h (fun v s' q => wpAny_pure q) fun _ _ q => q)
  split
  · exact wpAny_bind (wpAny_pure (wpAny_pure (by exact fin)))
  · exact wpAny_tryCatch (wpAny_bind (wpAny_pure (wpAny_pure (by exact fin))))
/-- != by an own __eq__, where no own __ne__ stands -/
theorem ne_own {y : Value} {Q : Value → Shared → Prop} (hu : A.units + 1 < cLine) (X : K.In s.heap) (I : InstAt s.heap x ox C od) (hy : Looks (model prog w) s.heap (typeOf y) (.ref C))
    (hn : findIn K (.ref C) "__ne__" = some (some (.builtin "object.__ne__"))) (ho : subIn K (.ref C) (.type "object") = some true) (hs : findIn K (.ref C) "__eq__" = some (some (.ref f))) (hf : isFn K (.ref f) = true)
    (h : wpAny (model prog w) A.in1 (call (.ref f) [.ref x, y]) (fun v s' => ∃ b, v = .bool b ∧ Q (.bool (!b)) s') E s) : wpAny (model prog w) A (compareOp .NotEq (.ref x) y) Q E s := by
  have obj : wpAny (model prog w) A (call (.builtin "object.__ne__") [.ref x, y]) (fun v s' => ∃ b, v = .bool b ∧ Q (.bool b) s') E s := by
    refine wpAny_call (codeAny_call_builtin (by decide +kernel) F.cmpEntry_ne ?_)
    refine check_slot F.cmpKind_ne F.cmpSplit_ne (I.type.andThen (looks_subIn X ho)) (F.cmpArgs_ne _ _) ?_
    unfold Builtin.«object.__ne__»
    have hu1 : A.in1.units < cLine := hu
    repeat (first
      | with_reducible refine wpAny_cRoomFor hu1 ?_
      | (refine wpAny_bind (m := callSpecialIfBound? (.ref x) (Str.ofString "__eq__") [y]) (ifBound_K X I hs hf (wpAny_mono h (fun r s' hr => by
          obtain ⟨b, rfl, hq⟩ := hr
          repeat (first | exact ⟨_, rfl, hq⟩ | exact wpAny_truthy_bool ⟨_, rfl, hq⟩ | (refine wpAny_bind (m := truthy (.bool _)) (wpAny_truthy_bool ?_)) | wp_step)) fun _ _ e => e)))
      | wp_step)
  have one : wpAny (model prog w) A (tryCompare (.ref x) "__ne__" y) (fun r s' => ∃ v, r = some v ∧ Q v s') E s := by
    unfold tryCompare
    refine wpAny_bind (ifBound_blt X I hn (fun self => F.cmp_object.ne.bind self) (wpAny_mono obj (fun v s' hv => ?_) fun _ _ e => e))
    obtain ⟨b, rfl, hq⟩ := hv
    exact wpAny_pure ⟨_, rfl, hq⟩
  show wpAny _ _ (richCompare .NotEq (.ref x) y) _ _ _
  unfold richCompare
  simp only [oneThing_ref]
  refine wpAny_holding (wpAny_bind (wpAny_cRoomFor (Nat.lt_of_succ_lt hu) ?_))
  rw [cmpInfo_NotEq]
  dsimp only
  refine wpAny_bind (I.type.here (wpAny_bind (hy.here ?_)))
  rw [show (Value.ref C != Value.ref C) = false from by simp]
  simp only [Bool.false_eq_true, if_false]
  refine wpAny_bind (wpAny_pure ?_)
  simp only [Bool.false_eq_true, if_false]
  refine wpAny_bind (wpAny_mono one (fun r s' z => ?_) fun _ _ e => e)
  obtain ⟨v, rfl, hq⟩ := z
  exact wpAny_pure hq
end
end Mir
namespace Mir
open PySem L2
/-! ### own classes -/
/-- the reserved names -/
structure Names2 (Λ : Lk) : Prop where
  add : Λ.nm 1 = some (PySem.dunder "add")
  sub : Λ.nm 2 = some (PySem.dunder "sub")
  mul : Λ.nm 3 = some (PySem.dunder "mul")
  pow : Λ.nm 4 = some (PySem.dunder "pow")
  radd : Λ.nm 11 = some (PySem.dunderR "add")
  rsub : Λ.nm 12 = some (PySem.dunderR "sub")
  rmul : Λ.nm 13 = some (PySem.dunderR "mul")
  neg : Λ.nm 20 = some "__neg__"
  eq : Λ.nm 21 = some "__eq__"
  bool : Λ.nm 22 = some "__bool__"
/-- what the top has left of an own class -/
structure ClsK (Λ : Lk) (T : Tab) (fa : Nat → Addr) (c : Nat) : Prop where
  cls : Cls Λ.K (Λ.ca c)
  first : PySem.W.selfFirst Λ.K (Λ.ca c) = true
  noat : ∀ f x, Λ.nm f = some x → T.fld c f = true → NoAttr Λ.K (Λ.ca c) x
  prop : ∀ f g, T.prop c f = some g → ∃ x p, Λ.nm f = some x ∧ PropOf Λ.K (Λ.ca c) x p (fa g)
  mth : ∀ m f, T.mth c m = some f → ∃ x, Λ.nm m = some x ∧ PySem.W.findIn Λ.K (.ref (Λ.ca c)) x = some (some (.ref (fa f)))
  init : ∀ f, T.init c = some f → Mk Λ.K (Λ.ca c) (fa f)
  radd : ∀ op, dun op ≠ 0 → ∃ rc, PySem.W.findIn Λ.K (.ref (Λ.ca c)) (PySem.dunderR op.info.2) = some rc ∧ (rc = none ∨ ∃ g : Addr, rc = some (.ref g))
  subInt : PySem.W.subIn Λ.K (.ref (Λ.ca c)) (.type "int") = some false
  subObj : PySem.W.subIn Λ.K (.ref (Λ.ca c)) (.type "object") = some true
  ne : PySem.W.findIn Λ.K (.ref (Λ.ca c)) "__ne__" = some (some (.builtin "object.__ne__"))
  clas : PySem.W.findIn Λ.K (.ref (Λ.ca c)) "__class__" = some (some (.builtin "object.__class__")) ∧ PySem.W.mroIn Λ.K (Λ.ca c) (.type "object") = some true
  noBool : T.mth c dBool = none → PySem.W.findIn Λ.K (.ref (Λ.ca c)) "__bool__" = some none ∧ PySem.W.findIn Λ.K (.ref (Λ.ca c)) "__len__" = some none
  uniq : ∀ d, Λ.ca d = Λ.ca c → d = c

section
variable {Λ : Lk} {T : Tab} {cd : Cd} {k : Nat} {fa : Nat → Addr} {ps : Nat → List Str} {X : Cx} {wx : WX} {W : Wd} {st : Sto} {H : Hp} {Q : VK} {pins : List (Addr × Obj)} {s : Shared} {σ : St}

theorem inst_of {a C dx : Addr} {fs : List (Str × V)} (I : Inv X pins σ H s) (e : H a = some (.ins C dx fs)) : ∃ od, PySem.W.InstAt s.heap a (PySem.W.instObj C dx) C (some od) := by
  obtain ⟨mA, O, _⟩ := ins_get I.hok e
  obtain ⟨od, J, _⟩ := O.look
  exact ⟨od, J⟩
theorem relV_ni {x : V} {v : Value} (r : RelV x v) : v ≠ .notImplemented := by
  intro e
  subst e
  cases x with
  | non => cases r
  | bl _ => cases r
  | int _ => obtain ⟨_, r⟩ := r; cases r
  | str _ => obtain ⟨_, r⟩ := r; cases r
  | byt _ => obtain ⟨_, r⟩ := r; cases r
  | flt _ => obtain ⟨_, r⟩ := r; cases r
  | ref _ => cases r
  | ty _ => cases r
theorem cmpBack_of {v : Value} {s' : Shared} {P : Value → Shared → Prop} (h : P v s') (n : v ≠ .notImplemented) : PySem.W.CmpBack P v s' := by
  cases v <;> first | exact h | exact absurd rfl n
theorem cmpBack_EP {v : Value} {s' : Shared} (h : EP X pins σ Q v s') : PySem.W.CmpBack (EP X pins σ Q) v s' := by
  obtain ⟨x, H', I, r, q⟩ := id h
  exact cmpBack_of h (relV_ni r)
theorem Kn.fn_ (kn : Kn Λ T cd k fa ps X.prog X.w X.mg X.base) {f : Nat} {ds : List D} {E : XK} (p : Post Λ (Rel Λ) W (cd f ds st) Q E) : PySem.W.isFn Λ.K (.ref (fa f)) = true ∧ PySem.W.keepIn Λ.K (.ref (fa f)) = true := by
  obtain ⟨fn, hf, _⟩ := kn.arity p
  obtain ⟨_, _, _, _, k1, k2, _⟩ := kn.fns f fn hf
  exact ⟨k2, k1⟩
theorem Inv.kL (I : Inv X pins σ H s) (hK : X.K = Λ.K) : Λ.K.In s.heap := hK ▸ I.kIn
theorem fi_int (K : PySem.W.Frag) : ∀ op, dun op ≠ 0 → ∃ fo, PySem.W.findIn K (.type "int") (PySem.dunder op.info.2) = some fo ∧ ∃ ro, PySem.W.findIn K (.type "int") (PySem.dunderR op.info.2) = some ro
  | .Add, _ => ⟨_, rfl, _, rfl⟩
  | .Sub, _ => ⟨_, rfl, _, rfl⟩
  | .Mult, _ => ⟨_, rfl, _, rfl⟩
  | .Pow, _ => ⟨_, rfl, _, rfl⟩
  | .MatMult, h => absurd rfl h
  | .Div, h => absurd rfl h
  | .Mod, h => absurd rfl h
  | .LShift, h => absurd rfl h
  | .RShift, h => absurd rfl h
  | .BitOr, h => absurd rfl h
  | .BitXor, h => absurd rfl h
  | .BitAnd, h => absurd rfl h
  | .FloorDiv, h => absurd rfl h
theorem Names2.dun (n : Names2 Λ) {op : Operator} (h : dun op ≠ 0) : Λ.nm (Mir.dun op) = some (PySem.dunder op.info.2) := by
  cases op <;> first | exact n.add | exact n.sub | exact n.mul | exact n.pow | exact absurd rfl h
theorem nm0_dun {op : Operator} {c f : Nat} (h0 : ∀ c, T.mth c 0 = none) (h : T.mth c (dun op) = some f) : dun op ≠ 0 := by
  intro e
  rw [e, h0] at h
  cases h

/-- an own class's operator on the left -/
theorem bin_own (kn : Kn Λ T cd k fa ps X.prog X.w X.mg X.base) (hK : X.K = Λ.K) (hg : Good k X.A) (tk : Takes X wx) (n2 : Names2 Λ) (h0 : ∀ c, T.mth c 0 = none) (op : Operator) {c f : Nat} (ck : ClsK Λ T fa c) {a b : V} {v u : Value} {d : D} {fs : List (Nat × D)}
    (I : Inv X pins σ H s) (ra : RelV a v) (rb : RelV b u) (S : Sim Λ W st H) (la : Rel Λ W a (.obj c fs)) (lb : Rel Λ W b d) (hb : (∃ gs, d = .obj c gs) ∨ ∃ j, d = .int j) (hf : T.mth c (dun op) = some f)
    (p : Post Λ (Rel Λ) W (cd f [.obj c fs, d] st) Q (fun cls od H' => wx cls od σ H')) : wpAny (model X.prog X.w) X.A (binaryOp op v u) (EP X pins σ Q) X.xe s := by
  have hd := nm0_dun h0 hf
  obtain ⟨x, hx, hfi⟩ := ck.mth _ _ hf
  rw [n2.dun hd] at hx
  cases hx
  obtain ⟨m, F⟩ := I.fr
  have X0 : Λ.K.In X.base := hK ▸ I.mod.kin
  have call := kn.call hK hg tk f pins s σ H [v, u] [a, b] [.obj c fs, d] W st Q I (.cons ra (.cons rb .nil)) S (.cons la (.cons lb .nil)) p
  have back := wpAny_mono call (fun w s' h => cmpBack_EP h) fun _ _ z => z
  obtain ⟨fn1, _⟩ := kn.fn_ p
  cases la with
  | obj ga _ =>
    obtain rfl := ra
    obtain ⟨od, J⟩ := inst_of I (S.sub _ _ ga)
    rcases hb with ⟨gs, rfl⟩ | ⟨j, rfl⟩
    · cases lb with
      | obj gb _ =>
        obtain rfl := rb
        obtain ⟨od2, J2⟩ := inst_of I (S.sub _ _ gb)
        exact PySem.W.binop_K F X0 J J2.type ck.first hfi fn1 back
    · cases lb
      obtain ⟨t, rfl⟩ := rb
      obtain ⟨rc, h1, h2⟩ := ck.radd op hd
      obtain ⟨fo, e1, ro, e2⟩ := fi_int Λ.K op hd
      exact PySem.W.ksp_binT (T := "int") F X0 J rfl ck.first hfi fn1 h1 h2 e1 e2 rfl back

/-- an int on the left of an own thing -/
theorem bin_ref_own (kn : Kn Λ T cd k fa ps X.prog X.w X.mg X.base) (hK : X.K = Λ.K) (hg : Good k X.A) (tk : Takes X wx) (n2 : Names2 Λ) (h0 : ∀ c, T.mth c 0 = none) (op : Operator) {c f : Nat} (ck : ClsK Λ T fa c) {a b : V} {v u : Value} {i : Int} {fs : List (Nat × D)}
    (I : Inv X pins σ H s) (ra : RelV a v) (rb : RelV b u) (S : Sim Λ W st H) (la : Rel Λ W a (.int i)) (lb : Rel Λ W b (.obj c fs)) (hf : T.mth c (rdun op) = some f) (hf2 : (T.mth c (dun op)).isSome = true)
    (p : Post Λ (Rel Λ) W (cd f [.obj c fs, .int i] st) Q (fun cls od H' => wx cls od σ H')) : wpAny (model X.prog X.w) X.A (binaryOp op v u) (EP X pins σ Q) X.xe s := by
  obtain ⟨g, hgg⟩ := Option.isSome_iff_exists.mp hf2
  have hd := nm0_dun h0 hgg
  obtain ⟨y, hy, hgi⟩ := ck.mth _ _ hgg
  rw [n2.dun hd] at hy
  cases hy
  have call := kn.call hK hg tk f pins s σ H [u, v] [b, a] [.obj c fs, .int i] W st Q I (.cons rb (.cons ra .nil)) S (.cons lb (.cons la .nil)) p
  have back := wpAny_mono call (fun w s' h => cmpBack_EP h) fun _ _ z => z
  obtain ⟨fn1, _⟩ := kn.fn_ p
  cases la
  obtain ⟨t, rfl⟩ := ra
  cases lb with
  | obj gb _ =>
    obtain rfl := rb
    have Hb := S.sub _ _ gb
    obtain ⟨od, J⟩ := inst_of I Hb
    obtain ⟨x, hx, hfi⟩ := ck.mth _ _ hf
    have ho := J.1
    cases op with
    | Add =>
      have hx2 : Λ.nm 11 = some x := hx
      rw [n2.radd] at hx2
      cases hx2
      exact bin_refl (idl := "int.__add__") (Inv.kL I hK) J (PySem.typeIs_int _ _ _) ck.first F.fills_int_add F.slot_int_add ck.subInt hgi hfi fn1 (fun Q' q => int_dec_add ho q) back
    | Sub =>
      have hx2 : Λ.nm 12 = some x := hx
      rw [n2.rsub] at hx2
      cases hx2
      exact bin_refl (idl := "int.__sub__") (Inv.kL I hK) J (PySem.typeIs_int _ _ _) ck.first F.fills_int_sub F.slot_int_sub ck.subInt hgi hfi fn1 (fun Q' q => int_dec_sub ho q) back
    | Mult =>
      have hx2 : Λ.nm 13 = some x := hx
      rw [n2.rmul] at hx2
      cases hx2
      exact bin_refl (idl := "int.__mul__") (Inv.kL I hK) J (PySem.typeIs_int _ _ _) ck.first F.fills_int_mul F.slot_int_mul ck.subInt hgi hfi fn1 (fun Q' q => int_dec_mul ho q) back
    | _ =>
      have h1 : T.mth c 0 = some f := hf
      rw [h0] at h1
      cases h1

/-- all own classes -/
abbrev ClsAll (Λ : Lk) (T : Tab) (fa : Nat → Addr) : Prop := ∀ c, T.has c = true → ClsK Λ T fa c
theorem op_bin (kn : Kn Λ T cd k fa ps X.prog X.w X.mg X.base) (hK : X.K = Λ.K) (hg : Good k X.A) (tk : Takes X wx) (n2 : Names2 Λ) (h0 : ∀ c, T.mth c 0 = none) (hm : ∀ c m f, T.mth c m = some f → T.has c = true) (ck : ClsAll Λ T fa) (op : Operator) :
    OpV Λ X wx (binaryOp op) (binD T cd op) := by
  intro pins s σ H v u x y a b W st Q I rx ry S la lb p
  unfold binD at p
  split at p
  · cases la
    cases lb
    obtain ⟨n, e, q⟩ := p.opt
    obtain ⟨n', e1, rfl⟩ := Option.map_eq_some_iff.mp e
    exact int_op op I rx ry e1 (q.here S (.int _))
  · cases la
    cases lb
    split at p
    · split at p
      · rename_i hz
        exact op_add_str pins s σ H _ _ v u Q I rx ry ⟨_, _, rfl, rfl, hz, KOk.here p S (.str _)⟩
      · exact p.elim
    · exact p.elim
  · cases la with
    | tup ta ra =>
      cases lb with
      | tup tb rb =>
        split at p
        · split at p
          · rename_i hz
            have ta2 := seqT_same S.sub ta
            have tb2 := seqT_same S.sub tb
            rw [← ra.len, ← rb.len] at hz
            rw [← hK] at ta2 tb2
            refine op_catA pins s σ H _ _ v u Q I rx ry ⟨_, _, _, _, rfl, rfl, ta2, tb2, hz, fun e => ?_, fun e e2 => ?_, fun _ _ => KOk.newTup p S (ra.append rb)⟩
            · subst e
              cases ra
              exact KOk.here p S (.tup tb rb)
            · subst e2
              cases rb
              exact KOk.here p S (by rw [List.append_nil]; exact .tup ta ra)
          · exact p.elim
        · exact p.elim
  · cases la with
    | lst ta ra =>
      cases lb with
      | lst tb rb =>
        split at p
        · split at p
          · rename_i hz
            rw [← ra.len, ← rb.len] at hz
            exact op_cat pins s σ H _ _ v u Q I rx ry ⟨_, _, _, _, rfl, rfl, S.sub _ _ ta, S.sub _ _ tb, hz, KOk.newLst p S (ra.append rb)⟩
          · exact p.elim
        · exact p.elim
  · split at p
    · rename_i hc
      subst hc
      unfold ownM at p
      split at p
      · rename_i f hf
        exact bin_own kn hK hg tk n2 h0 op (ck _ (hm _ _ _ hf)) I rx ry S la lb (.inl ⟨_, rfl⟩) hf p
      · exact p.elim
    · exact p.elim
  · unfold ownM at p
    split at p
    · rename_i f hf
      exact bin_own kn hK hg tk n2 h0 op (ck _ (hm _ _ _ hf)) I rx ry S la lb (.inr ⟨_, rfl⟩) hf p
    · exact p.elim
  · split at p
    · rename_i hs
      unfold ownM at p
      split at p
      · rename_i f hf
        exact bin_ref_own kn hK hg tk n2 h0 op (ck _ (hm _ _ _ hf)) I rx ry S la lb hf hs p
      · exact p.elim
    · exact p.elim
  · exact p.elim
end
end Mir

set_option Elab.async false
set_option linter.all false
set_option maxRecDepth 100000
/-! Mir3: operations on values, by what they do to data. -/
namespace Mir
open PySem L2

/-- what is known of the text, whatever the place -/
structure Bk (Λ : Lk) (T : Tab) (fa : Nat → Addr) : Prop where
  n2 : Names2 Λ
  h0 : ∀ c, T.mth c 0 = none
  hm : ∀ c m f, T.mth c m = some f → T.has c = true
  fnm : ∀ c m f, T.mth c m = some f → (T.fn f).isSome = true
  pr : ∀ c f g, T.prop c f = some g → T.has c = true
  fl : ∀ c f, T.fld c f = true → T.has c = true
  ck : ClsAll Λ T fa
  kT : ∀ c, T.has c = true → ∀ t ∈ ["NoneType", "bool", "int", "str", "tuple", "list"], PySem.W.kitOne Λ.K (.type t) (.ref (Λ.ca c)) = some false
  kT2 : ∀ c, T.has c = true → ∀ t ∈ ["bool", "int", "str", "tuple", "list"], PySem.W.kitOne Λ.K (.ref (Λ.ca c)) (.type t) = some false
  kC : ∀ c d, T.has c = true → T.has d = true → PySem.W.kitOne Λ.K (.ref (Λ.ca c)) (.ref (Λ.ca d)) = some (decide (c = d))
  nf : ∀ c, T.has c = true → PySem.W.notFirst Λ.K (Λ.ca c) (.ref (Λ.ca c)) = true ∧ PySem.W.notFirst Λ.K (Λ.ca c) (.type "int") = true

/-- a place: a body, or a block in it -/
structure Ev (Λ : Lk) (T : Tab) (cd : Cd) (k : Nat) (fa : Nat → Addr) (ps : Nat → List Str) (X : Cx) (E : XK) : Prop where
  kn : Kn Λ T cd k fa ps X.prog X.w X.mg X.base
  bk : Bk Λ T fa
  hK : X.K = Λ.K
  hg : Good (k + 2) X.A
  tk : Takes X (fun cls d _ H => E cls d H)
  calm : X.calm = true

section
variable (Λ : Lk) (E : XK)
def r1 (g : D → Sto → R D) : V → Hp → VK → Prop := fun x H Q => ∃ a W st, Sim Λ W st H ∧ Rel Λ W x a ∧ Post Λ (Rel Λ) W (g a st) Q E
def r2 (g : D → D → Sto → R D) : R2 := fun x y H Q => ∃ a b W st, Sim Λ W st H ∧ Rel Λ W x a ∧ Rel Λ W y b ∧ Post Λ (Rel Λ) W (g a b st) Q E
def rL (g : List D → Sto → R D) : List V → Hp → VK → Prop := fun xs H Q => ∃ ds W st, Sim Λ W st H ∧ RelL Λ W xs ds ∧ Post Λ (Rel Λ) W (g ds st) Q E
def same {α : Type} : Wd → α → α → Prop := fun _ a b => a = b
def r1b (g : D → Sto → R Bool) : V → Hp → (Bool → Hp → Prop) → Prop := fun x H Q => ∃ a W st, Sim Λ W st H ∧ Rel Λ W x a ∧ Post Λ same W (g a st) Q E
def rS (g : D → Option Int → Option Int → Sto → R D) : V → Option Int → Option Int → Hp → VK → Prop := fun x lo hi H Q => ∃ a W st, Sim Λ W st H ∧ Rel Λ W x a ∧ Post Λ (Rel Λ) W (g a lo hi st) Q E
end

section
variable {Λ : Lk} {T : Tab} {cd : Cd} {k : Nat} {fa : Nat → Addr} {ps : Nat → List Str} {X : Cx} {E : XK} {W : Wd} {st : Sto} {H : Hp} {Q : VK}

theorem Ev.g0 (e : Ev Λ T cd k fa ps X E) : Good k X.A := e.hg.mono (by omega)
theorem Ev.g1 (e : Ev Λ T cd k fa ps X E) : Good (k + 1) X.A := e.hg.mono (by omega)
theorem Ev.u64 (e : Ev Λ T cd k fa ps X E) : X.A.units + 65 < cLine := by
  have := e.hg.room.un
  omega

theorem rdL {a : Addr} {vs : List V} (h : H a = some (.lst vs)) {K : PySem.W.Frag} : SqL K H a vs := Or.inl (Or.inl h)
theorem rdT {a : Addr} {vs : List V} (h : H a = some (.tup vs)) {K : PySem.W.Frag} : SqT K H a vs := Or.inl (Or.inl h)

/-- what stands in order -/
theorem items_seq (S : Sim Λ W st H) {x : V} {b : D} {ds : List D} (r : Rel Λ W x b) (e : items st b = some ds) : ∃ p xs, x = .ref p ∧ (SqL Λ.K H p xs ∨ SqT Λ.K H p xs) ∧ RelL Λ W xs ds := by
  cases r with
  | tup t l =>
    cases e
    exact ⟨_, _, rfl, .inr (seqT_same S.sub t), l⟩
  | lst t l =>
    cases e
    exact ⟨_, _, rfl, .inl (rdL (S.sub _ _ t)), l⟩
  | scr t l =>
    cases e
    exact ⟨_, _, rfl, .inl (S.sub.seq t), l⟩
  | mref n ha =>
    simp only [items] at e
    split at e
    · rename_i z
      cases e
      obtain ⟨a, vs, e1, _, e3, r⟩ := S.cell _ _ z
      rw [ha] at e1
      cases e1
      exact ⟨_, _, rfl, .inl (rdL e3), r⟩
    · cases e
  | non => cases e
  | bl => cases e
  | int => cases e
  | str => cases e
  | obj => cases e

/-! ### plain data -/
mutual
theorem dp_of (S : Sim Λ W st H) : ∀ {n : Nat} {v : V} {d : D}, Rel Λ W v d → pl n d = true → Dp Λ.K H v (toP d)
  | _, _, _, .non, _ => .non
  | _, _, _, .bl b, _ => .bl b
  | _, _, _, .int i, _ => .int i
  | _, _, _, .str s, _ => .str s
  | 0, _, _, .tup t l, h => by simp [pl] at h
  | n + 1, _, _, .tup t l, h => .tup (seqT_same S.sub t) (dp_all S l (by simpa only [pl] using h))
  | 0, _, _, .lst t l, h => by simp [pl] at h
  | n + 1, _, _, .lst t l, h => .lst (rdL (S.sub _ _ t)) (dp_all S l (by simpa only [pl] using h))
  | _, _, _, .scr t l, h => by simp [pl] at h
  | _, _, _, .obj t l, h => by simp [pl] at h
  | _, _, _, .mref n e, h => by simp [pl] at h
theorem dp_all (S : Sim Λ W st H) : ∀ {n : Nat} {v : List V} {d : List D}, RelL Λ W v d → pls n d = true → DpAll Λ.K H v (toPs d)
  | _, _, _, .nil, _ => .nil
  | _, _, _, .cons a b, h => by
    simp only [pls, Bool.and_eq_true] at h
    exact .cons (dp_of S a h.1) (dp_all S b h.2)
end
mutual
theorem lay_of : ∀ (d : D) (n : Nat), pl n d = true → (toP d).canLay0 = true ∧ (toP d).depth ≤ n + 1
  | .non, n, h => ⟨rfl, by simp [toP, PyData.depth]⟩
  | .bl b, n, h => ⟨rfl, by simp [toP, PyData.depth]⟩
  | .int i, n, h => ⟨rfl, by simp [toP, PyData.depth]⟩
  | .str s, n, h => by
    refine ⟨?_, by simp [toP, PyData.depth]⟩
    cases n <;> simpa [toP, PyData.canLay0, pl] using h
  | .tup ds, 0, h => by simp [pl] at h
  | .tup ds, n + 1, h => by
    obtain ⟨a, b⟩ := lays_of ds n (by simpa only [pl] using h)
    exact ⟨by simpa only [toP, PyData.canLay0] using a, by simp only [toP, PyData.depth]; omega⟩
  | .lst ds, 0, h => by simp [pl] at h
  | .lst ds, n + 1, h => by
    obtain ⟨a, b⟩ := lays_of ds n (by simpa only [pl] using h)
    exact ⟨by simpa only [toP, PyData.canLay0] using a, by simp only [toP, PyData.depth]; omega⟩
  | .scr ds, n, h => by simp [pl] at h
  | .obj c fs, n, h => by simp [pl] at h
  | .mref m, n, h => by simp [pl] at h
theorem lays_of : ∀ (ds : List D) (n : Nat), pls n ds = true → PyData.canLayAll0 (toPs ds) = true ∧ PyData.depthAll (toPs ds) ≤ n + 1
  | [], n, h => ⟨rfl, by simp [toPs, PyData.depthAll]⟩
  | d :: ds, n, h => by
    simp only [pls, Bool.and_eq_true] at h
    obtain ⟨a, b⟩ := lay_of d n h.1
    obtain ⟨a2, b2⟩ := lays_of ds n h.2
    exact ⟨by simp only [toPs, PyData.canLayAll0, a, a2, Bool.and_self], by simp only [toPs, PyData.depthAll]; omega⟩
end
theorem shaped_of {d : D} (h : pl 60 d = true) : SeqAt.shaped (toP d) = true := by
  obtain ⟨a, b⟩ := lay_of d 60 h
  unfold SeqAt.shaped
  simp only [a, Bool.true_and, decide_eq_true_eq]
  omega
mutual
theorem eqv_of : ∀ (a b : D) (n m : Nat), pl n a = true → pl m b = true → PyData.eqv (toP a) (toP b) = eqv a b
  | .scr ds, _, n, _, h, _ => by simp [pl] at h
  | .obj c fs, _, n, _, h, _ => by simp [pl] at h
  | .mref m, _, n, _, h, _ => by simp [pl] at h
  | _, .scr ds, _, n, _, h => by simp [pl] at h
  | _, .obj c fs, _, n, _, h => by simp [pl] at h
  | _, .mref m, _, n, _, h => by simp [pl] at h
  | .tup xs, .tup ys, n + 1, m + 1, h, h2 => by
    simp only [toP, PyData.eqv, eqv]
    exact eqvs_of xs ys n m (by simpa only [pl] using h) (by simpa only [pl] using h2)
  | .lst xs, .lst ys, n + 1, m + 1, h, h2 => by
    simp only [toP, PyData.eqv, eqv]
    exact eqvs_of xs ys n m (by simpa only [pl] using h) (by simpa only [pl] using h2)
  | .tup xs, _, 0, _, h, _ => by simp [pl] at h
  | .lst xs, _, 0, _, h, _ => by simp [pl] at h
  | _, .tup xs, _, 0, _, h => by simp [pl] at h
  | _, .lst xs, _, 0, _, h => by simp [pl] at h
  | .non, .non, _, _, _, _ => by simp [toP, PyData.eqv, eqv]
  | .non, .bl b, _, _, _, _ => by simp [toP, PyData.eqv, eqv]
  | .non, .int b, _, _, _, _ => by simp [toP, PyData.eqv, eqv]
  | .non, .str b, _, _, _, _ => by simp [toP, PyData.eqv, eqv]
  | .non, .tup b, _, _ + 1, _, _ => by simp [toP, PyData.eqv, eqv]
  | .non, .lst b, _, _ + 1, _, _ => by simp [toP, PyData.eqv, eqv]
  | .bl a, .non, _, _, _, _ => by simp [toP, PyData.eqv, eqv]
  | .bl a, .bl b, _, _, _, _ => by simp [toP, PyData.eqv, eqv]
  | .bl a, .int b, _, _, _, _ => by simp [toP, PyData.eqv, eqv]
  | .bl a, .str b, _, _, _, _ => by simp [toP, PyData.eqv, eqv]
  | .bl a, .tup b, _, _ + 1, _, _ => by simp [toP, PyData.eqv, eqv]
  | .bl a, .lst b, _, _ + 1, _, _ => by simp [toP, PyData.eqv, eqv]
  | .int a, .non, _, _, _, _ => by simp [toP, PyData.eqv, eqv]
  | .int a, .bl b, _, _, _, _ => by simp [toP, PyData.eqv, eqv]
  | .int a, .int b, _, _, _, _ => by simp only [toP, PyData.eqv, eqv]; by_cases q : a = b <;> simp [q]
  | .int a, .str b, _, _, _, _ => by simp [toP, PyData.eqv, eqv]
  | .int a, .tup b, _, _ + 1, _, _ => by simp [toP, PyData.eqv, eqv]
  | .int a, .lst b, _, _ + 1, _, _ => by simp [toP, PyData.eqv, eqv]
  | .str a, .non, _, _, _, _ => by simp [toP, PyData.eqv, eqv]
  | .str a, .bl b, _, _, _, _ => by simp [toP, PyData.eqv, eqv]
  | .str a, .int b, _, _, _, _ => by simp [toP, PyData.eqv, eqv]
  | .str a, .str b, _, _, _, _ => by simp only [toP, PyData.eqv, eqv]; by_cases q : a = b <;> simp [q]
  | .str a, .tup b, _, _ + 1, _, _ => by simp [toP, PyData.eqv, eqv]
  | .str a, .lst b, _, _ + 1, _, _ => by simp [toP, PyData.eqv, eqv]
  | .tup a, .non, _ + 1, _, _, _ => by simp [toP, PyData.eqv, eqv]
  | .tup a, .bl b, _ + 1, _, _, _ => by simp [toP, PyData.eqv, eqv]
  | .tup a, .int b, _ + 1, _, _, _ => by simp [toP, PyData.eqv, eqv]
  | .tup a, .str b, _ + 1, _, _, _ => by simp [toP, PyData.eqv, eqv]
  | .tup a, .lst b, _ + 1, _ + 1, _, _ => by simp [toP, PyData.eqv, eqv]
  | .lst a, .non, _ + 1, _, _, _ => by simp [toP, PyData.eqv, eqv]
  | .lst a, .bl b, _ + 1, _, _, _ => by simp [toP, PyData.eqv, eqv]
  | .lst a, .int b, _ + 1, _, _, _ => by simp [toP, PyData.eqv, eqv]
  | .lst a, .str b, _ + 1, _, _, _ => by simp [toP, PyData.eqv, eqv]
  | .lst a, .tup b, _ + 1, _ + 1, _, _ => by simp [toP, PyData.eqv, eqv]
theorem eqvs_of : ∀ (a b : List D) (n m : Nat), pls n a = true → pls m b = true → PyData.eqvAll (toPs a) (toPs b) = eqvs a b
  | [], [], _, _, _, _ => rfl
  | [], _ :: _, _, _, _, _ => rfl
  | _ :: _, [], _, _, _, _ => rfl
  | x :: xs, y :: ys, n, m, h, h2 => by
    simp only [pls, Bool.and_eq_true] at h h2
    simp only [toPs, PyData.eqvAll, eqvs, eqv_of x y n m h.1 h2.1, eqvs_of xs ys n m h.2 h2.2]
end
theorem flat_of {v : V} {d : D} (r : Rel Λ W v d) (h : pl 0 d = true) : flatV v = true := by
  cases r <;> first | rfl | (simp [pl] at h)
theorem flats_of {vs : List V} {ds : List D} (r : RelL Λ W vs ds) (h : pls 0 ds = true) : vs.all flatV = true := by
  induction ds generalizing vs with
  | nil =>
    cases r
    rfl
  | cons d ds ih =>
    cases r with
    | cons a b =>
      simp only [pls, Bool.and_eq_true] at h
      simp only [List.all_cons, flat_of a h.1, ih b h.2, Bool.and_self]
theorem eqV_of {v u : V} {d e : D} (r : Rel Λ W v d) (r2 : Rel Λ W u e) (h : pl 0 d = true) (h2 : pl 0 e = true) : eqV v u = eqv d e := by
  cases r <;> cases r2 <;> first | rfl | (simp [pl] at h; done) | (simp [pl] at h2; done) | (simp only [eqV, eqv]; first | rfl | (rename_i a b; by_cases q : a = b <;> simp [q]))
theorem inV_of {u : V} {e : D} {vs : List V} {ds : List D} (r2 : Rel Λ W u e) (r : RelL Λ W vs ds) (h : pls 0 ds = true) (h2 : pl 0 e = true) : inV u vs = ds.any fun d => eqv d e := by
  induction ds generalizing vs with
  | nil =>
    cases r
    rfl
  | cons d ds ih =>
    cases r with
    | cons a b =>
      simp only [pls, Bool.and_eq_true] at h
      have q := ih b h.2
      unfold inV at q ⊢
      simp only [List.any_cons, eqV_of a r2 h.1 h2, q]

/-! ### comparing -/
theorem scal_of {x y : V} {a b : D} {c : Bool} (rx : Rel Λ W x a) (ry : Rel Λ W y b) (h : flat2 a b = some c) : scal x y = true ∧ decide (x = y) = c := by
  cases rx <;> cases ry <;> simp only [flat2, Option.some.injEq, reduceCtorEq] at h <;> subst h <;> exact ⟨rfl, by simp⟩
theorem cmp_eq (e : Ev Λ T cd k fa ps X E) {pins : List (Addr × Obj)} {s : Shared} {σ : L2.St} {x y : V} {v u : Value} {a b : D} {c : Bool} (I : Inv X pins σ H s) (vx : RelV x v) (vy : RelV y u)
    (S : Sim Λ W st H) (rx : Rel Λ W x a) (ry : Rel Λ W y b) (h : eqD a b = some c) (q : Q (.bl c) H) : wpAny (model X.prog X.w) X.A (compareOp .Eq v u) (EP X pins σ Q) X.xe s := by
  unfold eqD at h
  split at h
  · rename_i f
    obtain ⟨h1, h2⟩ := scal_of rx ry f
    cases h
    exact op_eq pins s σ H x y v u Q I vx vy ⟨h1, h2 ▸ q⟩
  · split at h
    · rename_i p
      simp only [Bool.and_eq_true] at p
      cases h
      refine op_eqD (by have := e.u64; omega) pins s σ H x y v u Q I vx vy ⟨toP a, toP b, ?_, ?_, shaped_of p.1, shaped_of p.2, ?_⟩
      · rw [e.hK]; exact dp_of S rx p.1
      · rw [e.hK]; exact dp_of S ry p.2
      · rw [eqv_of a b 60 60 p.1 p.2]; exact q
    · cases h
theorem cmp_ne (e : Ev Λ T cd k fa ps X E) {pins : List (Addr × Obj)} {s : Shared} {σ : L2.St} {x y : V} {v u : Value} {a b : D} {c : Bool} (I : Inv X pins σ H s) (vx : RelV x v) (vy : RelV y u)
    (S : Sim Λ W st H) (rx : Rel Λ W x a) (ry : Rel Λ W y b) (h : eqD a b = some c) (q : Q (.bl (!c)) H) : wpAny (model X.prog X.w) X.A (compareOp .NotEq v u) (EP X pins σ Q) X.xe s := by
  unfold eqD at h
  split at h
  · rename_i f
    obtain ⟨h1, h2⟩ := scal_of rx ry f
    cases h
    exact op_ne pins s σ H x y v u Q I vx vy ⟨h1, by rw [h2]; exact q⟩
  · split at h
    · rename_i p
      simp only [Bool.and_eq_true] at p
      cases h
      refine op_neD (by have := e.u64; omega) pins s σ H x y v u Q I vx vy ⟨toP a, toP b, ?_, ?_, shaped_of p.1, shaped_of p.2, ?_⟩
      · rw [e.hK]; exact dp_of S rx p.1
      · rw [e.hK]; exact dp_of S ry p.2
      · rw [eqv_of a b 60 60 p.1 p.2]; exact q
    · cases h
def isNon : D → Bool
  | .non => true
  | _ => false
def num2 (op : CmpOp) : D → D → Option Bool
  | .int i, .int j => cmpInt op i j
  | _, _ => none
theorem non_of {x : V} {a : D} (r : Rel Λ W x a) : decide (x = .non) = isNon a := by
  cases r <;> rfl
theorem cmpD_is (st : Sto) (a b : D) : cmpD st .Is a b = if isNon b = true then some (isNon a) else none := by
  cases a <;> cases b <;> rfl
theorem cmpD_isNot (st : Sto) (a b : D) : cmpD st .IsNot a b = if isNon b = true then some (!isNon a) else none := by
  cases a <;> cases b <;> rfl
theorem cmpD_lt (st : Sto) (a b : D) : cmpD st .Lt a b = num2 .Lt a b := by
  cases a <;> cases b <;> rfl
theorem cmpD_le (st : Sto) (a b : D) : cmpD st .LtE a b = num2 .LtE a b := by
  cases a <;> cases b <;> rfl
theorem cmpD_gt (st : Sto) (a b : D) : cmpD st .Gt a b = num2 .Gt a b := by
  cases a <;> cases b <;> rfl
theorem cmpD_ge (st : Sto) (a b : D) : cmpD st .GtE a b = num2 .GtE a b := by
  cases a <;> cases b <;> rfl
theorem isNon_eq {b : D} (h : isNon b = true) : b = .non := by
  cases b <;> first | rfl | cases h
theorem cmp_is {neg : Bool} (e : Ev Λ T cd k fa ps X E) {pins : List (Addr × Obj)} {s : Shared} {σ : L2.St} {x y : V} {v u : Value} {a b : D} {c : Bool} (I : Inv X pins σ H s) (vx : RelV x v) (vy : RelV y u)
    (rx : Rel Λ W x a) (ry : Rel Λ W y b) (h : cmpD st (if neg then .IsNot else .Is) a b = some c) (q : Q (.bl c) H) : wpAny (model X.prog X.w) X.A (compareOp (if neg then .IsNot else .Is) v u) (EP X pins σ Q) X.xe s := by
  cases neg
  · simp only [Bool.false_eq_true, if_false, cmpD_is] at h ⊢
    split at h
    · rename_i z
      obtain rfl := isNon_eq z
      cases ry
      refine op_isN pins s σ H x _ v u Q I vx vy ⟨rfl, ?_⟩
      rw [non_of rx]
      cases h
      exact q
    · cases h
  · simp only [if_true, cmpD_isNot] at h ⊢
    split at h
    · rename_i z
      obtain rfl := isNon_eq z
      cases ry
      refine op_notN pins s σ H x _ v u Q I vx vy ⟨rfl, ?_⟩
      rw [non_of rx]
      cases h
      exact q
    · cases h
theorem cmp_in {neg : Bool} (e : Ev Λ T cd k fa ps X E) {pins : List (Addr × Obj)} {s : Shared} {σ : L2.St} {x y : V} {v u : Value} {a b : D} {c : Bool} (I : Inv X pins σ H s) (vx : RelV x v) (vy : RelV y u)
    (S : Sim Λ W st H) (rx : Rel Λ W x a) (ry : Rel Λ W y b) (h : inD st a b = some c) (q : Q (.bl (if neg = true then !c else c)) H) : wpAny (model X.prog X.w) X.A (compareOp (if neg then .NotIn else .In) v u) (EP X pins σ Q) X.xe s := by
  unfold inD at h
  split at h
  · rename_i ds hi
    split at h
    · rename_i p
      simp only [Bool.and_eq_true] at p
      cases h
      obtain ⟨pp, xs, rfl, hs, rl⟩ := items_seq S ry hi
      have q2 : Q (.bl (if neg = true then !inV x xs else inV x xs)) H := by
        rw [inV_of rx rl p.2 p.1]
        exact q
      rw [← e.hK] at hs
      cases neg
      · exact op_in_seq pins s σ H x _ v u Q I vx vy ⟨_, xs, rfl, hs, flat_of rx p.1, flats_of rl p.2, q2⟩
      · exact op_notIn_seq pins s σ H x _ v u Q I vx vy ⟨_, xs, rfl, hs, flat_of rx p.1, flats_of rl p.2, q2⟩
    · cases h
  · cases h
theorem cmp_int {op : CmpOp} {pins : List (Addr × Obj)} {s : Shared} {σ : L2.St} {v u : Value} {i j : Int} {c : Bool} (I : Inv X pins σ H s) (vx : RelV (.int i) v) (vy : RelV (.int j) u)
    (h : cmpInt op i j = some c) (q : Q (.bl c) H) : wpAny (model X.prog X.w) X.A (compareOp op v u) (EP X pins σ Q) X.xe s := by
  cases op <;> first
    | (cases h; done)
    | (cases h
       first
         | exact op_lt pins s σ H _ _ v u Q I vx vy ⟨i, j, rfl, rfl, q⟩
         | exact op_le pins s σ H _ _ v u Q I vx vy ⟨i, j, rfl, rfl, q⟩
         | exact op_gt pins s σ H _ _ v u Q I vx vy ⟨i, j, rfl, rfl, q⟩
         | exact op_ge pins s σ H _ _ v u Q I vx vy ⟨i, j, rfl, rfl, q⟩)
theorem cmp_D (e : Ev Λ T cd k fa ps X E) (op : CmpOp) {pins : List (Addr × Obj)} {s : Shared} {σ : L2.St} {x y : V} {v u : Value} {a b : D} {c : Bool} (I : Inv X pins σ H s) (vx : RelV x v) (vy : RelV y u)
    (S : Sim Λ W st H) (rx : Rel Λ W x a) (ry : Rel Λ W y b) (h : cmpD st op a b = some c) (q : Q (.bl c) H) : wpAny (model X.prog X.w) X.A (compareOp op v u) (EP X pins σ Q) X.xe s := by
  have num : ∀ {op : CmpOp} (w : num2 op a b = some c), wpAny (model X.prog X.w) X.A (compareOp op v u) (EP X pins σ Q) X.xe s := by
    intro op w
    unfold num2 at w
    split at w
    · cases rx
      cases ry
      exact cmp_int I vx vy w q
    · cases w
  cases op with
  | Eq => exact cmp_eq e I vx vy S rx ry h q
  | NotEq =>
    obtain ⟨d, h1, rfl⟩ := Option.map_eq_some_iff.mp h
    exact cmp_ne e I vx vy S rx ry h1 q
  | Is => exact cmp_is (neg := false) e I vx vy rx ry h q
  | IsNot => exact cmp_is (neg := true) e I vx vy rx ry h q
  | In => exact cmp_in (neg := false) e I vx vy S rx ry h q
  | NotIn =>
    obtain ⟨d, h1, rfl⟩ := Option.map_eq_some_iff.mp h
    exact cmp_in (neg := true) e I vx vy S rx ry h1 q
  | Lt => exact num (cmpD_lt st a b ▸ h)
  | LtE => exact num (cmpD_le st a b ▸ h)
  | Gt => exact num (cmpD_gt st a b ▸ h)
  | GtE => exact num (cmpD_ge st a b ▸ h)
/-- an own class's == -/
theorem own_eq (e : Ev Λ T cd k fa ps X E) {c f : Nat} {pins : List (Addr × Obj)} {s : Shared} {σ : L2.St} {x y : V} {v u : Value} {fs : List (Nat × D)} {d : D} (I : Inv X pins σ H s) (vx : RelV x v) (vy : RelV y u)
    (S : Sim Λ W st H) (rx : Rel Λ W x (.obj c fs)) (ry : Rel Λ W y d) (hb : (∃ gs, d = .obj c gs) ∨ ∃ j, d = .int j) (hf : T.mth c dEq = some f)
    (p : Post Λ (Rel Λ) W (cd f [.obj c fs, d] st) Q E) : wpAny (model X.prog X.w) X.A (compareOp .Eq v u) (EP X pins σ Q) X.xe s := by
  have hc := e.bk.hm _ _ _ hf
  have ck := e.bk.ck _ hc
  obtain ⟨n, hn, hfi⟩ := ck.mth _ _ hf
  have hn2 : Λ.nm 21 = some n := hn
  rw [e.bk.n2.eq] at hn2
  cases hn2
  obtain ⟨m, F⟩ := I.fr
  have X0 : Λ.K.In X.base := e.hK ▸ I.mod.kin
  have call := e.kn.call e.hK e.g0 e.tk f pins s σ H [v, u] [x, y] [.obj c fs, d] W st Q I (.cons vx (.cons vy .nil)) S (.cons rx (.cons ry .nil)) p
  have back := wpAny_mono call (fun w s' h => cmpBack_EP h) fun _ _ z => z
  have fn1 := (e.kn.fn_ p).1
  have hu : X.A.units < cLine := by have := e.u64; omega
  cases rx with
  | obj ga _ =>
    obtain rfl := vx
    obtain ⟨od, J⟩ := inst_of I (S.sub _ _ ga)
    show wpAny _ _ (richCompare .Eq _ _) _ _ _
    rcases hb with ⟨gs, rfl⟩ | ⟨j, rfl⟩
    · cases ry with
      | obj gb _ =>
        obtain rfl := vy
        obtain ⟨od2, J2⟩ := inst_of I (S.sub _ _ gb)
        exact PySem.W.cmp_K hu F X0 J J2.type (e.bk.nf c hc).1 hfi fn1 back
    · cases ry
      obtain ⟨t, rfl⟩ := vy
      exact PySem.W.cmp_K hu F X0 J (PySem.W.Looks.of_pure rfl) (e.bk.nf c hc).2 hfi fn1 back

/-- an own class's != -/
theorem own_ne (e : Ev Λ T cd k fa ps X E) {c f : Nat} {pins : List (Addr × Obj)} {s : Shared} {σ : L2.St} {x y : V} {v u : Value} {fs gs : List (Nat × D)} (I : Inv X pins σ H s) (vx : RelV x v) (vy : RelV y u)
    (S : Sim Λ W st H) (rx : Rel Λ W x (.obj c fs)) (ry : Rel Λ W y (.obj c gs)) (hf : T.mth c dEq = some f)
    (p : Post Λ (Rel Λ) W ((cd f [.obj c fs, .obj c gs] st).bind fun r st1 => match r with
      | .bl k => .ok (.bl (!k)) st1
      | _ => .no) Q E) : wpAny (model X.prog X.w) X.A (compareOp .NotEq v u) (EP X pins σ Q) X.xe s := by
  have hc := e.bk.hm _ _ _ hf
  have ck := e.bk.ck _ hc
  obtain ⟨n, hn, hfi⟩ := ck.mth _ _ hf
  have hn2 : Λ.nm 21 = some n := hn
  rw [e.bk.n2.eq] at hn2
  cases hn2
  have X0 : Λ.K.In s.heap := Inv.kL I e.hK
  have p2 : Post Λ (Rel Λ) W (cd f [.obj c fs, .obj c gs] st) (fun v H' => ∃ b, v = .bl b ∧ Q (.bl (!b)) H') E := by
    refine p.bind fun W1 a st1 v H1 le S1 r1 q => ?_
    cases a <;> first | exact q.elim | skip
    cases r1
    exact ⟨_, rfl, q.here S1 (.bl _)⟩
  have call := e.kn.call1 e.hK e.g1 e.tk f pins s σ H [v, u] [x, y] [.obj c fs, .obj c gs] W st _ I (.cons vx (.cons vy .nil)) S (.cons rx (.cons ry .nil)) p2
  have fn1 := (e.kn.fn_ p2).1
  have hu : X.A.units + 1 < cLine := by have := e.u64; omega
  cases rx with
  | obj ga _ =>
    obtain rfl := vx
    obtain ⟨od, J⟩ := inst_of I (S.sub _ _ ga)
    cases ry with
    | obj gb _ =>
      obtain rfl := vy
      obtain ⟨od2, J2⟩ := inst_of I (S.sub _ _ gb)
      refine ne_own hu X0 J J2.type ck.ne ck.subObj hfi fn1 (wpAny_mono call (fun w s' h => ?_) fun _ _ z => z)
      obtain ⟨z, H', I', r, b, rfl, q⟩ := h
      obtain rfl := r
      exact ⟨b, rfl, .bl (!b), H', I', rfl, q⟩
theorem cmpV_ok (e : Ev Λ T cd k fa ps X E) (op : CmpOp) : OpR X (compareOp op) (r2 Λ E (cmpV T cd op)) := by
  intro pins s σ H x y v u Q I vx vy h
  obtain ⟨a, b, W, st, S, rx, ry, p⟩ := h
  unfold cmpV at p
  split at p
  · split at p
    · split at p
      · rename_i hc
        subst hc
        unfold ownM at p
        split at p
        · rename_i hf
          exact own_eq e I vx vy S rx ry (.inl ⟨_, rfl⟩) hf p
        · exact p.elim
      · exact p.elim
    · unfold ownM at p
      split at p
      · rename_i hf
        exact own_eq e I vx vy S rx ry (.inr ⟨_, rfl⟩) hf p
      · exact p.elim
    · split at p
      · rename_i hc
        subst hc
        unfold ownM at p
        split at p
        · rename_i hf
          exact own_ne e I vx vy S rx ry hf p
        · exact p.elim
      · exact p.elim
    · exact p.elim
  · obtain ⟨d, h1, q⟩ := p.opt
    obtain ⟨c, h2, rfl⟩ := Option.map_eq_some_iff.mp h1
    exact cmp_D e op I vx vy S rx ry h2 (q.here S (.bl _))
theorem binD_ok (e : Ev Λ T cd k fa ps X E) (op : Operator) : OpR X (binaryOp op) (r2 Λ E (binD T cd op)) := by
  intro pins s σ H x y v u Q I vx vy h
  obtain ⟨a, b, W, st, S, rx, ry, p⟩ := h
  exact op_bin e.kn e.hK e.g0 e.tk e.bk.n2 e.bk.h0 e.bk.hm e.bk.ck op pins s σ H v u x y a b W st Q I vx vy S rx ry p
theorem negD_ok (e : Ev Λ T cd k fa ps X E) : UnR X (unaryOp .USub) (r1 Λ E (negD T cd)) := by
  intro pins s σ H x v Q I vx h
  obtain ⟨a, W, st, S, rx, p⟩ := h
  unfold negD at p
  split at p
  · cases rx
    exact un_neg pins s σ H _ v Q I vx ⟨_, rfl, KOk.here p S (.int _)⟩
  · unfold ownM at p
    split at p
    · rename_i c fs hc f hf
      have hc := e.bk.hm _ _ _ hf
      have ck := e.bk.ck _ hc
      obtain ⟨n, hn, hfi⟩ := ck.mth _ _ hf
      have hn2 : Λ.nm 20 = some n := hn
      rw [e.bk.n2.neg] at hn2
      cases hn2
      obtain ⟨m, F⟩ := I.fr
      have X0 : Λ.K.In X.base := e.hK ▸ I.mod.kin
      have call := e.kn.call e.hK e.g0 e.tk f pins s σ H [v] [x] [.obj c fs] W st Q I (.cons vx .nil) S (.cons rx .nil) p
      have fn1 := (e.kn.fn_ p).1
      cases rx with
      | obj ga _ =>
        obtain rfl := vx
        obtain ⟨od, J⟩ := inst_of I (S.sub _ _ ga)
        exact PySem.W.ksp_neg F X0 J hfi fn1 call
    · exact p.elim
  · exact p.elim
theorem truV_of (S : Sim Λ W st H) {x : V} {a : D} {b : Bool} (r : Rel Λ W x a) (h : truD st a = some b) : TruV Λ.K x H b := by
  have seq : ∀ {p : Addr} {xs : List V} {ds : List D}, (SqL Λ.K H p xs ∨ SqT Λ.K H p xs) → RelL Λ W xs ds → b = !ds.isEmpty → TruV Λ.K (.ref p) H b := by
    intro p xs ds hs rl hb
    have e1 : xs.isEmpty = ds.isEmpty := by cases rl <;> rfl
    rw [← e1] at hb
    rcases hs with hs | hs
    · exact .inl ⟨xs, hs, hb⟩
    · exact .inr (.inl ⟨xs, hs, hb⟩)
  cases r with
  | non => cases h; rfl
  | bl => cases h; rfl
  | int i =>
    cases h
    show decide (i ≠ 0) = (i != 0)
    by_cases q : i = 0 <;> simp [q]
  | str z =>
    obtain ⟨h1, h2⟩ := guardO_some h
    refine ⟨h1, ?_⟩
    rw [← h2]
    by_cases q : z.length = 0 <;> simp [q]
  | tup t l => cases h; exact seq (.inr (seqT_same S.sub t)) l rfl
  | lst t l => cases h; exact seq (.inl (rdL (S.sub _ _ t))) l rfl
  | scr t l => cases h; exact seq (.inl (S.sub.seq t)) l rfl
  | obj => cases h
  | mref n ha =>
    simp only [truD] at h
    split at h
    · rename_i z
      cases h
      obtain ⟨a, vs, e1, _, e3, r⟩ := S.cell _ _ z
      rw [ha] at e1
      cases e1
      exact seq (.inl (rdL e3)) r rfl
    · cases h

theorem tstD_ok (e : Ev Λ T cd k fa ps X E) : TruR X (r1b Λ E (tstD T cd)) := by
  intro pins s σ H x v Q I vx h
  obtain ⟨a, W, st, S, rx, p⟩ := h
  unfold tstD at p
  split at p
  · split at p
    · rename_i c fs _ f hf
      have hc := e.bk.hm _ _ _ hf
      have ck := e.bk.ck _ hc
      obtain ⟨n, hn, hfi⟩ := ck.mth _ _ hf
      have hn2 : Λ.nm 22 = some n := hn
      rw [e.bk.n2.bool] at hn2
      cases hn2
      obtain ⟨m, F⟩ := I.fr
      have X0 : Λ.K.In X.base := e.hK ▸ I.mod.kin
      have p2 : Post Λ (Rel Λ) W (cd f [.obj c fs] st) (fun v H' => ∃ b, v = .bl b ∧ Q b H') E := by
        refine p.bind fun W1 a st1 v H1 le S1 r1 q => ?_
        cases a <;> first | exact q.elim | skip
        cases r1
        exact ⟨_, rfl, q.here S1 rfl⟩
      have call := e.kn.call e.hK e.g0 e.tk f pins s σ H [v] [x] [.obj c fs] W st _ I (.cons vx .nil) S (.cons rx .nil) p2
      have fn1 := (e.kn.fn_ p2).1
      cases rx with
      | obj ga _ =>
        obtain rfl := vx
        obtain ⟨od, J⟩ := inst_of I (S.sub _ _ ga)
        refine PySem.W.truthy_K F X0 J hfi fn1 (wpAny_mono call (fun w s' h => ?_) fun _ _ z => z)
        obtain ⟨z, H', I', r, b, rfl, q⟩ := h
        obtain rfl := r
        exact ⟨H', I', q⟩
    · exact p.elim
  · obtain ⟨b, h1, q⟩ := p.opt
    refine tru_ok pins s σ H x v Q I vx ⟨b, ?_, q.here S rfl⟩
    rw [e.hK]
    exact truV_of S rx h1

/-! ### items, slices -/
theorem RelL.atI {vs : List V} {ds : List D} {i : Int} {d : D} (r : RelL Λ W vs ds) (h : Mir.atI ds i = some d) : ∃ v, L2.atI vs i = some v ∧ Rel Λ W v d := by
  unfold Mir.atI at h
  unfold L2.atI
  rw [r.len]
  obtain ⟨j, h1, h2⟩ := Option.bind_eq_some_iff.mp h
  obtain ⟨v, h3, h4⟩ := r.get h2
  exact ⟨v, by rw [show L2.ixN ds.length i = some j from h1]; exact h3, h4⟩
theorem idxD_ok (e : Ev Λ T cd k fa ps X E) : IxR X (r2 Λ E fun a b st => opt (idxD st a b) st) := by
  intro value slice pins s σ H x y v u Q I vx vy h pl
  obtain ⟨a, b, W, st, S, rx, ry, p⟩ := h
  obtain ⟨d, h1, q⟩ := p.opt
  refine ix_seq value slice pins s σ H x y v u Q I vx vy ?_ pl
  unfold idxD at h1
  split at h1
  · cases rx
    cases ry
    obtain ⟨_, g1, g2⟩ := Option.bind_eq_some_iff.mp h1
    obtain ⟨c, g3, rfl⟩ := Option.map_eq_some_iff.mp g2
    exact .inr (.inr ⟨_, _, c, rfl, rfl, (guardO_some g1).1, g3, q.here S (.str _)⟩)
  · cases ry
    obtain ⟨ds, g1, g2⟩ := Option.bind_eq_some_iff.mp h1
    obtain ⟨pp, xs, rfl, hs, rl⟩ := items_seq S rx g1
    obtain ⟨z, g3, rz⟩ := rl.atI g2
    rw [← e.hK] at hs
    rcases hs with hs | hs
    · exact .inl ⟨_, xs, _, z, rfl, rfl, hs, g3, q.here S rz⟩
    · exact .inr (.inl ⟨_, xs, _, z, rfl, rfl, hs, g3, q.here S rz⟩)
  · cases h1
theorem RelL.cutI {vs : List V} {ds : List D} (lo hi : Option Int) (r : RelL Λ W vs ds) : RelL Λ W (cutV vs lo hi) (Mir.cut ds lo hi) := by
  unfold cutV Mir.cut
  rw [r.len]
  exact (r.drop _).take _
theorem cutV_all {vs : List V} {lo hi : Option Int} (h : HT.sIx vs.length 0 lo = 0 ∧ HT.sIx vs.length vs.length hi = vs.length) : cutV vs lo hi = vs := by
  unfold cutV
  rw [h.1, h.2, List.drop_zero, Nat.sub_zero, List.take_length]
theorem SlR.alt {r r' : V → Option Int → Option Int → Hp → VK → Prop} (h : SlR X r) (w : ∀ x lo hi H Q, r' x lo hi H Q → r x lo hi H Q) : SlR X r' :=
  fun pins s σ H x v vl vu lo hi sl Q I a b c d f => h pins s σ H x v vl vu lo hi sl Q I a b c d (w x lo hi H Q f)
theorem slcD_ok (e : Ev Λ T cd k fa ps X E) : SlR X (rS Λ E fun a lo hi st => opt (slcD st a lo hi) st) := by
  refine SlR.alt (SlR.or sl_str (SlR.or sl_list sl_tupA)) fun x lo hi H Q h => ?_
  obtain ⟨a, W, st, S, rx, p⟩ := h
  obtain ⟨d, h1, q⟩ := p.opt
  have lst : ∀ {pp : Addr} {xs : List V} {ds : List D}, SqL Λ.K H pp xs → RelL Λ W xs ds → d = .lst (Mir.cut ds lo hi) → rSlL X.K (.ref pp) lo hi H Q := by
    intro pp xs ds hs rl hd
    subst hd
    rw [e.hK]
    exact ⟨_, xs, rfl, hs, KOk.newLst q S (rl.cutI lo hi)⟩
  cases rx with
  | non => cases h1
  | bl => cases h1
  | int => cases h1
  | obj => cases h1
  | str z =>
    obtain ⟨g1, rfl⟩ := guardO_some h1
    exact .inl ⟨z, rfl, g1, q.here S (.str _)⟩
  | tup t l =>
    cases h1
    refine .inr (.inr ⟨_, _, rfl, ?_, fun c => ?_, fun c => KOk.newTup q S (l.cutI lo hi)⟩)
    · rw [e.hK]
      exact seqT_same S.sub t
    · have z := l.cutI lo hi
      rw [cutV_all c] at z
      exact q.here S (.tup t z)
  | lst t l =>
    cases h1
    exact .inr (.inl (lst (rdL (S.sub _ _ t)) l rfl))
  | scr t l =>
    cases h1
    exact .inr (.inl (lst (S.sub.seq t) l rfl))
  | mref n ha =>
    simp only [slcD] at h1
    split at h1
    · rename_i z
      cases h1
      obtain ⟨a, vs, e1, _, e3, r⟩ := S.cell _ _ z
      rw [ha] at e1
      cases e1
      exact .inr (.inl (lst (rdL e3) r rfl))
    · cases h1
end
end Mir

set_option Elab.async false
set_option linter.all false
set_option maxRecDepth 100000
/-! Mir4: attributes, things that are made, built-in functions, methods. -/
namespace Mir
open PySem L2
section
variable {Λ : Lk} {T : Tab} {cd : Cd} {k : Nat} {fa : Nat → Addr} {ps : Nat → List Str} {X : Cx} {E : XK} {W : Wd} {st : Sto} {H : Hp} {Q : VK}

theorem Post.ofCalm {α β : Type} {rel : Wd → β → α → Prop} {r : R α} {Q : β → Hp → Prop} {E' : XK} (p : Post Λ rel W r.calm Q E) : Post Λ rel W r Q E' := by
  cases r with
  | ok a st => exact p
  | ex c fs st => exact p.elim
  | no => exact p.elim

/-- a property is read -/
theorem vals_get {vs : List V} {us : List Value} {j : Nat} {v : V} {u : Value} (r : Vals vs us) (h : vs[j]? = some v) (h2 : us[j]? = some u) : RelV v u := by
  induction r generalizing j with
  | nil => simp at h
  | cons a b ih =>
    cases j with
    | zero =>
      simp at h h2
      subst h h2
      exact a
    | succ j => exact ih (by simpa using h) (by simpa using h2)
theorem prop_ok {C p g a dx : Addr} {fs : List (Str × V)} {f : Str} {pins : List (Addr × Obj)} {σ : L2.St} {s : Shared} {b : Bool} {E' : Value → Shared → Prop} (I : Inv X pins σ H s) (ea : H a = some (.ins C dx fs))
    (c : Cls X.K C) (hp : PropOf X.K C f p g)
    (call : codeAny (model X.prog X.w) X.A.in1 (.call (.ref g) ⟨[.ref a], []⟩) (fun r s' => match r with
      | .ok (.ret u) => EP X pins σ Q u s'
      | .ok _ => False
      | .error _ => False) { s with toks := s.toks + 1 }) : wpAny (model X.prog X.w) X.A (getAttr (.ref a) f b) (EP X pins σ Q) E' s := by
  obtain ⟨mA, O, _⟩ := ins_get I.hok ea
  obtain ⟨od, J, _⟩ := O.look
  obtain ⟨rest, hrec⟩ := hp.rec_
  have hc : (PySem.W.clsIn X.K C).isSome = true := by
    obtain ⟨cd, h, _⟩ := PySem.W.any_some c.hd
    rw [h]
    rfl
  refine PySem.W.get_bind I.kIn J (PySem.W.plainGet_of (c.get f)).1 (PySem.W.findObj_data hc hp.at_ hp.get hp.tak) (PySem.W.plainGet_of (c.get f)).2 (wpAny_call (PySem.W.prop_get I.kIn hrec (codeAny_mono call fun r s' hq => ?_)))
  cases r with
  | error e => exact hq.elim
  | ok fl =>
    cases fl with
    | ret u =>
      obtain ⟨v, H', I3, rv, q⟩ := id hq
      show wpAny _ _ (handedOut u) _ _ _
      rw [PySem.W.handedOut_of (handed_of rv)]
      exact wpAny_pure hq
    | next => exact hq.elim
    | brk => exact hq.elim
    | cont => exact hq.elim
theorem fld_ok (e : Ev Λ T cd k fa ps X E) {f c : Nat} {x : Str} (hx : Λ.nm f = some x) (hf : T.fld c f = true) {pins : List (Addr × Obj)} {σ : L2.St} {s : Shared} {b : Bool} {a dx : Addr} {vs : List (Str × V)} {fs : List (Nat × D)} {d : D}
    (I : Inv X pins σ H s) (S : Sim Λ W st H) (ha : H a = some (.ins (Λ.ca c) dx vs)) (r : RelF Λ W vs fs) (hl : fs.lookup f = some d) (q : KOk Λ (Rel Λ) W d st Q) : wpAny (model X.prog X.w) X.A (getAttr (.ref a) x b) (EP X pins σ Q) X.xe s := by
  have ck := e.bk.ck _ (e.bk.fl _ _ hf)
  obtain ⟨v, h1, h2⟩ := r.find hx hl
  refine getattr_ok (C := Λ.ca c) I ha (e.hK ▸ ck.cls) ?_ h1 (fun u s' I' rv => ⟨v, H, I', rv, q.here S h2⟩)
  rw [e.hK]
  exact ck.noat f x hx hf
theorem attrD_ok (e : Ev Λ T cd k fa ps X E) {f : Nat} {x : Str} (hx : Λ.nm f = some x) {pins : List (Addr × Obj)} {σ : L2.St} {s : Shared} {b : Bool} {v : V} {u : Value} (I : Inv X pins σ H s) (vr : RelV v u)
    (h : r1 Λ E (fun a st => attrD T cd a f st) v H Q) : wpAny (model X.prog X.w) X.A (getAttr u x b) (EP X pins σ Q) X.xe s := by
  obtain ⟨a, W, st, S, rx, p⟩ := h
  replace p : Post Λ (Rel Λ) W (attrD T cd a f st) Q E := p
  unfold attrD at p
  split at p
  · rename_i c fs
    cases rx with
    | obj ga rf =>
      rename_i a dx vs
      obtain rfl := vr
      split at p
      · rename_i g hg
        have ck := e.bk.ck _ (e.bk.pr _ _ _ hg)
        obtain ⟨x', pp, h1, h2⟩ := ck.prop _ _ hg
        rw [hx] at h1
        cases h1
        have p2 : Post Λ (Rel Λ) W (cd g [.obj c fs] st) Q (fun _ _ _ => False) := p.ofCalm
        obtain ⟨fn, hfn, ar⟩ := e.kn.arity p2
        obtain ⟨hn, fd, F, hb, _, _, _⟩ := e.kn.fns g fn hfn
        have I1 := I.tok (s.toks + 1)
        have hl : [V.ref a].length = (ps g).length := by rw [hn, ← ar]; rfl
        rw [← e.hK] at F
        have P : PropOf X.K (Λ.ca c) x pp (fa g) := by rw [e.hK]; exact h2
        refine prop_ok (C := Λ.ca c) I (S.sub _ _ ga) (e.hK ▸ ck.cls) P ?_
        exact run_fnG (wx := fun _ _ _ _ => False) (E' := fun _ _ => False) F e.g1.in1 (fun s H I => I.env0.in1) (fun e s' c => by
            obtain ⟨_, _, _, _, _, _, _, _, _, _, _, _, z⟩ := c
            exact z) I1 (hb _ [Value.ref a] (e.hK ▸ I1.kIn) hl) hl (.cons rfl .nil) ⟨W, st, _, S, .cons (.obj ga rf) .nil, p2⟩
      · split at p
        · rename_i hf
          obtain ⟨d, h1, q⟩ := p.opt
          exact fld_ok e hx hf I S (S.sub _ _ ga) rf h1 q
        · exact p.elim
  · rename_i n
    split at p
    · rename_i c fs hc
      cases rx with
      | mref hn ha =>
        obtain rfl := vr
        obtain ⟨a2, dx, vs, e1, _, e3, r⟩ := S.cell _ _ hc
        rw [ha] at e1
        cases e1
        split at p
        · exact p.elim
        · split at p
          · rename_i hf
            obtain ⟨d, h1, q⟩ := p.opt
            exact fld_ok e hx hf I S e3 r h1 q
          · exact p.elim
    · exact p.elim
  · exact p.elim

/-! ### calls by shape -/
theorem bound {us : List Value} {vs : List V} {ds : List D} (S : Sim Λ W st H) (vr : Vals vs us) (rl : RelL Λ W vs ds) : ∀ {bd : List (Nat ⊕ D)} {bs : List Value} {l : List D}, BdV Λ us bd bs → bindD ds bd = some l → ∃ vs', Vals vs' bs ∧ RelL Λ W vs' l
  | _, _, _, .nil, h => by
    cases h
    exact ⟨[], .nil, .nil⟩
  | _, _, _, .arg (j := j) (bd := bd) e b, h => by
    simp only [bindD] at h
    split at h
    · rename_i d l h1 h2
      cases h
      obtain ⟨vs', v1, v2⟩ := bound S vr rl b h2
      obtain ⟨v, h3, h4⟩ := rl.get h1
      exact ⟨v :: vs', .cons (vals_get vr h3 e) v1, .cons h4 v2⟩
    · cases h
  | _, _, _, .dflt r w b, h => by
    simp only [bindD] at h
    obtain ⟨l, h1, rfl⟩ := Option.map_eq_some_iff.mp h
    obtain ⟨vs', v1, v2⟩ := bound S vr rl b h1
    exact ⟨_ :: vs', .cons r v1, .cons (w W st H S) v2⟩
theorem BdV.length {us : List Value} : ∀ {bd : List (Nat ⊕ D)} {bs : List Value}, BdV Λ us bd bs → bs.length = bd.length
  | _, _, .nil => rfl
  | _, _, .arg _ b => congrArg Nat.succ (BdV.length b)
  | _, _, .dflt _ _ b => congrArg Nat.succ (BdV.length b)
/-- a def is called, some by name, in a place near a body -/
theorem callAt (e : Ev Λ T cd k fa ps X E) {A' : Around} (hg : Good k A') {pins : List (Addr × Obj)} {σ : L2.St} (e0 : ∀ s H, Inv X pins σ H s → Env0 X.prog X.w X.K X.mg X.base A' X.stack s H) {f i : Nat} {s : Shared} {us ws : List Value} {vs zs : List V} {ds : List D}
    (I : Inv X pins σ H s) (vr : Vals vs us) (wr : Vals zs ws) (hp : us.length = (Λ.sh i).1) (hk : ws.length = (Λ.sh i).2.length) (S : Sim Λ W st H) (rl : RelL Λ W (vs ++ zs) ds) (p : Post Λ (Rel Λ) W (callD T cd f ds i st) Q E) :
    codeAny (model X.prog X.w) A' (.call (.ref (fa f)) ⟨us, (Λ.sh i).2.zip ws⟩) (fun r s' => match r with
      | .ok (.ret u) => EP X pins σ Q u s'
      | .ok _ => False
      | .error e => X.xe e s') s := by
  unfold callD at p
  split at p
  · rename_i bd hbd
    split at p
    · rename_i l hl
      obtain ⟨fn, hfn, ar⟩ := e.kn.arity p
      obtain ⟨hn, fd, F, _, _, _, hsh⟩ := e.kn.fns f fn hfn
      obtain ⟨hlen, hbnd⟩ := hsh i bd hbd
      have kI : Λ.K.In s.heap := Inv.kL I e.hK
      obtain ⟨bs, hb, bv⟩ := hbnd s us ws kI hp hk
      obtain ⟨vs', v1, v2⟩ := bound S (vr.append wr) rl bv hl
      have hl2 : vs'.length = (ps f).length := by rw [v2.len, ar, hn]
      rw [← e.hK] at F
      exact run_fnG (wx := fun cls d _ H => E cls d H) F hg e0 (takes_cx e.tk I) I hb hl2 v1 ⟨W, st, l, S, v2, p⟩
    · exact p.elim
  · exact p.elim

/-! ### a thing is made -/
theorem Sim.keep {x : Addr} {o : HO} (S : Sim Λ W st H) (hx : H x = some o) (hg : W.G x = none) (hr : ∀ m, m < W.L → W.r m ≠ some x) (hF : W.F x = none) : Sim Λ (W.add x o) st H := by
  refine ⟨S.len, fun b u e => ?_, fun n c hc => ?_, S.inj, S.frm, fun a u z => ⟨?_, (S.fdis a u z).2⟩⟩
  rotate_left
  rotate_left
  · show upd W.G x o a = none
    rw [upd_ne (ne_of_none z hF)]
    exact (S.fdis a u z).1
  · by_cases hb : b = x
    · subst hb
      have e2 : some o = some u := Wd.add_at.symm.trans e
      rw [hx]
      exact e2
    · have e2 : upd W.G x o b = some u := e
      rw [upd_ne hb] at e2
      exact S.sub b u e2
  · refine (S.cell n c hc).mono (Wd.add_le hg) (S.lt hc) (fun a e1 e2 => ?_) (fun a o _ z => z)
    show upd W.G x o a = none
    rw [upd_ne (fun q : a = x => hr n (S.lt hc) (by rw [← q]; exact e1))]
    exact e2
/-- a thing of the store is told whole from now on -/
theorem freeze {W0 : Wd} {st0 : Sto} {H0 : Hp} {c : Nat} {fs : List (Nat × D)} (S0 : Sim Λ W0 st0 H0) (le : W0.Le W) (S : Sim Λ W st H) (hl : st0.length < st.length) (kp : Kp st0 st) (hc : st[st0.length]? = some (.ins c fs)) (hb : belF st0.length fs = true) {x : Addr} (hx : W.r st0.length = some x) :
    ∃ W', W0.Le W' ∧ Sim Λ W' (st.take st0.length) H ∧ Rel Λ W' (.ref x) (.obj c fs) := by
  obtain ⟨a, dx, vs, e1, e2, e3, r⟩ := S.cell _ _ hc
  rw [hx] at e1
  cases e1
  have Sc := S0.cut S (Nat.le_of_lt hl) kp
  have hg : (W.cutAt st0.length).G x = none := e2
  have hr : ∀ m, m < (W.cutAt st0.length).L → (W.cutAt st0.length).r m ≠ some x := fun m hm q => by
    have h1 : m < st0.length := hm
    have := S.inj m st0.length x (by rw [S.len]; omega) (by rw [S.len]; omega) q hx
    omega
  have hF : (W.cutAt st0.length).F x = none := by
    cases hq : W.F x with
    | none => exact hq
    | some o => exact absurd hx ((S.fdis x o hq).2 _ (by rw [S.len]; exact hl))
  refine ⟨(W.cutAt st0.length).add x _, (Wd.le_cut le (by rw [S0.len]; omega)).trans (Wd.add_le hg), Sc.keep e3 hg hr hF, ?_⟩
  exact .obj Wd.add_at ((r.cut hb).mono (Wd.add_le hg))
theorem Good.make (h : Good (k + 1) X.A) (C : Addr) (us : List Value) (kw : List (Str × Value)) : Good k (X.A.under (.builtin "type.__call__" ⟨.ref C :: us, kw⟩)) := ⟨h.room.make C us kw, h.gd⟩
theorem makeD_ok (e : Ev Λ T cd k fa ps X E) {c i : Nat} (hc : T.has c = true) {pins : List (Addr × Obj)} {σ : L2.St} {s : Shared} {us ws : List Value} {vs zs : List V} {ds : List D}
    (I : Inv X pins σ H s) (vr : Vals vs us) (wr : Vals zs ws) (hp : us.length + 1 = (Λ.sh i).1) (hk : ws.length = (Λ.sh i).2.length) (S : Sim Λ W st H) (rl : RelL Λ W (vs ++ zs) ds) (p : Post Λ (Rel Λ) W (makeD T cd c ds i st) Q E) :
    wpAny (model X.prog X.w) X.A (PySem.call (.ref (Λ.ca c)) us ((Λ.sh i).2.zip ws)) (EP X pins σ Q) X.xe s := by
  unfold makeD at p
  split at p
  · rename_i f hf
    have ck := e.bk.ck _ hc
    have M : Mk X.K (Λ.ca c) (fa f) := by rw [e.hK]; exact ck.init f hf
    have I2 := I.made (C := Λ.ca c)
    have f1 := I.hok.fresh (Nat.le_succ s.heap.objs.size)
    have f2 := I.hok.fresh (Nat.le_refl s.heap.objs.size)
    have hne : s.heap.objs.size ≠ s.heap.objs.size + 1 := Nat.ne_of_lt (Nat.lt_succ_self _)
    let H2 := upd (upd H s.heap.objs.size (.own (s.heap.objs.size + 1))) (s.heap.objs.size + 1) (.ins (Λ.ca c) s.heap.objs.size [])
    have sm : Same H H2 := fun b u z => by
      have n1 := ne_of_none z f1
      have n2 := ne_of_none z f2
      show upd (upd H _ _) _ _ b = some u
      rw [upd_ne n1, upd_ne n2]
      exact z
    have hG : W.G (s.heap.objs.size + 1) = none := S.sub.free f1
    have S2 : Sim Λ (W.push (s.heap.objs.size + 1)) (st ++ [.ins c []]) H2 :=
      S.push f1 sm ⟨_, s.heap.objs.size, [], Wd.push_at, hG, upd_same, .nil⟩
    have hL : W.L = st.length := S.len
    have p2 : Post Λ (Rel Λ) (W.push (s.heap.objs.size + 1)) (callD T cd f (.mref st.length :: ds) i (st ++ [.ins c []])) (fun v H' => v = .non ∧ Q (.ref (s.heap.objs.size + 1)) H') E := by
      cases hcd : callD T cd f (.mref st.length :: ds) i (st ++ [.ins c []]) with
      | no =>
        rw [hcd] at p
        exact p.elim
      | ex cc fs st1 =>
        rw [hcd] at p
        exact Post.mono (r := R.ex cc fs st1) Wd.push_le p
      | ok a st1 =>
        rw [hcd] at p
        intro W1 v H1 le S1 r1
        replace p : Post Λ (Rel Λ) W (madeD c st a st1) Q E := p
        unfold madeD at p
        split at p
        · rename_i e2 fs hq
          cases r1
          split at p
          · rename_i he
            subst he
            refine ⟨rfl, ?_⟩
            have hlt : st.length < st1.length := (List.getElem?_eq_some_iff.mp hq).1
            unfold trim at p
            rw [if_neg (by omega)] at p
            split at p
            · rename_i hh
              have hx : W1.r st.length = some (s.heap.objs.size + 1) := by
                rw [← hL]
                exact (le.r _ (Nat.lt_succ_self _)).trans Wd.push_at
              obtain ⟨W', l1, S', r'⟩ := freeze S (Wd.push_le.trans le) S1 hlt hh.2.2 hq hh.1 hx
              exact p W' _ _ l1 S' r'
            · exact p.elim
          · exact p.elim
        · exact p.elim
    have rl2 : RelL Λ (W.push (s.heap.objs.size + 1)) ((.ref (s.heap.objs.size + 1) :: vs) ++ zs) (.mref st.length :: ds) :=
      .cons (.mref (by show _ < W.L + 1; omega) (by rw [← hL]; exact Wd.push_at)) (rl.mono Wd.push_le)
    have r2 : Vals (.ref (s.heap.objs.size + 1) :: vs) (.ref (s.heap.objs.size + 1) :: us) := .cons rfl vr
    refine wpAny_call (make_map I.kIn M.makes M.init (beq_iff_eq.mp M.fn) (codeAny_mono (callAt e (e.g1.make _ us _) (fun s H I => I.env0.make _ us _) I2 r2 wr hp hk S2 rl2 p2) fun r s' hq => ?_))
    cases r with
    | error e => exact hq
    | ok fl =>
      cases fl with
      | next => exact hq
      | brk => exact hq
      | cont => exact hq
      | ret u =>
        obtain ⟨v, H', I3, rv, rfl, q⟩ := hq
        exact ⟨rv, .ref (s.heap.objs.size + 1), H', I3, rfl, q⟩
  · exact p.elim

/-! ### built-in functions -/
theorem inv_kept {pins : List (Addr × Obj)} {σ : L2.St} {s : Shared} {h' : Heap} (I : Inv X pins σ H s) (hk : ∀ b o, s.heap.get? b = some o → h'.get? b = some o) (t : Nat) : Inv X pins σ H { s with heap := h', toks := t } :=
  I.step (ch := []) (fun b hb => by cases hb) (fun b o _ _ _ e _ => hk b o e) (fun b o _ _ _ e _ => ⟨o.slots, hk b o e⟩) (fun b o _ _ h => h) (fun b o _ e => ⟨o, hk b o e⟩) (fun _ _ h => h) (fun _ _ _ h => h) (fun b ps e => ⟨#[], by simpa using e⟩) (fun m n => n.keeps hk) (I.hok.kept hk) I.bare
mutual
theorem noDict : ∀ (d : D), (toP d).hasDict = false
  | .non => by simp [toP, PyData.hasDict]
  | .bl b => by simp [toP, PyData.hasDict]
  | .int i => by simp [toP, PyData.hasDict]
  | .str s => by simp [toP, PyData.hasDict]
  | .tup ds => by simp only [toP, PyData.hasDict, noDicts ds]
  | .lst ds => by simp only [toP, PyData.hasDict, noDicts ds]
  | .scr ds => by simp [toP, PyData.hasDict]
  | .obj c fs => by simp [toP, PyData.hasDict]
  | .mref m => by simp [toP, PyData.hasDict]
theorem noDicts : ∀ (ds : List D), PyData.hasDictAll (toPs ds) = false
  | [] => by simp [toPs, PyData.hasDictAll]
  | d :: ds => by simp only [toPs, PyData.hasDictAll, noDict d, noDicts ds, Bool.or_self]
end
def biF : Bi → Value
  | .len => .builtin "len"
  | .abs => .builtin "abs"
  | .max => .builtin "max"
  | .min => .builtin "min"
  | .int => .type "int"
  | .str => .type "str"
  | .bool => .type "bool"
  | .repr => .builtin "repr"
  | .divmod => .builtin "divmod"
  | .tuple => .type "tuple"
  | .list => .type "list"
  | .sum => .builtin "sum"
  | .any => .builtin "any"
  | .all => .builtin "all"
  | .sorted => .builtin "sorted"
theorem relL1 {xs : List V} {d : D} (r : RelL Λ W xs [d]) : ∃ x, xs = [x] ∧ Rel Λ W x d := by
  cases r with
  | cons a b =>
    cases b
    exact ⟨_, rfl, a⟩
theorem relL2 {xs : List V} {d e : D} (r : RelL Λ W xs [d, e]) : ∃ x y, xs = [x, y] ∧ Rel Λ W x d ∧ Rel Λ W y e := by
  cases r with
  | cons a b =>
    obtain ⟨y, rfl, ry⟩ := relL1 b
    exact ⟨_, y, rfl, a, ry⟩
theorem repr_ok (e : Ev Λ T cd k fa ps X E) {pins : List (Addr × Obj)} {s : Shared} {σ : L2.St} {a : Addr} {d : D} (I : Inv X pins σ H s) (S : Sim Λ W st H) (r : Rel Λ W (.ref a) d)
    (h : pl 60 d = true ∧ (toP d).showable = true ∧ (toP d).shown.length ≤ sz) (q : Q (.str (toP d).shown) H) : wpAny (model X.prog X.w) X.A (call (.builtin "repr") [.ref a]) (EP X pins σ Q) X.xe s := by
  have dp := dp_of S r h.1
  rw [← e.hK] at dp
  obtain ⟨as, rd⟩ := Dp.reads I (toP d) (.ref a) (.ref a) dp rfl
  have hd := (lay_of d 60 h.1).2
  have hu := e.u64
  have hr := e.hg.room.un
  exact repr_of_reads' (h₀ := s.heap) rd h.2.1 (fun z => by rw [noDict] at z; cases z) e.hg.gd (by omega) (fun _ _ z => z) (fun h' u tk hk => ⟨.str (toP d).shown, H, inv_kept I hk tk, ⟨u, rfl⟩, q⟩) h.2.2
theorem intsOf_map : ∀ {vs : List V} {ds : List D} {ns : List Int}, RelL Λ W vs ds → intsOf ds = some ns → vs = ns.map V.int
  | _, _, _, .nil, h => by
    cases h
    rfl
  | _, _, _, .cons (d := d) a b, h => by
    cases d <;> first | (cases h; done) | skip
    obtain ⟨m, h1, rfl⟩ := Option.map_eq_some_iff.mp h
    cases a
    rw [intsOf_map b h1]
    rfl
theorem bls_map : ∀ {vs : List V} {ds : List D} {ns : List Bool}, RelL Λ W vs ds → bls ds = some ns → vs = ns.map V.bl
  | _, _, _, .nil, h => by
    cases h
    rfl
  | _, _, _, .cons (d := d) a b, h => by
    cases d <;> first | (cases h; done) | skip
    obtain ⟨m, h1, rfl⟩ := Option.map_eq_some_iff.mp h
    cases a
    rw [bls_map b h1]
    rfl
theorem biD_ok (e : Ev Λ T cd k fa ps X E) (b : Bi) {pins : List (Addr × Obj)} {s : Shared} {σ : L2.St} {xs : List V} {us : List Value} {ds : List D} {d : D} (I : Inv X pins σ H s) (vr : Vals xs us) (S : Sim Λ W st H) (rl : RelL Λ W xs ds)
    (h : biD st b ds = some d) (q : KOk Λ (Rel Λ) W d st Q) : wpAny (model X.prog X.w) X.A (call (biF b) us) (EP X pins σ Q) X.xe s := by
  unfold biD at h
  split at h
  · obtain ⟨x, rfl, rx⟩ := relL1 rl
    obtain ⟨g, rfl⟩ := guardO_some h
    cases rx
    exact call_len pins s σ H _ us Q I vr ⟨_, _, rfl, ⟨g, rfl⟩, q.here S (.int _)⟩
  · obtain ⟨x, rfl, rx⟩ := relL1 rl
    obtain ⟨ys, g, rfl⟩ := Option.map_eq_some_iff.mp h
    obtain ⟨p, zs, rfl, hs, rz⟩ := items_seq S rx g
    rw [← e.hK] at hs
    refine call_len pins s σ H _ us Q I vr ⟨_, ys.length, rfl, ?_, q.here S (.int _)⟩
    rw [← rz.len]
    rcases hs with hs | hs
    · exact .inl ⟨zs, hs, rfl⟩
    · exact .inr ⟨zs, hs, rfl⟩
  · obtain ⟨x, rfl, rx⟩ := relL1 rl
    cases rx
    cases h
    exact call_abs pins s σ H _ us Q I vr ⟨_, rfl, q.here S (.int _)⟩
  · obtain ⟨x, y, rfl, rx, ry⟩ := relL2 rl
    cases rx
    cases ry
    cases h
    exact call_max2 e.calm pins s σ H _ us Q I vr ⟨_, _, rfl, q.here S (.int _)⟩
  · obtain ⟨x, y, rfl, rx, ry⟩ := relL2 rl
    cases rx
    cases ry
    cases h
    exact call_min2 e.calm pins s σ H _ us Q I vr ⟨_, _, rfl, q.here S (.int _)⟩
  · obtain ⟨x, rfl, rx⟩ := relL1 rl
    cases rx
    cases h
    exact call_int1 pins s σ H _ us Q I vr (.inl ⟨_, rfl, q.here S (.int _)⟩)
  · obtain ⟨x, rfl, rx⟩ := relL1 rl
    cases rx
    cases h
    exact call_int1 pins s σ H _ us Q I vr (.inr ⟨_, rfl, q.here S (.int _)⟩)
  · obtain ⟨x, rfl, rx⟩ := relL1 rl
    cases rx
    obtain ⟨_, g1, g2⟩ := Option.bind_eq_some_iff.mp h
    obtain ⟨n, g3, rfl⟩ := Option.map_eq_some_iff.mp g2
    exact call_int_str pins s σ H _ us Q I vr ⟨_, n, rfl, g3, (guardO_some g1).1, q.here S (.int _)⟩
  · obtain ⟨x, rfl, rx⟩ := relL1 rl
    cases rx
    obtain ⟨g, rfl⟩ := guardO_some h
    exact call_str_int pins s σ H _ us Q I vr ⟨_, rfl, g, q.here S (.str _)⟩
  · obtain ⟨x, rfl, rx⟩ := relL1 rl
    cases rx
    cases h
    exact SkE.call_str_str pins s σ H _ us Q I vr ⟨_, rfl, q.here S (.str _)⟩
  · obtain ⟨x, rfl, rx⟩ := relL1 rl
    cases rx
    cases h
    rename_i i
    refine call_bool1 pins s σ H _ us Q I vr (.inl ⟨i, rfl, ?_⟩)
    have : (i != 0) = decide (i ≠ 0) := by by_cases z : i = 0 <;> simp [z]
    rw [this]
    exact q.here S (.bl _)
  · obtain ⟨x, rfl, rx⟩ := relL1 rl
    cases rx
    cases h
    exact call_bool1 pins s σ H _ us Q I vr (.inr ⟨_, rfl, q.here S (.bl _)⟩)
  · obtain ⟨x, rfl, rx⟩ := relL1 rl
    cases rx
    obtain ⟨g, rfl⟩ := guardO_some h
    exact SkE.call_repr_int pins s σ H _ us Q I vr ⟨_, rfl, g, q.here S (.str _)⟩
  · obtain ⟨x, rfl, rx⟩ := relL1 rl
    cases vr with
    | cons v1 v2 =>
      cases v2
      unfold reprD at h
      split at h
      · obtain ⟨g, rfl⟩ := guardO_some h
        cases rx with
        | tup t l =>
          obtain rfl := v1
          exact repr_ok e I S (.tup t l) g (q.here S (.str _))
      · obtain ⟨g, rfl⟩ := guardO_some h
        cases rx with
        | lst t l =>
          obtain rfl := v1
          exact repr_ok e I S (.lst t l) g (q.here S (.str _))
      · cases h
  · obtain ⟨x, y, rfl, rx, ry⟩ := relL2 rl
    cases rx
    cases ry
    obtain ⟨g, rfl⟩ := guardO_some h
    have c2 : (_ : Int).natAbs.log2 < 9000 := of_decide_eq_true g.2
    refine call_divmodW pins s σ H _ us Q I vr ⟨_, _, rfl, ⟨g.1, ?_⟩, KOk.newTup q S (.cons (.int _) (.cons (.int _) .nil))⟩
    exact PyProof.noPylong_of_log2 c2
  · obtain ⟨x, rfl, rx⟩ := relL1 rl
    obtain ⟨ys, g, rfl⟩ := Option.map_eq_some_iff.mp h
    cases rx with
    | mref hn ha =>
      simp only [items] at g
      split at g
      · rename_i z
        cases g
        obtain ⟨a, vs, e1, _, e3, r⟩ := S.cell _ _ z
        rw [ha] at e1
        cases e1
        exact call_tuple_of pins s σ H _ us Q I vr ⟨_, vs, rfl, .inl ⟨rdL e3, KOk.newTup q S r⟩⟩
      · cases g
  · obtain ⟨x, rfl, rx⟩ := relL1 rl
    cases h
    cases rx with
    | lst t l => exact call_tuple_of pins s σ H _ us Q I vr ⟨_, _, rfl, .inl ⟨rdL (S.sub _ _ t), KOk.newTup q S l⟩⟩
  · obtain ⟨x, rfl, rx⟩ := relL1 rl
    cases h
    cases rx with
    | tup t l =>
      have t2 := seqT_same S.sub t
      rw [← e.hK] at t2
      exact call_tuple_of pins s σ H _ us Q I vr ⟨_, _, rfl, .inr ⟨t2, q.here S (.tup t l)⟩⟩
  · obtain ⟨x, rfl, rx⟩ := relL1 rl
    obtain ⟨ys, g, rfl⟩ := Option.map_eq_some_iff.mp h
    obtain ⟨p, zs, rfl, hs, rz⟩ := items_seq S rx g
    rw [← e.hK] at hs
    exact call_list_of pins s σ H _ us Q I vr ⟨p, zs, rfl, hs, KOk.newLst q S rz⟩
  · obtain ⟨x, rfl, rx⟩ := relL1 rl
    obtain ⟨ns, g, rfl⟩ := Option.map_eq_some_iff.mp h
    cases rx with
    | lst t l =>
      have hs := intsOf_map l g
      subst hs
      exact cr_sum e.calm pins s σ H _ us Q I vr ⟨_, ns, rfl, rdL (S.sub _ _ t), q.here S (.int _)⟩
  · obtain ⟨x, rfl, rx⟩ := relL1 rl
    obtain ⟨ns, g, rfl⟩ := Option.map_eq_some_iff.mp h
    cases rx with
    | lst t l =>
      have hs := bls_map l g
      subst hs
      exact cr_any e.calm pins s σ H _ us Q I vr ⟨_, ns, rfl, rdL (S.sub _ _ t), q.here S (.bl _)⟩
  · obtain ⟨x, rfl, rx⟩ := relL1 rl
    obtain ⟨ns, g, rfl⟩ := Option.map_eq_some_iff.mp h
    cases rx with
    | lst t l =>
      have hs := bls_map l g
      subst hs
      exact cr_all e.calm pins s σ H _ us Q I vr ⟨_, ns, rfl, rdL (S.sub _ _ t), q.here S (.bl _)⟩
  · cases h
theorem bool_own {prog : Program} {w : World} {A : Around} {E : Value → Shared → Prop} {s : Shared} {x : Addr} {Q : Value → Shared → Prop}
    (h : wpAny (model prog w) A.in1.in1 (truthy (.ref x)) (fun b s' => Q (.bool b) s') E s) : wpAny (model prog w) A (call (.type "bool") [.ref x]) Q E s := by
  refine callType_codes (Q₁ := fun r s1 => ∃ b, r = .bool b ∧ Q r s1) F.called_bool (F.typeCall_bool_1 (.ref x)) F.entry_object_init ?_ ?_
  · refine codeAny_call_builtin (by decide +kernel) F.entry_bool_new (wpAny_of_eq (F.newCall_bool_1 (.ref x)) ?_)
    have f1 := F.conv_sub_bool
    unfold Builtin.«bool.__new__»
    repeat (first
      | (refine wpAny_bind (m := truthy (.ref x)) (wpAny_mono h (fun b s' hb => ?_) fun _ _ e => e))
      | (refine wpAny_of_eq f1 ?_)
      | wp_step)
    exact ⟨_, rfl, hb⟩
  · intro obj s1 a
    obtain ⟨b, rfl, hq⟩ := a
    exact ⟨typeIs_bool s1 b, F.args_object_init_2 _ _, object_init_meets (F.called_bool.init).lookup F.called_bool.made (by decide) prog w A.in1 (wants (fun r s2 => r = .none ∧ Q (.bool b) s2) E) s1 ⟨typeIs_bool s1 b, rfl, hq⟩⟩
theorem Kn.call2 (kn : Kn Λ T cd k fa ps X.prog X.w X.mg X.base) (hK : X.K = Λ.K) (hg : Good (k + 2) X.A) (tk : Takes X (fun cls d _ H => E cls d H)) (f : Nat) {pins : List (Addr × Obj)} {s : Shared} {σ : L2.St} {us : List Value} {vs : List V} {ds : List D}
    (I : Inv X pins σ H s) (r : Vals vs us) (S : Sim Λ W st H) (rl : RelL Λ W vs ds) (p : Post Λ (Rel Λ) W (cd f ds st) Q E) : wpAny (model X.prog X.w) X.A.in1.in1 (PySem.call (.ref (fa f)) us) (EP X pins σ Q) X.xe s := by
  obtain ⟨fn, hf, ha⟩ := kn.arity p
  obtain ⟨hn, fd, F, hb, _, _, _⟩ := kn.fns f fn hf
  have hl : vs.length = (ps f).length := by rw [rl.len, ha, hn]
  rw [← hK] at F
  exact codeAny_goal (run_fnG (wx := fun cls d _ H => E cls d H) F hg.in1.in1 (fun s H I => I.env0.in1.in1) (takes_cx tk I) I (hb s us (hK ▸ I.kIn) (r.length ▸ hl)) hl r ⟨W, st, ds, S, rl, p⟩)
theorem biV_ok (e : Ev Λ T cd k fa ps X E) (b : Bi) : CallR X (biF b) (rL Λ E (biV T cd b)) := by
  intro pins s σ H xs us Q I vr h
  obtain ⟨ds, W, st, S, rl, p⟩ := h
  replace p : Post Λ (Rel Λ) W (biV T cd b ds st) Q E := p
  unfold biV at p
  split at p
  · rename_i c fs
    unfold tstD at p
    replace p : Post Λ (Rel Λ) W ((match T.mth c dBool with
      | some f => (cd f [.obj c fs] st).bind fun r st1 => (match r with
        | .bl k => .ok k st1
        | _ => .no)
      | none => .no : R Bool).bind fun k st1 => .ok (.bl k) st1) Q E := p
    split at p
    · rename_i f hf
      have hc := e.bk.hm _ _ _ hf
      have ck := e.bk.ck _ hc
      obtain ⟨n, hn, hfi⟩ := ck.mth _ _ hf
      have hn2 : Λ.nm 22 = some n := hn
      rw [e.bk.n2.bool] at hn2
      cases hn2
      obtain ⟨m, F⟩ := I.fr
      have X0 : Λ.K.In X.base := e.hK ▸ I.mod.kin
      have p2 : Post Λ (Rel Λ) W (cd f [.obj c fs] st) (fun v H' => ∃ b, v = .bl b ∧ Q (.bl b) H') E := by
        cases hcd : cd f [.obj c fs] st with
        | no =>
          rw [hcd] at p
          exact p.elim
        | ex cc fs2 st1 =>
          rw [hcd] at p
          exact p
        | ok a st1 =>
          rw [hcd] at p
          intro W1 v H1 le S1 r1
          cases a <;> first | exact p.elim | skip
          cases r1
          exact ⟨_, rfl, p W1 _ H1 le S1 (.bl _)⟩
      obtain ⟨x, rfl, rx⟩ := relL1 rl
      cases vr with
      | cons v1 v2 =>
        cases v2
        rename_i v
        have call := e.kn.call2 e.hK e.hg e.tk f (s := s) I (.cons v1 .nil) S (.cons rx .nil) p2
        have fn1 := (e.kn.fn_ p2).1
        cases rx with
        | obj ga _ =>
          obtain rfl := v1
          obtain ⟨od, J⟩ := inst_of I (S.sub _ _ ga)
          refine bool_own (PySem.W.truthy_K F X0 J hfi fn1 (wpAny_mono call (fun w s' h => ?_) fun _ _ z => z))
          obtain ⟨z, H', I', r, b, rfl, q⟩ := h
          obtain rfl := r
          exact ⟨.bl b, H', I', rfl, q⟩
    · exact p.elim
  · obtain ⟨d, h1, q⟩ := p.opt
    exact biD_ok e b I vr S rl h1 q
end
end Mir

set_option Elab.async false
set_option linter.all false
set_option maxRecDepth 100000
/-! Mir5: expressions, one by one. -/
namespace Mir
open PySem L2

section
variable (Λ : Lk) (E : XK)
/-- what an expression gives -/
def sE (g : Sl → Sto → R D) : TE := fun σ H Q => ∃ W st σd, Sim Λ W st H ∧ SlotR Λ W σ σd ∧ Post Λ (Rel Λ) W (g σd st) Q E
def sT (g : Sl → Sto → R Bool) : TT := fun σ H Q => ∃ W st σd, Sim Λ W st H ∧ SlotR Λ W σ σd ∧ Post Λ same W (g σd st) Q E
def sA (g : Sl → Sto → R (List D)) : TA := fun σ H Q => ∃ W st σd, Sim Λ W st H ∧ SlotR Λ W σ σd ∧ Post Λ (RelL Λ) W (g σd st) Q E
def sO (g : Sl → Sto → R (Option Int)) : TO := fun σ H Q => ∃ W st σd, Sim Λ W st H ∧ SlotR Λ W σ σd ∧ Post Λ same W (g σd st) Q E
end
section
variable {X : Cx}
theorem PE.alt {e : Expr} {t t' : TE} (h : PE X e t) (w : ∀ σ H Q, t' σ H Q → t σ H Q) : PE X e t' := ⟨fun pins s σ H Q I q => h.run pins s σ H Q I (w σ H Q q)⟩
theorem PT.alt {e : Expr} {t t' : TT} (h : PT X e t) (w : ∀ σ H Q, t' σ H Q → t σ H Q) : PT X e t' := ⟨fun pins s σ H Q I q => h.run pins s σ H Q I (w σ H Q q)⟩
theorem PA.alt {e : List Expr} {t t' : TA} (h : PA X e t) (w : ∀ σ H Q, t' σ H Q → t σ H Q) : PA X e t' := ⟨fun pos pins s σ H Q I q => h.run pos pins s σ H Q I (w σ H Q q)⟩
theorem PK.alt {e : List Keyword} {t t' : TA} (h : PK X e t) (w : ∀ σ H Q, t' σ H Q → t σ H Q) : PK X e t' := ⟨fun pos pins s σ H Q I q => h.run pos pins s σ H Q I (w σ H Q q)⟩
theorem PO.alt {e : Option Expr} {t t' : TO} (h : PO X e t) (w : ∀ σ H Q, t' σ H Q → t σ H Q) : PO X e t' := ⟨fun pins s σ H Q I q => h.run pins s σ H Q I (w σ H Q q)⟩
end

section
variable {Λ : Lk} {T : Tab} {cd : Cd} {k : Nat} {fa : Nat → Addr} {ps : Nat → List Str} {X : Cx} {E : XK}
variable {ga gb gc : Sl → Sto → R D}

/-- behind a value comes what uses it -/
theorem sE.then_ {α β : Type} {rel' : Wd → β → α → Prop} {σ : L2.St} {H : Hp} {W : Wd} {st : Sto} {σd : Sl} {f : D → Sto → R α} {Q2 : β → Hp → Prop} {Q : V → Hp → Prop} (S : Sim Λ W st H) (sl : SlotR Λ W σ σd) (p : Post Λ rel' W ((ga σd st).bind f) Q2 E)
    (h : ∀ W1 a st1 v H1, Sim Λ W1 st1 H1 → SlotR Λ W1 σ σd → Rel Λ W1 v a → Post Λ rel' W1 (f a st1) Q2 E → W.Le W1 → Q v H1) : sE Λ E ga σ H Q :=
  ⟨W, st, σd, S, sl, p.bind fun W1 a st1 v H1 le S1 r q => h W1 a st1 v H1 S1 (sl.mono le) r q le⟩
theorem sT.then_ {α β : Type} {rel' : Wd → β → α → Prop} {g : Sl → Sto → R Bool} {σ : L2.St} {H : Hp} {W : Wd} {st : Sto} {σd : Sl} {f : Bool → Sto → R α} {Q2 : β → Hp → Prop} {Q : Bool → Hp → Prop} (S : Sim Λ W st H) (sl : SlotR Λ W σ σd) (p : Post Λ rel' W ((g σd st).bind f) Q2 E)
    (h : ∀ W1 a st1 H1, Sim Λ W1 st1 H1 → SlotR Λ W1 σ σd → Post Λ rel' W1 (f a st1) Q2 E → W.Le W1 → Q a H1) : sT Λ E g σ H Q :=
  ⟨W, st, σd, S, sl, p.bind fun W1 a st1 v H1 le S1 r q => by
    cases r
    exact h W1 a st1 H1 S1 (sl.mono le) q le⟩
theorem sA.then_ {α β : Type} {rel' : Wd → β → α → Prop} {g : Sl → Sto → R (List D)} {σ : L2.St} {H : Hp} {W : Wd} {st : Sto} {σd : Sl} {f : List D → Sto → R α} {Q2 : β → Hp → Prop} {Q : List V → Hp → Prop} (S : Sim Λ W st H) (sl : SlotR Λ W σ σd) (p : Post Λ rel' W ((g σd st).bind f) Q2 E)
    (h : ∀ W1 a st1 v H1, Sim Λ W1 st1 H1 → SlotR Λ W1 σ σd → RelL Λ W1 v a → Post Λ rel' W1 (f a st1) Q2 E → W.Le W1 → Q v H1) : sA Λ E g σ H Q :=
  ⟨W, st, σd, S, sl, p.bind fun W1 a st1 v H1 le S1 r q => h W1 a st1 v H1 S1 (sl.mono le) r q le⟩

/-! ### names, constants -/
theorem se_var {i : Nat} {x : Str} {pos : Pos} (hN : X.N[i]? = some x) (hv : Vis X.env.scope x) (h1 : (x == "__debug__") = false) (h2 : (x == "__classdict__") = false) :
    PE X (.Name x pos) (sE Λ E fun σ st => match σ[i]? with
      | some (some d) => .ok d st
      | _ => .no) := by
  refine PE.alt (pe_var hN hv h1 h2) fun σ H Q h => ?_
  obtain ⟨W, st, σd, S, sl, p⟩ := h
  replace p : Post Λ (Rel Λ) W (match σd[i]? with
      | some (some d) => R.ok d st
      | _ => .no) Q E := p
  split at p
  · rename_i d hd
    obtain ⟨v, h3, h4⟩ := sl.at_ i d hd
    exact ⟨v, h3, p.here S h4⟩
  · exact p.elim
theorem se_tC {e : Expr} {v : V} {d : D} (h : PE X e (tC v)) (r : ∀ W st H, Sim Λ W st H → Rel Λ W v d) : PE X e (sE Λ E fun _ st => .ok d st) := by
  refine PE.alt h fun σ H Q h => ?_
  obtain ⟨W, st, σd, S, sl, p⟩ := h
  exact KOk.here p S (r W st H S)

/-! ### arguments -/
theorem sa_nil : PA X [] (sA Λ E fun _ st => .ok [] st) := by
  refine PA.alt pa_nil fun σ H Q h => ?_
  obtain ⟨W, st, σd, S, sl, p⟩ := h
  exact KOk.here p S .nil
theorem cons_T {gs : Sl → Sto → R (List D)} {σ : L2.St} {H : Hp} {Q : List V → Hp → Prop} (h : sA Λ E (fun σ st => (ga σ st).bind fun d st1 => (gs σ st1).bind fun ds st2 => .ok (d :: ds) st2) σ H Q) : tCons (sE Λ E ga) (sA Λ E gs) σ H Q := by
  obtain ⟨W, st, σd, S, sl, p⟩ := h
  refine sE.then_ S sl p fun W1 a st1 v H1 S1 sl1 r1 p1 le1 => ?_
  refine sA.then_ S1 sl1 p1 fun W2 b st2 vs H2 S2 sl2 r2 p2 le2 => ?_
  exact KOk.here p2 S2 (.cons (r1.mono le2) r2)
theorem sa_cons {e : Expr} {es : List Expr} {gs : Sl → Sto → R (List D)} (h : PE X e (sE Λ E ga)) (hs : PA X es (sA Λ E gs)) (st : starEach (e :: es) X.env = (false, eval e X.env) :: starEach es X.env) :
    PA X (e :: es) (sA Λ E fun σ st => (ga σ st).bind fun d st1 => (gs σ st1).bind fun ds st2 => .ok (d :: ds) st2) :=
  PA.alt (pa_cons h hs st) fun σ H Q => cons_T
theorem sk_nil : PK X [] (sA Λ E fun _ st => .ok [] st) := by
  refine PK.alt pk_nil fun σ H Q h => ?_
  obtain ⟨W, st, σd, S, sl, p⟩ := h
  exact KOk.here p S .nil
theorem sk_cons {kpos : Pos} {nm : Option Str} {e : Expr} {es : List Keyword} {gs : Sl → Sto → R (List D)} (h : PE X e (sE Λ E ga)) (hs : PK X es (sA Λ E gs)) :
    PK X (⟨nm, e, kpos⟩ :: es) (sA Λ E fun σ st => (ga σ st).bind fun d st1 => (gs σ st1).bind fun ds st2 => .ok (d :: ds) st2) :=
  PK.alt (pk_cons h hs) fun σ H Q => cons_T

/-! ### tuples, lists -/
theorem fits_le {α : Type} {l : List α} (h : fits l = true) : l.length ≤ sizeLine := of_decide_eq_true h
theorem se_tup {es : List Expr} {gs : Sl → Sto → R (List D)} {x1 : Nat} {pos : Pos} (h : PA X es (sA Λ E gs)) : PE X (.Tuple es x1 pos) (sE Λ E fun σ st => (gs σ st).bind fun ds st1 => if fits ds then .ok (.tup ds) st1 else .no) := by
  refine PE.alt (pe_tup h) fun σ H Q h => ?_
  obtain ⟨W, st, σd, S, sl, p⟩ := h
  refine sA.then_ S sl p fun W1 a st1 v H1 S1 sl1 r1 p1 le1 => ?_
  split at p1
  · rename_i hf
    exact ⟨by rw [r1.len]; exact fits_le hf, KOk.newTup p1 S1 r1⟩
  · exact p1.elim
theorem se_lstF {es : List Expr} {gs : Sl → Sto → R (List D)} {pos : Pos} (h : PA X es (sA Λ E gs)) : PE X (.List es pos) (sE Λ E fun σ st => (gs σ st).bind fun ds st1 => if fits ds then .ok (.lst ds) st1 else .no) := by
  refine PE.alt (pe_lst h) fun σ H Q h => ?_
  obtain ⟨W, st, σd, S, sl, p⟩ := h
  refine sA.then_ S sl p fun W1 a st1 v H1 S1 sl1 r1 p1 le1 => ?_
  split at p1
  · rename_i hf
    exact ⟨by rw [r1.len]; exact fits_le hf, KOk.newLst p1 S1 r1⟩
  · exact p1.elim
theorem se_lstO {es : List Expr} {gs : Sl → Sto → R (List D)} {pos : Pos} (h : PA X es (sA Λ E gs)) : PE X (.List es pos) (sE Λ E fun σ st => (gs σ st).bind fun ds st1 => if fits ds then .ok (.mref st1.length) (st1 ++ [.lst ds]) else .no) := by
  refine PE.alt (pe_lst h) fun σ H Q h => ?_
  obtain ⟨W, st, σd, S, sl, p⟩ := h
  refine sA.then_ S sl p fun W1 a st1 v H1 S1 sl1 r1 p1 le1 => ?_
  split at p1
  · rename_i hf
    refine ⟨by rw [r1.len]; exact fits_le hf, fun q hq => ?_⟩
    refine p1 (W1.push q) _ _ Wd.push_le (S1.push hq (fun b u z => by
      show upd H1 q _ b = some u
      rw [upd_ne (ne_of_none z hq)]
      exact z) ⟨q, v, Wd.push_at, S1.free hq, upd_same, r1.mono Wd.push_le⟩) ?_
    exact .mref (by show _ < W1.L + 1; rw [S1.len]; omega) (by rw [← S1.len]; exact Wd.push_at)
  · exact p1.elim

/-! ### operators -/
theorem se_bin (e : Ev Λ T cd k fa ps X E) (op : Operator) {a b : Expr} {pos : Pos} (ha : PE X a (sE Λ E ga)) (hb : PE X b (sE Λ E gb)) : PE X (.BinOp a op b pos) (sE Λ E fun σ st => (ga σ st).bind fun x st1 => (gb σ st1).bind fun y st2 => binD T cd op x y st2) := by
  refine PE.alt (pe_op (binD_ok e op) ha hb) fun σ H Q h => ?_
  obtain ⟨W, st, σd, S, sl, p⟩ := h
  refine sE.then_ S sl p fun W1 a st1 v H1 S1 sl1 r1 p1 le1 => ?_
  refine sE.then_ S1 sl1 p1 fun W2 b st2 u H2 S2 sl2 r2 p2 le2 => ?_
  exact ⟨a, b, W2, st2, S2, r1.mono le2, r2, p2⟩
theorem se_neg (e : Ev Λ T cd k fa ps X E) {a : Expr} {pos : Pos} (ha : PE X a (sE Λ E ga)) : PE X (.UnaryOp .USub a pos) (sE Λ E fun σ st => (ga σ st).bind fun x st1 => negD T cd x st1) := by
  refine PE.alt (pe_un (negD_ok e) ha) fun σ H Q h => ?_
  obtain ⟨W, st, σd, S, sl, p⟩ := h
  refine sE.then_ S sl p fun W1 a st1 v H1 S1 sl1 r1 p1 le1 => ?_
  exact ⟨a, W1, st1, S1, r1, p1⟩
theorem se_cmp (e : Ev Λ T cd k fa ps X E) (op : CmpOp) {a b : Expr} {pos : Pos} (ha : PE X a (sE Λ E ga)) (hb : PE X b (sE Λ E gb)) (hm : behindInMarks op b = false) : PE X (.Compare a [op] [b] pos) (sE Λ E fun σ st => (ga σ st).bind fun x st1 => (gb σ st1).bind fun y st2 => cmpV T cd op x y st2) := by
  refine PE.alt (pe_cmpR (cmpV_ok e op) ha hb hm) fun σ H Q h => ?_
  obtain ⟨W, st, σd, S, sl, p⟩ := h
  refine sE.then_ S sl p fun W1 a st1 v H1 S1 sl1 r1 p1 le1 => ?_
  refine sE.then_ S1 sl1 p1 fun W2 b st2 u H2 S2 sl2 r2 p2 le2 => ?_
  exact ⟨a, b, W2, st2, S2, r1.mono le2, r2, p2⟩
theorem se_not {a : Expr} {pos : Pos} (ha : PE X a (sE Λ E ga)) : PE X (.UnaryOp .Not a pos) (sE Λ E fun σ st => (ga σ st).bind fun x st1 => (match x with
      | .bl k => .ok (.bl (!k)) st1
      | _ => .no)) := by
  refine PE.alt (pe_not ha) fun σ H Q h => ?_
  obtain ⟨W, st, σd, S, sl, p⟩ := h
  refine sE.then_ S sl p fun W1 a st1 v H1 S1 sl1 r1 p1 le1 => ?_
  cases a <;> first | exact p1.elim | skip
  cases r1
  exact ⟨_, rfl, KOk.here p1 S1 (.bl _)⟩
theorem se_ife {c a b : Expr} {pos : Pos} {gt : Sl → Sto → R Bool} (hc : PT X c (sT Λ E gt)) (ha : PE X a (sE Λ E ga)) (hb : PE X b (sE Λ E gb)) : PE X (.IfExp c a b pos) (sE Λ E fun σ st => (gt σ st).bind fun k st1 => if k = true then ga σ st1 else gb σ st1) := by
  refine PE.alt (pe_ifExp hc ha hb) fun σ H Q h => ?_
  obtain ⟨W, st, σd, S, sl, p⟩ := h
  refine sT.then_ S sl p fun W1 a st1 H1 S1 sl1 p1 le1 => ?_
  cases a
  · exact ⟨W1, st1, σd, S1, sl1, p1⟩
  · exact ⟨W1, st1, σd, S1, sl1, p1⟩
theorem se_and {a b : Expr} {rest : List Expr} {pos : Pos} (ha : PE X a (sE Λ E ga)) (hb : PE X (.BoolOp .And (b :: rest) pos) (sE Λ E gb)) : PE X (.BoolOp .And (a :: b :: rest) pos) (sE Λ E fun σ st => (ga σ st).bind fun d st1 => (match d with
      | .bl true => gb σ st1
      | .bl false => .ok (.bl false) st1
      | _ => .no)) := by
  refine PE.alt (pe_and ha hb) fun σ H Q h => ?_
  obtain ⟨W, st, σd, S, sl, p⟩ := h
  refine sE.then_ S sl p fun W1 a st1 v H1 S1 sl1 r1 p1 le1 => ?_
  cases a <;> first | exact p1.elim | skip
  cases r1
  rename_i z
  cases z
  · exact ⟨_, rfl, KOk.here p1 S1 (.bl _)⟩
  · exact ⟨_, rfl, W1, st1, σd, S1, sl1, p1⟩
theorem se_or {a b : Expr} {rest : List Expr} {pos : Pos} (ha : PE X a (sE Λ E ga)) (hb : PE X (.BoolOp .Or (b :: rest) pos) (sE Λ E gb)) : PE X (.BoolOp .Or (a :: b :: rest) pos) (sE Λ E fun σ st => (ga σ st).bind fun d st1 => (match d with
      | .bl false => gb σ st1
      | .bl true => .ok (.bl true) st1
      | _ => .no)) := by
  refine PE.alt (pe_or ha hb) fun σ H Q h => ?_
  obtain ⟨W, st, σd, S, sl, p⟩ := h
  refine sE.then_ S sl p fun W1 a st1 v H1 S1 sl1 r1 p1 le1 => ?_
  cases a <;> first | exact p1.elim | skip
  cases r1
  rename_i z
  cases z
  · exact ⟨_, rfl, W1, st1, σd, S1, sl1, p1⟩
  · exact ⟨_, rfl, KOk.here p1 S1 (.bl _)⟩
theorem se_cmp2 (e : Ev Λ T cd k fa ps X E) (o1 o2 : CmpOp) {a b c : Expr} {pos : Pos} (ha : PE X a (sE Λ E ga)) (hb : PE X b (sE Λ E gb)) (hc : PE X c (sE Λ E gc)) (hm : lastMarks [o1, o2] [b, c] = false) :
    PE X (.Compare a [o1, o2] [b, c] pos) (sE Λ E fun σ st => (ga σ st).bind fun x st1 => (gb σ st1).bind fun y st2 => (cmpV T cd o1 x y st2).bind fun r st3 => (match r with
      | .bl true => (gc σ st3).bind fun z st4 => cmpV T cd o2 y z st4
      | .bl false => .ok (.bl false) st3
      | _ => .no)) := by
  refine PE.alt (pe_chain (cmpV_ok e o1) (cmpV_ok e o2) ha hb hc hm) fun σ H Q h => ?_
  obtain ⟨W, st, σd, S, sl, p⟩ := h
  refine sE.then_ S sl p fun W1 a st1 v H1 S1 sl1 r1 p1 le1 => ?_
  refine sE.then_ S1 sl1 p1 fun W2 b st2 u H2 S2 sl2 r2 p2 le2 => ?_
  refine ⟨a, b, W2, st2, S2, r1.mono le2, r2, p2.bind fun W3 r st3 z H3 le3 S3 r3 p3 => ?_⟩
  cases r <;> first | exact p3.elim | skip
  cases r3
  rename_i q
  refine ⟨q, rfl, ?_⟩
  cases q
  · exact KOk.here p3 S3 (.bl _)
  · refine sE.then_ S3 (sl2.mono le3) p3 fun W4 c st4 w H4 S4 sl4 r4 p4 le4 => ?_
    exact ⟨b, c, W4, st4, S4, (r2.mono le3).mono le4, r4, p4⟩

/-! ### tests -/
theorem R.bind_assoc {α β γ : Type} (r : R α) (f : α → Sto → R β) (g : β → Sto → R γ) : (r.bind f).bind g = r.bind fun a st => (f a st).bind g := by
  cases r <;> rfl
theorem st_val (e : Ev Λ T cd k fa ps X E) {a : Expr} (ha : PE X a (sE Λ E ga)) (he : ∀ whole, PySem.isTrue a X.env whole = (do let v ← whole; standAt a.pos; holding [v] (truthy v))) :
    PT X a (sT Λ E fun σ st => (ga σ st).bind fun d st1 => tstD T cd d st1) := by
  refine PT.alt (pt_truthR ha (tstD_ok e) he) fun σ H Q h => ?_
  obtain ⟨W, st, σd, S, sl, p⟩ := h
  refine sE.then_ S sl p fun W1 a st1 v H1 S1 sl1 r1 p1 le1 => ?_
  exact ⟨a, W1, st1, S1, r1, p1⟩
theorem st_cmp (e : Ev Λ T cd k fa ps X E) (op : CmpOp) {a b : Expr} {pos : Pos} (ha : PE X a (sE Λ E ga)) (hb : PE X b (sE Λ E gb)) (hm : behindInMarks op b = false) :
    PT X (.Compare a [op] [b] pos) (sT Λ E fun σ st => ((ga σ st).bind fun x st1 => (gb σ st1).bind fun y st2 => cmpV T cd op x y st2).bind blD) := by
  refine PT.alt (pt_cmpR (cmpV_ok e op) ha hb hm) fun σ H Q h => ?_
  obtain ⟨W, st, σd, S, sl, p⟩ := h
  dsimp only at p
  rw [R.bind_assoc] at p
  refine sE.then_ S sl p fun W1 a st1 v H1 S1 sl1 r1 p1 le1 => ?_
  rw [R.bind_assoc] at p1
  refine sE.then_ S1 sl1 p1 fun W2 b st2 u H2 S2 sl2 r2 p2 le2 => ?_
  refine ⟨a, b, W2, st2, S2, r1.mono le2, r2, p2.bind fun W3 d st3 z H3 le3 S3 r3 p3 => ?_⟩
  cases d <;> first | exact p3.elim | skip
  cases r3
  exact ⟨_, rfl, p3.here S3 rfl⟩
theorem st_cmp2 (e : Ev Λ T cd k fa ps X E) (o1 o2 : CmpOp) {a b c : Expr} {pos : Pos} (ha : PE X a (sE Λ E ga)) (hb : PE X b (sE Λ E gb)) (hc : PE X c (sE Λ E gc)) (hm : lastMarks [o1, o2] [b, c] = false) :
    PT X (.Compare a [o1, o2] [b, c] pos) (sT Λ E fun σ st => ((ga σ st).bind fun x st1 => (gb σ st1).bind fun y st2 => (cmpV T cd o1 x y st2).bind fun r st3 => (match r with
      | .bl true => (gc σ st3).bind fun z st4 => cmpV T cd o2 y z st4
      | .bl false => .ok (.bl false) st3
      | _ => .no)).bind blD) := by
  refine PT.alt (pt_chain (cmpV_ok e o1) (cmpV_ok e o2) ha hb hc hm) fun σ H Q h => ?_
  obtain ⟨W, st, σd, S, sl, p⟩ := h
  dsimp only at p
  rw [R.bind_assoc] at p
  refine sE.then_ S sl p fun W1 a st1 v H1 S1 sl1 r1 p1 le1 => ?_
  rw [R.bind_assoc] at p1
  refine sE.then_ S1 sl1 p1 fun W2 b st2 u H2 S2 sl2 r2 p2 le2 => ?_
  rw [R.bind_assoc] at p2
  refine ⟨a, b, W2, st2, S2, r1.mono le2, r2, p2.bind fun W3 r st3 z H3 le3 S3 r3 p3 => ?_⟩
  cases r <;> first | exact p3.elim | skip
  cases r3
  rename_i q
  refine ⟨q, rfl, ?_⟩
  cases q
  · exact ⟨_, rfl, KOk.here p3 S3 rfl⟩
  · replace p3 : Post Λ same W3 (((gc σd st3).bind fun z st4 => cmpV T cd o2 b z st4).bind blD) Q E := p3
    rw [R.bind_assoc] at p3
    refine sE.then_ S3 (sl2.mono le3) p3 fun W4 c st4 w H4 S4 sl4 r4 p4 le4 => ?_
    refine ⟨b, c, W4, st4, S4, (r2.mono le3).mono le4, r4, p4.bind fun W5 d st5 z H5 le5 S5 r5 p5 => ?_⟩
    cases d <;> first | exact p5.elim | skip
    cases r5
    exact ⟨_, rfl, p5.here S5 rfl⟩
variable {ta tb : Sl → Sto → R Bool}
theorem st_not {a : Expr} {pos : Pos} (ha : PT X a (sT Λ E ta)) : PT X (.UnaryOp .Not a pos) (sT Λ E fun σ st => (ta σ st).bind fun k st1 => .ok (!k) st1) := by
  refine PT.alt (pt_not ha) fun σ H Q h => ?_
  obtain ⟨W, st, σd, S, sl, p⟩ := h
  refine sT.then_ S sl p fun W1 a st1 H1 S1 sl1 p1 le1 => ?_
  exact KOk.here p1 S1 rfl
theorem PW.alt {e : Expr} {t t' : TT} (h : PW X e t) (w : ∀ σ H Q, t' σ H Q → t σ H Q) : PW X e t' := ⟨fun whole pins s σ H Q I q => h.run whole pins s σ H Q I (w σ H Q q)⟩
theorem sw_and {a b : Expr} {rest : List Expr} {pos : Pos} (ha : PT X a (sT Λ E ta)) (hb : PW X (.BoolOp .And (b :: rest) pos) (sT Λ E tb)) : PW X (.BoolOp .And (a :: b :: rest) pos) (sT Λ E fun σ st => (ta σ st).bind fun k st1 => if k = true then tb σ st1 else .ok false st1) := by
  refine PW.alt (pw_and ha hb) fun σ H Q h => ?_
  obtain ⟨W, st, σd, S, sl, p⟩ := h
  refine sT.then_ S sl p fun W1 a st1 H1 S1 sl1 p1 le1 => ?_
  cases a
  · exact KOk.here p1 S1 rfl
  · exact ⟨W1, st1, σd, S1, sl1, p1⟩
theorem sw_or {a b : Expr} {rest : List Expr} {pos : Pos} (ha : PT X a (sT Λ E ta)) (hb : PW X (.BoolOp .Or (b :: rest) pos) (sT Λ E tb)) : PW X (.BoolOp .Or (a :: b :: rest) pos) (sT Λ E fun σ st => (ta σ st).bind fun k st1 => if k = true then .ok true st1 else tb σ st1) := by
  refine PW.alt (pw_or ha hb) fun σ H Q h => ?_
  obtain ⟨W, st, σd, S, sl, p⟩ := h
  refine sT.then_ S sl p fun W1 a st1 H1 S1 sl1 p1 le1 => ?_
  cases a
  · exact ⟨W1, st1, σd, S1, sl1, p1⟩
  · exact KOk.here p1 S1 rfl

/-! ### items, slices, attributes, built-in functions -/
theorem se_idx (e : Ev Λ T cd k fa ps X E) {a b : Expr} {pos : Pos} (ha : PE X a (sE Λ E ga)) (hb : PE X b (sE Λ E gb)) (hs : PlainIx b) : PE X (.Subscript a b pos) (sE Λ E fun σ st => (ga σ st).bind fun x st1 => (gb σ st1).bind fun y st2 => opt (idxD st2 x y) st2) := by
  refine PE.alt (pe_ix (idxD_ok e) ha hb hs) fun σ H Q h => ?_
  obtain ⟨W, st, σd, S, sl, p⟩ := h
  refine sE.then_ S sl p fun W1 a st1 v H1 S1 sl1 r1 p1 le1 => ?_
  refine sE.then_ S1 sl1 p1 fun W2 b st2 u H2 S2 sl2 r2 p2 le2 => ?_
  exact ⟨a, b, W2, st2, S2, r1.mono le2, r2, p2⟩
theorem so_none : PO X none (sO Λ E fun _ st => .ok none st) := by
  refine PO.alt po_none fun σ H Q h => ?_
  obtain ⟨W, st, σd, S, sl, p⟩ := h
  exact KOk.here p S rfl
theorem so_some {a : Expr} (ha : PE X a (sE Λ E ga)) : PO X (some a) (sO Λ E fun σ st => (ga σ st).bind fun d st1 => (match d with
      | .int i => .ok (some i) st1
      | _ => .no)) := by
  refine PO.alt (po_some ha) fun σ H Q h => ?_
  obtain ⟨W, st, σd, S, sl, p⟩ := h
  refine sE.then_ S sl p fun W1 a st1 v H1 S1 sl1 r1 p1 le1 => ?_
  cases a <;> first | exact p1.elim | skip
  cases r1
  exact ⟨_, rfl, p1.here S1 rfl⟩
theorem sO.then_ {α β : Type} {rel' : Wd → β → α → Prop} {g : Sl → Sto → R (Option Int)} {σ : L2.St} {H : Hp} {W : Wd} {st : Sto} {σd : Sl} {f : Option Int → Sto → R α} {Q2 : β → Hp → Prop} {Q : Option Int → Hp → Prop} (S : Sim Λ W st H) (sl : SlotR Λ W σ σd) (p : Post Λ rel' W ((g σd st).bind f) Q2 E)
    (h : ∀ W1 a st1 H1, Sim Λ W1 st1 H1 → SlotR Λ W1 σ σd → Post Λ rel' W1 (f a st1) Q2 E → W.Le W1 → Q a H1) : sO Λ E g σ H Q :=
  ⟨W, st, σd, S, sl, p.bind fun W1 a st1 v H1 le S1 r q => by
    cases r
    exact h W1 a st1 H1 S1 (sl.mono le) q le⟩
theorem se_slc (e : Ev Λ T cd k fa ps X E) {a : Expr} {lo hi : Option Expr} {gl gh : Sl → Sto → R (Option Int)} {pos p2 : Pos} (ha : PE X a (sE Λ E ga)) (hl : PO X lo (sO Λ E gl)) (hh : PO X hi (sO Λ E gh)) :
    PE X (.Subscript a (.Slice lo hi none p2) pos) (sE Λ E fun σ st => (ga σ st).bind fun x st1 => (gl σ st1).bind fun l st2 => (gh σ st2).bind fun h st3 => opt (slcD st3 x l h) st3) := by
  refine PE.alt (pe_slice (slcD_ok e) ha hl hh) fun σ H Q h => ?_
  obtain ⟨W, st, σd, S, sl, p⟩ := h
  refine sE.then_ S sl p fun W1 a st1 v H1 S1 sl1 r1 p1 le1 => ?_
  refine sO.then_ S1 sl1 p1 fun W2 l st2 H2 S2 sl2 p2 le2 => ?_
  refine sO.then_ S2 sl2 p2 fun W3 u st3 H3 S3 sl3 p3 le3 => ?_
  exact ⟨a, W3, st3, S3, (r1.mono le2).mono le3, p3⟩
theorem se_attr (e : Ev Λ T cd k fa ps X E) {f : Nat} {x : Str} (hx : Λ.nm f = some x) {a : Expr} {pos : Pos} (ha : PE X a (sE Λ E ga))
    (he : eval (.Attribute a x pos) X.env = (do
          let o ← eval a X.env
          standAt (Pos.atName pos)
          let r ← holding [o] (getAttr o x true)
          letTemporaryGo a o r
          pure r)) : PE X (.Attribute a x pos) (sE Λ E fun σ st => (ga σ st).bind fun d st1 => attrD T cd d f st1) := by
  refine ⟨fun pins s σ H Q I h => PyProof.Rows.Attribute_any_ ?_ he⟩
  obtain ⟨W, st, σd, S, sl, p⟩ := h
  have h1 : sE Λ E ga σ H (fun v H1 => r1 Λ E (fun a st => attrD T cd a f st) v H1 Q) := by
    refine sE.then_ S sl p fun W1 a st1 v H1 S1 sl1 r1 p1 le1 => ?_
    exact ⟨a, W1, st1, S1, r1, p1⟩
  refine wpAny_mono (ha.run pins s σ H _ I h1) (fun o s1 z => ?_) fun _ _ z => z
  obtain ⟨v, H1, I1, rv, q⟩ := z
  exact attrD_ok e hx I1 rv q
theorem cb_of {gs : Sl → Sto → R (List D)} {f : List D → Sto → R D} {σ : L2.St} {H : Hp} {Q : VK} (h : sE Λ E (fun σ st => (gs σ st).bind fun ds st1 => f ds st1) σ H Q) : tCB (rL Λ E f) (sA Λ E gs) σ H Q := by
  obtain ⟨W, st, σd, S, sl, p⟩ := h
  refine sA.then_ S sl p fun W1 a st1 v H1 S1 sl1 r1 p1 le1 => ?_
  exact ⟨a, W1, st1, S1, r1, p1⟩

/-! ### calls -/
def notStar : Expr → Bool
  | .Starred _ _ => false
  | _ => true
theorem star_cons {e : Expr} {es : List Expr} {env : Env} (h : notStar e = true) : starEach (e :: es) env = (false, eval e env) :: starEach es env :=
  starEach.eq_3 env e es (fun a p z => by subst z; cases h)
theorem star_any {es : List Expr} {env : Env} {pos : Pos} (h : es.all notStar = true) : ((backTo pos (starEach es env)).any fun x => x.1) = false := by
  induction es with
  | nil => rfl
  | cons e es ih =>
    simp only [List.all_cons, Bool.and_eq_true] at h
    rw [star_cons h.1]
    show (false || ((backTo pos (starEach es env)).any fun x => x.1)) = false
    rw [ih h.2]
    rfl
def kwNames (ks : List Keyword) : List Str := ks.filterMap (·.arg)
theorem kw_all {ks : List Keyword} {env : Env} {pos : Pos} (h : ks.all (·.arg.isSome) = true) : ((backToKw pos (keywordEach ks env)).all fun x => x.1.isSome) = true ∧ (((backToKw pos (keywordEach ks env)).any fun x => x.1.isNone) = false) ∧ (backToKw pos (keywordEach ks env)).filterMap (·.1) = kwNames ks := by
  induction ks with
  | nil => exact ⟨rfl, rfl, rfl⟩
  | cons k ks ih =>
    obtain ⟨a, v, p⟩ := k
    simp only [List.all_cons, Bool.and_eq_true] at h
    obtain ⟨i1, i2, i3⟩ := ih h.2
    cases a with
    | none => simp at h
    | some a =>
      rw [keywordEach.eq_2]
      refine ⟨?_, ?_, ?_⟩
      · show (true && _) = true
        exact i1
      · show (false || _) = false
        exact i2
      · show a :: _ = a :: _
        exact congrArg _ i3
/-- how many there are -/
def Lenn {α : Type} (n : Nat) (g : Sl → Sto → R (List α)) : Prop := ∀ σ st ds st1, g σ st = .ok ds st1 → ds.length = n
theorem sA.then_n {α β : Type} {rel' : Wd → β → α → Prop} {n : Nat} {g : Sl → Sto → R (List D)} (hn : Lenn n g) {σ : L2.St} {H : Hp} {W : Wd} {st : Sto} {σd : Sl} {f : List D → Sto → R α} {Q2 : β → Hp → Prop} {Q : List V → Hp → Prop} (S : Sim Λ W st H) (sl : SlotR Λ W σ σd) (p : Post Λ rel' W ((g σd st).bind f) Q2 E)
    (h : ∀ W1 a st1 v H1, a.length = n → Sim Λ W1 st1 H1 → SlotR Λ W1 σ σd → RelL Λ W1 v a → Post Λ rel' W1 (f a st1) Q2 E → W.Le W1 → Q v H1) : sA Λ E g σ H Q :=
  ⟨W, st, σd, S, sl, p.bindE fun W1 a st1 v H1 er le S1 r q => h W1 a st1 v H1 (hn _ _ _ _ er) S1 (sl.mono le) r q le⟩
theorem zip_nil_right {α β : Type} (l : List α) : l.zip ([] : List β) = [] := by cases l <;> rfl
/-- the arguments are told, then it goes on -/
theorem args_kw (e : Ev Λ T cd k fa ps X E) {np nk : Nat} {es : List Expr} {kws : List Keyword} {gs gk : Sl → Sto → R (List D)} {f : List D → Sto → R D} {fv : Value} {first : List Value} {pos : Pos} {pins : List (Addr × Obj)} {s : Shared} {σ : L2.St} {H : Hp} {Q : VK}
    (hkeep : PySem.W.keepIn X.K fv = true) (hs : es.all notStar = true) (hkw : kws.all (·.arg.isSome) = true) (ha : PA X es (sA Λ E gs)) (hk : PK X kws (sA Λ E gk)) (hn : Lenn np gs) (hnk : Lenn nk gk) (I : Inv X pins σ H s)
    {W : Wd} {st : Sto} {σd : Sl} (S : Sim Λ W st H) (sl : SlotR Λ W σ σd) (p : Post Λ (Rel Λ) W ((gs σd st).bind fun ds st1 => (gk σd st1).bind fun ks st2 => f (ds ++ ks) st2) Q E)
    (he : es = [] → gs = fun _ st => .ok [] st)
    (go : ∀ (W2 : Wd) (s2 : Shared) (H2 : Hp) (us ws : List Value) (vs zs : List V) (ds ks : List D) (st2 : Sto), W.Le W2 → Inv X pins σ H2 s2 → Vals vs us → Vals zs ws → us.length = np → ws.length = nk → Sim Λ W2 st2 H2 → RelL Λ W2 vs ds → RelL Λ W2 zs ks → Post Λ (Rel Λ) W2 (f (ds ++ ks) st2) Q E →
      wpAny (model X.prog X.w) X.A (PySem.call fv (first ++ us) ((kwNames kws).zip ws)) (EP X pins σ Q) X.xe s2) :
    wpAny (model X.prog X.w) X.A (callWith pos fv first (backTo pos (starEach es X.env)) (backToKw pos (keywordEach kws X.env))) (EP X pins σ Q) X.xe s := by
  obtain ⟨k1, k2, k3⟩ := kw_all (env := X.env) (pos := pos) hkw
  cases es with
  | nil =>
    rw [he rfl] at p hn
    have hn0 : np = 0 := (hn σd st [] st rfl).symm
    refine PySem.W.callWith_KW0 I.mod.kin hkeep k1 ?_ (by rw [star_any (by rfl), k2]; rfl)
    have p1 : Post Λ (Rel Λ) W ((gk σd st).bind fun ks st2 => f ([] ++ ks) st2) Q E := p
    have h2 : sA Λ E gk σ H (fun zs H2 => ∃ W2 ks st2, W.Le W2 ∧ ks.length = nk ∧ Sim Λ W2 st2 H2 ∧ RelL Λ W2 zs ks ∧ Post Λ (Rel Λ) W2 (f ([] ++ ks) st2) Q E) :=
      sA.then_n hnk S sl p1 fun W2 ks st2 v H2 hl S2 sl2 r2 p2 le2 => ⟨W2, ks, st2, le2, hl, S2, r2, p2⟩
    refine wpAny_mono (hk.run pos pins s σ H _ I h2) (fun ws s2 z => ?_) fun _ _ z => z
    obtain ⟨zs, H2, I2, rz, W2, ks, st2, le2, hl2, S2, r2, p2⟩ := z
    refine ⟨I2.kIn, ?_⟩
    rw [k3]
    exact go W2 s2 H2 [] ws [] zs [] ks st2 le2 I2 .nil rz hn0.symm (by rw [← rz.length, r2.len, hl2]) S2 .nil r2 p2
  | cons a es =>
    simp only [List.all_cons, Bool.and_eq_true] at hs
    refine PySem.W.callWith_KW I.mod.kin hkeep k1 ?_ (by rw [star_any (by simp only [List.all_cons, hs.1, hs.2, Bool.and_self]), k2]; rfl) (star_cons hs.1)
    have h1 : sA Λ E gs σ H (fun vs H1 => ∃ W1 ds st1, W.Le W1 ∧ ds.length = np ∧ Sim Λ W1 st1 H1 ∧ SlotR Λ W1 σ σd ∧ RelL Λ W1 vs ds ∧ Post Λ (Rel Λ) W1 ((gk σd st1).bind fun ks st2 => f (ds ++ ks) st2) Q E) :=
      sA.then_n hn S sl p fun W1 ds st1 v H1 hl S1 sl1 r1 p1 le1 => ⟨W1, ds, st1, le1, hl, S1, sl1, r1, p1⟩
    refine wpAny_mono (ha.run pos pins s σ H _ I h1) (fun us s1 z => ?_) fun _ _ z => z
    obtain ⟨vs, H1, I1, rv, W1, ds, st1, le1, hl, S1, sl1, r1, p1⟩ := z
    have h2 : sA Λ E gk σ H1 (fun zs H2 => ∃ W2 ks st2, W1.Le W2 ∧ ks.length = nk ∧ Sim Λ W2 st2 H2 ∧ RelL Λ W2 zs ks ∧ Post Λ (Rel Λ) W2 (f (ds ++ ks) st2) Q E) :=
      sA.then_n hnk S1 sl1 p1 fun W2 ks st2 v H2 hl S2 sl2 r2 p2 le2 => ⟨W2, ks, st2, le2, hl, S2, r2, p2⟩
    refine wpAny_mono (hk.run pos pins s1 σ H1 _ I1 h2) (fun ws s2 z => ?_) fun _ _ z => z
    obtain ⟨zs, H2, I2, rz, W2, ks, st2, le2, hl2, S2, r2, p2⟩ := z
    refine ⟨I2.kIn, ?_⟩
    rw [k3]
    exact go W2 s2 H2 us ws vs zs ds ks st2 (le1.trans le2) I2 rv rz (by rw [← rv.length, r1.len, hl]) (by rw [← rz.length, r2.len, hl2]) S2 (r1.mono le2) r2 p2
variable {gs gk : Sl → Sto → R (List D)} {es : List Expr} {kws : List Keyword} {pos : Pos}
/-- what is asked of arguments -/
structure Args2 (Λ : Lk) (X : Cx) (E : XK) (es : List Expr) (kws : List Keyword) (np nk : Nat) (gs gk : Sl → Sto → R (List D)) : Prop where
  star : es.all notStar = true
  named : kws.all (·.arg.isSome) = true
  pos : PA X es (sA Λ E gs)
  kw : PK X kws (sA Λ E gk)
  lp : Lenn np gs
  lk : Lenn nk gk
  emp : es = [] → gs = fun _ st => .ok [] st
theorem se_call (e : Ev Λ T cd k fa ps X E) {f i : Nat} {x : Str} {p : Pos} (A : Args2 Λ X E es kws (Λ.sh i).1 (Λ.sh i).2.length gs gk) (hk : kwNames kws = (Λ.sh i).2) (hg : Gl X x) (hm : X.mg x = some (.ref (fa f))) (hkeep : PySem.W.keepIn X.K (.ref (fa f)) = true) (hdb : (x == "__debug__") = false) :
    PE X (.Call (.Name x p) es kws pos) (sE Λ E fun σ st => (gs σ st).bind fun ds st1 => (gk σ st1).bind fun ks st2 => callD T cd f (ds ++ ks) i st2) := by
  refine ⟨fun pins s σ H Q I h => wpAny_Call_Name_kw (ld_glob I hg hm ?_ hdb)⟩
  obtain ⟨W, st, σd, S, sl, p⟩ := h
  refine args_kw (f := fun l st => callD T cd f l i st) e hkeep A.star A.named A.pos A.kw A.lp A.lk I S sl p A.emp fun W2 s2 H2 us ws vs zs ds ks st2 le2 I2 rv rz lu lw S2 r2 r3 p2 => ?_
  rw [hk]
  exact wpAny_call (codeAny_mono (callAt e e.g0 (fun s H I => I.env0) I2 rv rz lu lw S2 (r2.append r3) p2) fun r s' hq => by
    cases r with
    | error e => exact hq
    | ok fl => cases fl <;> exact hq)
theorem se_make (e : Ev Λ T cd k fa ps X E) {c i np : Nat} {x : Str} {p : Pos} (hc : T.has c = true) (A : Args2 Λ X E es kws np (Λ.sh i).2.length gs gk) (hnp : np + 1 = (Λ.sh i).1) (hk : kwNames kws = (Λ.sh i).2) (hg : Gl X x) (hm : X.mg x = some (.ref (Λ.ca c))) (hkeep : PySem.W.keepIn X.K (.ref (Λ.ca c)) = true) (hdb : (x == "__debug__") = false) :
    PE X (.Call (.Name x p) es kws pos) (sE Λ E fun σ st => (gs σ st).bind fun ds st1 => (gk σ st1).bind fun ks st2 => makeD T cd c (ds ++ ks) i st2) := by
  refine ⟨fun pins s σ H Q I h => wpAny_Call_Name_kw (ld_glob I hg hm ?_ hdb)⟩
  obtain ⟨W, st, σd, S, sl, p⟩ := h
  refine args_kw (f := fun l st => makeD T cd c l i st) e hkeep A.star A.named A.pos A.kw A.lp A.lk I S sl p A.emp fun W2 s2 H2 us ws vs zs ds ks st2 le2 I2 rv rz lu lw S2 r2 r3 p2 => ?_
  rw [hk]
  exact makeD_ok e hc I2 rv rz (by show us.length + 1 = _; rw [lu]; exact hnp) lw S2 (r2.append r3) p2
theorem se_meth (e : Ev Λ T cd k fa ps X E) {m i np : Nat} {x : Str} {o : Expr} {apos : Pos} {pl : Sem Bool} (hx : Λ.nm m = some x) (ho : PE X o (sE Λ E ga)) (A : Args2 Λ X E es kws np (Λ.sh i).2.length gs gk) (hnp : np + 1 = (Λ.sh i).1) (hk : kwNames kws = (Λ.sh i).2)
    (he : eval (.Call (.Attribute o x apos) es kws pos) X.env = (do
        let ov ← eval o X.env
        standAt (Pos.atName apos)
        let __x ← holding [ov] (getMethod ov x pl)
        match __x with
          | (f, first) => callWith pos f first (backTo pos (starEach es X.env)) (backToKw pos (keywordEach kws X.env)))) :
    PE X (.Call (.Attribute o x apos) es kws pos) (sE Λ E fun σ st => (ga σ st).bind fun a st0 => (opt (methF T a m) st0).bind fun f st => (gs σ st).bind fun ds st1 => (gk σ st1).bind fun ks st2 => callD T cd f (a :: (ds ++ ks)) i st2) := by
  refine ⟨fun pins s σ H Q I h => PySem.W.methodCall_KW ?_ he⟩
  obtain ⟨W, st, σd, S, sl, p⟩ := h
  have h1 : sE Λ E ga σ H (fun v H1 => ∃ W1 a st1, Sim Λ W1 st1 H1 ∧ SlotR Λ W1 σ σd ∧ Rel Λ W1 v a ∧ Post Λ (Rel Λ) W1 ((opt (methF T a m) st1).bind fun f st => (gs σd st).bind fun ds st1 => (gk σd st1).bind fun ks st2 => callD T cd f (a :: (ds ++ ks)) i st2) Q E) :=
    sE.then_ S sl p fun W1 a st1 v H1 S1 sl1 r1 p1 le1 => ⟨W1, a, st1, S1, sl1, r1, p1⟩
  refine wpAny_mono (ho.run pins s σ H _ I h1) (fun u s1 z => ?_) fun _ _ z => z
  obtain ⟨v, H1, I1, rv, W1, a, st1, S1, sl1, r1, p1⟩ := z
  cases hmf : methF T a m with
  | none =>
    rw [hmf] at p1
    exact p1.elim
  | some f =>
    rw [hmf] at p1
    replace p1 : Post Λ (Rel Λ) W1 ((gs σd st1).bind fun ds st1 => (gk σd st1).bind fun ks st2 => callD T cd f (a :: (ds ++ ks)) i st2) Q E := p1
    unfold methF at hmf
    split at hmf
    · rename_i c fs
      split at hmf
      · rename_i f' hm
        obtain ⟨hl, rfl⟩ := guardO_some hmf
        have hc := e.bk.hm _ _ _ hm
        have ck := e.bk.ck _ hc
        obtain ⟨x', hx', hfi⟩ := ck.mth _ _ hm
        rw [hx] at hx'
        cases hx'
        cases hT : T.fn f' with
        | none =>
          have := e.bk.fnm _ _ _ hm
          rw [hT] at this
          cases this
        | some fn =>
          obtain ⟨_, _, _, _, k1, k2, _⟩ := e.kn.fns f' fn hT
          have M : Meth X.K (Λ.ca c) x (fa f') := by rw [e.hK]; exact ⟨hfi, k2, k1⟩
          cases r1 with
          | obj g1 rf =>
            obtain rfl := rv
            have hnl : List.lookup x _ = none := rf.none hx (by simpa using hl)
            refine getmeth_ok I1 (S1.sub _ _ g1) (e.hK ▸ ck.cls) M hnl ?_
            refine args_kw (f := fun l st => callD T cd f' (.obj c fs :: l) i st) e M.kp A.star A.named A.pos A.kw A.lp A.lk I1 S1 sl1 p1 A.emp fun W2 s2 H2 us ws vs zs ds ks st2 le2 I2 rv2 rz lu lw S2 r2 r3 p2 => ?_
            rw [hk]
            refine wpAny_call (codeAny_mono (callAt e e.g0 (us := .ref _ :: us) (vs := .ref _ :: vs) (fun s H I => I.env0) I2 (.cons rfl rv2) rz (by rw [← hnp, ← lu]; rfl) lw S2 (.cons ((Rel.obj g1 rf).mono le2) (r2.append r3)) p2) fun r s' hq => by
              cases r with
              | error e => exact hq
              | ok fl => cases fl <;> exact hq)
      · cases hmf
    · cases hmf

/-! ### methods of texts, append -/
theorem star1 {a : Expr} {env : Env} (h : notStar a = true) : starEach [a] env = [(false, eval a env)] := star_cons h
theorem str_of {v : V} {a : D} {z : Str} {W : Wd} (r : Rel Λ W v a) (h : strD a = some z) : v = .str z := by
  cases r <;> first | (cases h; rfl) | cases h
theorem se_smeth0 {m : Nat} {x : Str} {id : String} {o : Expr} {apos : Pos} {g : Str → D} {gv : Str → V} (sl : Slot "str" x id) (ty : typeOf (.builtin id) = pure (.type "method_descriptor"))
    (mt : MtR X id fun x xs H Q => ∃ a, x = .str a ∧ xs = [] ∧ True ∧ Q (gv a) H) (hg : ∀ z, mStr z m [] = some (g z)) (hr : ∀ W z, Rel Λ W (gv z) (g z)) (ho : PE X o (sE Λ E ga))
    (hb : attributeBase o x X.env (eval o X.env) = eval o X.env) (hp : (Pos.endLine apos == Pos.line pos) = true) :
    PE X (.Call (.Attribute o x apos) [] [] pos) (sE Λ E fun σ st => (ga σ st).bind fun x st1 => (opt (strD x) st1).bind fun z st2 => ((R.ok [] st2 : R (List D))).bind fun ds st3 => opt (mStr z m ds) st3) := by
  refine PE.alt (pe_m0 sl ty mt ho hb hp) fun σ H Q h => ?_
  obtain ⟨W, st, σd, S, sl, p⟩ := h
  refine sE.then_ S sl p fun W1 a st1 v H1 S1 sl1 r1 p1 le1 => ?_
  cases hz : strD a with
  | none =>
    rw [hz] at p1
    exact p1.elim
  | some z =>
    rw [hz] at p1
    replace p1 : Post Λ (Rel Λ) W1 (opt (mStr z m []) st1) Q E := p1
    obtain ⟨d, hd, q⟩ := p1.opt
    rw [hg] at hd
    cases hd
    obtain rfl := str_of r1 hz
    exact ⟨⟨_, rfl⟩, _, rfl, rfl, trivial, q.here S1 (hr _ _)⟩
theorem se_smeth1 {m : Nat} {x : Str} {id : String} {o a : Expr} {apos : Pos} {g : Str → Str → D} {gv : Str → Str → V} (sl : Slot "str" x id) (ty : typeOf (.builtin id) = pure (.type "method_descriptor"))
    (mt : MtR X id fun x xs H Q => ∃ a b, x = .str a ∧ xs = [.str b] ∧ Q (gv a b) H) (hg : ∀ z ds d, mStr z m ds = some d → ∃ y, ds = [.str y] ∧ d = g z y) (hr : ∀ W z y, Rel Λ W (gv z y) (g z y)) (ho : PE X o (sE Λ E ga)) (ha : PE X a (sE Λ E gb)) (hs : notStar a = true)
    (hb : attributeBase o x X.env (eval o X.env) = eval o X.env) (hp : (Pos.endLine apos == Pos.line pos) = true) :
    PE X (.Call (.Attribute o x apos) [a] [] pos) (sE Λ E fun σ st => (ga σ st).bind fun x st1 => (opt (strD x) st1).bind fun z st2 => ((gb σ st2).bind fun d st3 => (R.ok [] st3 : R (List D)).bind fun ds st4 => .ok (d :: ds) st4).bind fun ds st3 => opt (mStr z m ds) st3) := by
  refine PE.alt (pe_m1 sl ty mt ho ha (star1 hs) hb hp) fun σ H Q h => ?_
  obtain ⟨W, st, σd, S, sl, p⟩ := h
  refine sE.then_ S sl p fun W1 a st1 v H1 S1 sl1 r1 p1 le1 => ?_
  cases hz : strD a with
  | none =>
    rw [hz] at p1
    exact p1.elim
  | some z =>
    rw [hz] at p1
    obtain rfl := str_of r1 hz
    replace p1 : Post Λ (Rel Λ) W1 (((gb σd st1).bind fun d st3 => (R.ok [] st3 : R (List D)).bind fun ds st4 => .ok (d :: ds) st4).bind fun ds st3 => opt (mStr z m ds) st3) Q E := p1
    rw [R.bind_assoc] at p1
    refine ⟨⟨_, rfl⟩, sE.then_ S1 sl1 p1 fun W2 d st2 u H2 S2 sl2 r2 p2 le2 => ?_⟩
    replace p2 : Post Λ (Rel Λ) W2 (opt (mStr z m [d]) st2) Q E := p2
    obtain ⟨d', hd, q⟩ := p2.opt
    obtain ⟨y, h1, rfl⟩ := hg _ _ _ hd
    cases h1
    cases r2
    exact ⟨z, y, rfl, rfl, q.here S2 (hr _ _ _)⟩
theorem se_app {o a : Expr} {apos : Pos} (ho : PE X o (sE Λ E ga)) (ha : PE X a (sE Λ E gb)) (hs : notStar a = true)
    (hb : attributeBase o "append" X.env (eval o X.env) = eval o X.env) (hp : (Pos.endLine apos == Pos.line pos) = true) :
    PE X (.Call (.Attribute o "append" apos) [a] [] pos) (sE Λ E fun σ st => (ga σ st).bind fun x st1 => (opt (mlstD st1 x) st1).bind fun n st2 => (gb σ st2).bind fun d st3 => appD st3 n d) := by
  have hst : starEach (a :: []) X.env = (false, eval a X.env) :: starEach [] X.env := star_cons hs
  refine PE.alt (pe_bm PySem.F.plainAttrs_list PySem.F.slot_list_append PySem.F.type_list_append mt_append ho (pa_cons ha pa_nil hst) hb (by rw [hst]; rfl) hp hst rfl) fun σ H Q h => ?_
  obtain ⟨W, st, σd, S, sl, p⟩ := h
  refine sE.then_ S sl p fun W1 a st1 v H1 S1 sl1 r1 p1 le1 => ?_
  cases hz : mlstD st1 a with
  | none =>
    rw [hz] at p1
    exact p1.elim
  | some n =>
    rw [hz] at p1
    unfold mlstD at hz
    split at hz
    · rename_i n'
      split at hz
      · rename_i xs hc
        cases hz
        cases r1 with
        | mref hn ha =>
          obtain ⟨a0, vs, e1, _, e3, r⟩ := S1.cell _ _ hc
          rw [ha] at e1
          cases e1
          refine ⟨.inl ⟨rfl, vs, rdL e3⟩, ?_⟩
          replace p1 : Post Λ (Rel Λ) W1 ((gb σd st1).bind fun d st3 => appD st3 n d) Q E := p1
          refine sE.then_ S1 sl1 p1 fun W2 d st2 u H2 S2 sl2 r2 p2 le2 => ?_
          unfold appD at p2
          split at p2
          · rename_i ys hc2
            split at p2
            · rename_i hlt
              obtain ⟨a2, us, e1, e2, e3, r⟩ := S2.cell _ _ hc2
              have hr2 := (le2.r n hn).trans ha
              rw [hr2] at e1
              cases e1
              refine ⟨_, us, u, rfl, rfl, e3, by rw [r.len]; exact hlt, ?_⟩
              refine p2 W2 .non _ (Wd.Le.refl _) (S2.write hc2 hr2 ?_) .non
              exact ⟨_, us ++ [u], hr2, e2, upd_same, r.append (.cons r2 .nil)⟩
            · exact p2.elim
          · exact p2.elim
      · cases hz
    · cases hz
/-! ### built-in functions, isinstance -/
theorem se_bi (e : Ev Λ T cd k fa ps X E) (b : Bi) {x : Str} {p : Pos} {gs : Sl → Sto → R (List D)} {a : Expr} {es : List Expr} (hg : Gl X x) (hm : X.mg x = none) (hv : bootBuiltins x = some (biF b)) (hs : (a :: es).all notStar = true) (ha : PA X (a :: es) (sA Λ E gs)) (h1 : x ≠ "__name__") (h2 : (x == "__debug__") = false) :
    PE X (.Call (.Name x p) (a :: es) [] pos) (sE Λ E fun σ st => (gs σ st).bind fun ds st1 => biV T cd b ds st1) := by
  simp only [List.all_cons, Bool.and_eq_true] at hs
  have hB := biV_ok e b
  cases b <;> first
    | exact PE.alt (pe_callB hB hg hm hv ha h1 h2 (star_cons hs.1) (star_any hs.2)) fun σ H Q => cb_of
    | exact PE.alt (pe_callTy hB hg hm hv ha h1 h2 (star_cons hs.1) (star_any hs.2)) fun σ H Q => cb_of

def kdT (Λ : Lk) : Kd → Value
  | .non => .type "NoneType"
  | .bl => .type "bool"
  | .int => .type "int"
  | .str => .type "str"
  | .tup => .type "tuple"
  | .lst => .type "list"
  | .obj c => .ref (Λ.ca c)
def tyU (Λ : Lk) : Ty → Value
  | .int => .type "int"
  | .bool => .type "bool"
  | .str => .type "str"
  | .tuple => .type "tuple"
  | .list => .type "list"
  | .own c => .ref (Λ.ca c)
def tyW (Λ : Lk) : Ty → V
  | .int => .ty "int"
  | .bool => .ty "bool"
  | .str => .ty "str"
  | .tuple => .ty "tuple"
  | .list => .ty "list"
  | .own c => .ref (Λ.ca c)
theorem cls_W (t : Ty) : ClsV (tyW Λ t) (tyU Λ t) := by
  cases t <;> first | exact .ty _ | exact .own _
theorem tyX_of (bk : Bk Λ T fa) {W : Wd} {st : Sto} {H : Hp} (S : Sim Λ W st H) {v : V} {d : D} {kd : Kd} (r : Rel Λ W v d) (h : kdD T.has d = some kd) : TyX Λ.K H v (kdT Λ kd) := by
  cases r with
  | non => cases h; exact .base .non
  | bl => cases h; exact .base (.bl _)
  | int => cases h; exact .base (.int _)
  | str => cases h; exact .base (.str _)
  | mref => cases h
  | tup t l =>
    cases h
    rcases seqT_same S.sub t with (h | ⟨o, h⟩) | ⟨o, its, n, h1, h2, _⟩
    · exact .base (.tup h)
    · exact .fTuple h
    · exact .kTuple h1 h2
  | lst t l =>
    cases h
    exact .base (.lst (S.sub _ _ t))
  | scr t l =>
    cases h
    rcases S.sub.seq t with (h | ⟨o, h⟩) | ⟨o, its, n, h1, h2, _⟩
    · exact .base (.lst h)
    · exact .base (.frz h)
    · exact .kList h1 h2
  | obj g f =>
    obtain ⟨hc, rfl⟩ := guardO_some h
    have ck := bk.ck _ hc
    exact .base (.ins (S.sub _ _ g) ck.cls ck.clas.1 rfl rfl ck.clas.2)
theorem kit_of (bk : Bk Λ T fa) {d : D} {kd : Kd} {t : Ty} (h : kdD T.has d = some kd) (ht : ∀ c, t = .own c → T.has c = true) : PySem.W.kitOne Λ.K (kdT Λ kd) (tyU Λ t) = some (isK t kd) := by
  have ho : ∀ c, kd = .obj c → T.has c = true := fun c e => by
    subst e
    cases d <;> first | (cases h; done) | (obtain ⟨hc, z⟩ := guardO_some h; cases z; exact hc)
  cases kd <;> cases t <;> first
    | exact kit_ty (by decide +kernel)
    | exact bk.kT _ (ht _ rfl) _ (by simp)
    | exact bk.kT2 _ (ho _ rfl) _ (by simp)
    | exact bk.kC _ _ (ho _ rfl) (ht _ rfl)
theorem se_isi (e : Ev Λ T cd k fa ps X E) {a tn : Expr} {p : Pos} {t : Ty} (hg : Gl X "isinstance") (hm : X.mg "isinstance" = none) (ha : PE X a (sE Λ E ga)) (ht : PE X tn (tC (tyW Λ t))) (hc : ∀ c, t = .own c → T.has c = true) (h1 : notStar a = true) (h2 : notStar tn = true) :
    PE X (.Call (.Name "isinstance" p) [a, tn] [] pos) (sE Λ E fun σ st => (ga σ st).bind fun x st1 => opt ((isD T.has t x).map .bl) st1) := by
  have hs : [a, tn].all notStar = true := by simp [h1, h2]
  refine PE.alt (pe_callB call_isi hg hm rfl (pa_cons ha (pa_cons ht pa_nil (star_cons h2)) (star_cons h1)) (by decide) rfl (star_cons h1) (star_any (by simp [h2]))) fun σ H Q h => ?_
  obtain ⟨W, st, σd, S, sl, p⟩ := h
  refine sE.then_ S sl p fun W1 a st1 v H1 S1 sl1 r1 p1 le1 => ?_
  obtain ⟨d, hd, q⟩ := p1.opt
  obtain ⟨b, hb, rfl⟩ := Option.map_eq_some_iff.mp hd
  obtain ⟨kd, hk, rfl⟩ := Option.map_eq_some_iff.mp hb
  show rIsi X.K [v, tyW Λ t] H1 Q
  rw [e.hK]
  exact ⟨v, tyW Λ t, kdT Λ kd, tyU Λ t, _, rfl, cls_W t, tyX_of e.bk S1 r1 hk, kit_of e.bk hk hc, q.here S1 (.bl _)⟩

/-! ### texts put together -/
theorem se_fplain {a : Expr} (ha : PE X a (sE Λ E ga)) : PE X (.FormattedValue a (-1) none pos) (sE Λ E fun σ st => (ga σ st).bind fun x st1 => (match x with
      | .str z => if z.length ≤ sz then .ok (.str z) st1 else .no
      | .int i => opt (strOfInt i) st1
      | _ => .no)) := by
  refine PE.alt (pe_fmt ha) fun σ H Q h => ?_
  obtain ⟨W, st, σd, S, sl, p⟩ := h
  refine sE.then_ S sl p fun W1 a st1 v H1 S1 sl1 r1 p1 le1 => ?_
  split at p1
  · cases r1
    split at p1
    · rename_i hz
      exact .inl ⟨_, rfl, hz, KOk.here p1 S1 (.str _)⟩
    · exact p1.elim
  · cases r1
    obtain ⟨d, hd, q⟩ := p1.opt
    obtain ⟨g, rfl⟩ := guardO_some hd
    exact .inr ⟨_, rfl, g, q.here S1 (.str _)⟩
  · exact p1.elim
/-- one part of a text after the other -/
def evParts : List (Sl → Sto → R D) → Str → Sl → Sto → R D
  | [], acc, _, st => .ok (.str acc) st
  | g :: r, acc, σ, st => (g σ st).bind fun d st1 => (match d with
      | .str y => if (acc ++ y).length ≤ sz then evParts r (acc ++ y) σ st1 else .no
      | _ => .no)
theorem js_of : ∀ (gs : List (Sl → Sto → R D)) (acc : Str) {σ : L2.St} {H : Hp} {Q : VK}, sE Λ E (evParts gs acc) σ H Q → tJs (gs.map (sE Λ E)) acc σ H (fun out H1 => Q (.str out) H1)
  | [], acc, σ, H, Q, h => by
    obtain ⟨W, st, σd, S, sl, p⟩ := h
    exact KOk.here p S (.str _)
  | g :: r, acc, σ, H, Q, h => by
    obtain ⟨W, st, σd, S, sl, p⟩ := h
    refine sE.then_ (ga := g) S sl p fun W1 a st1 v H1 S1 sl1 r1 p1 le1 => ?_
    split at p1
    · cases r1
      split at p1
      · rename_i hz
        exact ⟨_, rfl, hz, js_of r _ ⟨W1, st1, σd, S1, sl1, p1⟩⟩
      · exact p1.elim
    · exact p1.elim
theorem se_fstr {v1 v2 : Expr} {rest : List Expr} {gs : List (Sl → Sto → R D)} (h : PJ X (v1 :: v2 :: rest) (gs.map (sE Λ E))) : PE X (.JoinedStr (v1 :: v2 :: rest) pos) (sE Λ E (evParts gs Str.empty)) :=
  PE.alt (pe_joined h) fun σ H Q => js_of gs Str.empty
end
end Mir

set_option Elab.async false
set_option linter.all false
set_option maxRecDepth 100000
/-! Mir6: walks, targets, lists made turn by turn. -/
namespace Mir
open PySem L2
/-- a walk meets these data -/
structure WalkD (Λ : Lk) (W0 : Wd) (J : L2.It) (w : List D × (Sto → Prop)) : Prop where
  stop : ∀ W st H, W0.Le0 W → Sim Λ W st H → w.2 st → J.stop w.1.length H
  go : ∀ i W st H, i < w.1.length → W0.Le0 W → Sim Λ W st H → w.2 st → J.go i H
  yld : ∀ i d W st H x H', w.1[i]? = some d → W0.Le0 W → Sim Λ W st H → w.2 st → J.yld i H x H' → ∃ W', W.Le W' ∧ Sim Λ W' st H' ∧ Rel Λ W' x d
theorem WalkD.mono {Λ : Lk} {W0 W1 : Wd} {J : L2.It} {w : List D × (Sto → Prop)} (h : WalkD Λ W0 J w) (le : W0.Le W1) : WalkD Λ W1 J w :=
  ⟨fun W st H l => h.stop W st H (le.toLe0.trans l), fun i W st H hi l => h.go i W st H hi (le.toLe0.trans l), fun i d W st H x H' hi l => h.yld i d W st H x H' hi (le.toLe0.trans l)⟩
section
variable (Λ : Lk) (E : XK)
def sI (g : Sl → Sto → R (List D × (Sto → Prop))) : TI := fun σ H Q => ∃ W st σd, Sim Λ W st H ∧ SlotR Λ W σ σd ∧ Post Λ (WalkD Λ) W (g σd st) Q E
/-- a target -/
def sG (g : D → Sl → Sto → R Sl) : TG := fun v σ H Q => ∃ W st σd d, Sim Λ W st H ∧ SlotR Λ W σ σd ∧ Rel Λ W v d ∧ Post Λ (SlotR Λ) W (g d σd st) Q E
end
section
variable {Λ : Lk} {T : Tab} {cd : Cd} {k : Nat} {fa : Nat → Addr} {ps : Nat → List Str} {X : Cx} {E : XK} {W : Wd} {st : Sto} {H : Hp}
variable {ga gb gc : Sl → Sto → R D} {pos : Pos} {tg : Expr}
theorem PI.alt {tg iter : Expr} {t t' : TI} (h : PI X tg iter t) (w : ∀ σ H Q, t' σ H Q → t σ H Q) : PI X tg iter t' := ⟨fun pins s σ H Q I q => h.run pins s σ H Q I (w σ H Q q)⟩
theorem PG.alt {tg : Expr} {t t' : TG} (h : PG X tg t) (w : ∀ v σ H Q, t' v σ H Q → t v σ H Q) : PG X tg t' := ⟨fun pins s σ H v u Q I r q => h.run pins s σ H v u Q I r (w v σ H Q q)⟩
theorem iter_list {pins : List (Addr × Obj)} {σ : L2.St} {s : Shared} {a : Addr} {xs : List V} {R : L2.It → Hp → Prop} (I : Inv X pins σ H s) (hq : SqL X.K H a xs) (q : R (Itl X.K a) H) : wpAny (model X.prog X.w) X.A (pyIter (.ref a)) (PIE X pins σ tg R) X.xe s := by
  obtain ⟨its, rv, p, hz⟩ := I.list hq
  refine wpAny_pyIter_list p.isList ⟨s.heap.objs.size, [s.heap.objs.size], fun i h => Heap.IsListIter h s.heap.objs.size a i, Itl X.K a, H, rfl, I.kept (fun b o e => Heap.get?_push_of_some _ e), turn_list a _, ⟨_, Heap.get?_push_size s.1 rfl, rfl, rfl⟩, fun b hb => ?_, q⟩
  obtain rfl : b = s.heap.objs.size := by simpa using hb
  exact I.fpOk (Nat.le_refl _) (I.hok.fresh (Nat.le_refl _))
theorem iter_tup {pins : List (Addr × Obj)} {σ : L2.St} {s : Shared} {a : Addr} {xs : List V} {R : L2.It → Hp → Prop} (I : Inv X pins σ H s) (hq : SqT X.K H a xs) (q : R (Itt X.K a) H) : wpAny (model X.prog X.w) X.A (pyIter (.ref a)) (PIE X pins σ tg R) X.xe s := by
  obtain ⟨its, rv, p, hz⟩ := I.tuple hq
  refine wpAny_pyIter_tuple p ⟨s.heap.objs.size, [s.heap.objs.size], fun i h => Heap.IsTupleIter h s.heap.objs.size a i, Itt X.K a, H, rfl, I.kept (fun b o e => Heap.get?_push_of_some _ e), turn_tuple a _, ⟨_, Heap.get?_push_size s.1 rfl, rfl, rfl⟩, fun b hb => ?_, q⟩
  obtain rfl : b = s.heap.objs.size := by simpa using hb
  exact I.fpOk (Nat.le_refl _) (I.hok.fresh (Nat.le_refl _))

theorem seqL_inj {K : PySem.W.Frag} {a : Addr} {xs ys : List V} {pins : List (Addr × Obj)} {σ : L2.St} {s : Shared} (I : Inv X pins σ H s) (h : SqL X.K H a xs) (h2 : SqL X.K H a ys) : xs = ys := I.list_inj h h2
/-- what stands in order is met so -/
theorem walk_seq (hK : X.K = Λ.K) (S : Sim Λ W st H) {v : V} {d : D} {w : List D × (Sto → Prop)} (r : Rel Λ W v d) (h : walkD st d = some w) :
    ∃ a xs, v = .ref a ∧ w.2 st ∧ ((SqL X.K H a xs ∧ WalkD Λ W (Itl X.K a) w) ∨ (SqT X.K H a xs ∧ WalkD Λ W (Itt X.K a) w)) := by
  have lst : ∀ {a : Addr} {vs : List V} {ds : List D} {ok : Sto → Prop}, (∀ W1 st1 H1, W.Le0 W1 → Sim Λ W1 st1 H1 → ok st1 → SqL Λ.K H1 a vs) → RelL Λ W vs ds → WalkD Λ W (Itl Λ.K a) (ds, ok) := by
    intro a vs ds ok hs rl
    refine ⟨fun W1 st1 H1 le S1 o => ⟨vs, hs _ _ _ le S1 o, by rw [rl.len]; exact Nat.le_refl _⟩, fun i W1 st1 H1 hi le S1 o => ?_, fun i d W1 st1 H1 x H' hi le S1 o y => ?_⟩
    · obtain ⟨z, h1, _⟩ := rl.get (List.getElem?_eq_getElem hi)
      exact ⟨vs, z, hs _ _ _ le S1 o, h1⟩
    · obtain ⟨rfl, y2⟩ := y
      obtain ⟨z, h1, h2⟩ := rl.get hi
      have := y2 vs (hs _ _ _ le S1 o)
      rw [h1] at this
      cases this
      exact ⟨W1, Wd.Le.refl _, S1, h2.mono0 le⟩
  rw [hK]
  cases r with
  | non => cases h
  | bl => cases h
  | int => cases h
  | str => cases h
  | obj => cases h
  | tup t l =>
    cases h
    refine ⟨_, _, rfl, trivial, .inr ⟨seqT_same S.sub t, ?_⟩⟩
    refine ⟨fun W1 st1 H1 le S1 o => ⟨_, seqT_same (le.g.trans S1.sub) t, by rw [l.len]; exact Nat.le_refl _⟩, fun i W1 st1 H1 hi le S1 o => ?_, fun i d W1 st1 H1 x H' hi le S1 o y => ?_⟩
    · obtain ⟨z, h1, _⟩ := l.get (List.getElem?_eq_getElem hi)
      exact ⟨_, z, seqT_same (le.g.trans S1.sub) t, h1⟩
    · obtain ⟨rfl, y2⟩ := y
      obtain ⟨z, h1, h2⟩ := l.get hi
      have := y2 _ (seqT_same (le.g.trans S1.sub) t)
      rw [h1] at this
      cases this
      exact ⟨W1, Wd.Le.refl _, S1, h2.mono0 le⟩
  | lst t l =>
    cases h
    exact ⟨_, _, rfl, trivial, .inl ⟨rdL (S.sub _ _ t), lst (fun W1 st1 H1 le S1 o => rdL (S1.sub _ _ (le.g _ _ t))) l⟩⟩
  | scr t l =>
    cases h
    exact ⟨_, _, rfl, trivial, .inl ⟨S.sub.seq t, lst (fun W1 st1 H1 le S1 o => (le.g.trans S1.sub).seq t) l⟩⟩
  | mref hn ha =>
    simp only [walkD] at h
    split at h
    · rename_i ds hc
      cases h
      obtain ⟨a, vs, e1, _, e3, r⟩ := S.cell _ _ hc
      rw [ha] at e1
      cases e1
      refine ⟨_, vs, rfl, hc, .inl ⟨rdL e3, ?_⟩⟩
      refine ⟨fun W1 st1 H1 le S1 o => ?_, fun i W1 st1 H1 hi le S1 o => ?_, fun i d W1 st1 H1 x H' hi le S1 o y => ?_⟩
      · obtain ⟨a, us, e1, _, e3, r⟩ := S1.cell _ _ o
        rw [le.r _ hn, ha] at e1
        cases e1
        exact ⟨us, rdL e3, by rw [r.len]; exact Nat.le_refl _⟩
      · obtain ⟨a, us, e1, _, e3, r⟩ := S1.cell _ _ o
        rw [le.r _ hn, ha] at e1
        cases e1
        obtain ⟨z, h1, _⟩ := r.get (List.getElem?_eq_getElem hi)
        exact ⟨us, z, rdL e3, h1⟩
      · obtain ⟨a, us, e1, _, e3, r⟩ := S1.cell _ _ o
        rw [le.r _ hn, ha] at e1
        cases e1
        obtain ⟨rfl, y2⟩ := y
        obtain ⟨z, h1, h2⟩ := r.get hi
        have := y2 us (rdL e3)
        rw [h1] at this
        cases this
        exact ⟨W1, Wd.Le.refl _, S1, h2⟩
    · cases h
theorem si_val (e : Ev Λ T cd k fa ps X E) {l : Expr} (hl : PE X l (sE Λ E ga)) : PI X tg l (sI Λ E fun σ st => (ga σ st).bind fun d st1 => opt (walkD st1 d) st1) := by
  refine ⟨fun pins s σ H R I h => ?_⟩
  obtain ⟨W, st, σd, S, sl, p⟩ := h
  have h1 : sE Λ E ga σ H (fun v H1 => ∃ a xs, v = .ref a ∧ ((SqL X.K H1 a xs ∧ R (Itl X.K a) H1) ∨ (SqT X.K H1 a xs ∧ R (Itt X.K a) H1))) := by
    refine sE.then_ S sl p fun W1 a st1 v H1 S1 sl1 r1 p1 le1 => ?_
    obtain ⟨w, hw, q⟩ := p1.opt
    obtain ⟨a, xs, rfl, _, hs⟩ := walk_seq e.hK S1 r1 hw
    refine ⟨a, xs, rfl, ?_⟩
    rcases hs with ⟨h2, h3⟩ | ⟨h2, h3⟩
    · exact .inl ⟨h2, q.here S1 h3⟩
    · exact .inr ⟨h2, q.here S1 h3⟩
  refine wpAny_mono (hl.run pins s σ H _ I h1) (fun v s1 z => ?_) fun _ _ z => z
  obtain ⟨x, H1, I1, rv, a, xs, rfl, hs⟩ := z
  obtain rfl := rv
  rcases hs with ⟨h2, h3⟩ | ⟨h2, h3⟩
  · exact iter_list I1 h2 h3
  · exact iter_tup I1 h2 h3
theorem rng_get : ∀ (lo : Int) (n i : Nat), i < n → (rngI lo n)[i]? = some (.int (lo + (i : Int)))
  | lo, 0, i, h => absurd h (Nat.not_lt_zero i)
  | lo, n + 1, 0, h => by simp [rngI]
  | lo, n + 1, i + 1, h => by
    show (rngI (lo + 1) n)[i]? = _
    rw [rng_get (lo + 1) n i (by omega)]
    congr 2
    omega
theorem rng_len : ∀ (lo : Int) (n : Nat), (rngI lo n).length = n
  | lo, 0 => rfl
  | lo, n + 1 => congrArg Nat.succ (rng_len (lo + 1) n)
theorem walk_rng (lo : Int) (n : Nat) : WalkD Λ W (Itr lo n) (rngI lo n, fun _ => True) := by
  refine ⟨fun W1 st1 H1 le S1 o => ?_, fun i W1 st1 H1 hi le S1 o => ?_, fun i d W1 st1 H1 x H' hi le S1 o y => ?_⟩
  · show n ≤ (rngI lo n).length
    rw [rng_len]
    exact Nat.le_refl _
  · show i < n
    have hi2 : i < (rngI lo n).length := hi
    rwa [rng_len] at hi2
  · obtain ⟨rfl, rfl⟩ := y
    have hlt : i < n := by
      have := (List.getElem?_eq_some_iff.mp hi).1
      have t2 : i < (rngI lo n).length := this
      rwa [rng_len] at t2
    have h3 : (rngI lo n)[i]? = some d := hi
    rw [rng_get lo n i hlt] at h3
    cases h3
    exact ⟨W1, Wd.Le.refl _, S1, .int _⟩
theorem si_rng1 {a : Expr} {p : Pos} (hg : Gl X "range") (hm : X.mg "range" = none) (ha : PE X a (sE Λ E ga)) (hs : notStar a = true) : PI X tg (.Call (.Name "range" p) [a] [] pos) (sI Λ E fun σ st => (ga σ st).bind fun d st1 => (match d with
      | .int n => if -(2 ^ 62) ≤ n ∧ n < 2 ^ 62 then .ok (rngI 0 n.toNat, fun _ => True) st1 else .no
      | _ => .no)) := by
  refine PI.alt (pi_range1 hg hm (pa_cons ha pa_nil (star_cons hs)) (star1 hs)) fun σ H Q h => ?_
  obtain ⟨W, st, σd, S, sl, p⟩ := h
  refine sE.then_ S sl p fun W1 a st1 v H1 S1 sl1 r1 p1 le1 => ?_
  split at p1
  · cases r1
    split at p1
    · rename_i n hn
      exact ⟨n, rfl, hn.1, hn.2, KOk.here p1 S1 (walk_rng 0 _)⟩
    · exact p1.elim
  · exact p1.elim
theorem si_rng2 {a b : Expr} {p : Pos} (hg : Gl X "range") (hm : X.mg "range" = none) (ha : PE X a (sE Λ E ga)) (hb : PE X b (sE Λ E gb)) (hs : notStar a = true) (hs2 : notStar b = true) : PI X tg (.Call (.Name "range" p) [a, b] [] pos) (sI Λ E fun σ st => (ga σ st).bind fun x st1 => (gb σ st1).bind fun y st2 => (match x, y with
      | .int i, .int j => if (-(2 ^ 62) ≤ i ∧ i < 2 ^ 62) ∧ -(2 ^ 62) ≤ j ∧ j < 2 ^ 62 then .ok (rngI i (j - i).toNat, fun _ => True) st2 else .no
      | _, _ => .no)) := by
  have e2 : starEach [a, b] X.env = [(false, eval a X.env), (false, eval b X.env)] := by rw [star_cons hs, star1 hs2]
  refine PI.alt (pi_range2 hg hm (pa_cons ha (pa_cons hb pa_nil (star_cons hs2)) (star_cons hs)) e2 (star1 hs2)) fun σ H Q h => ?_
  obtain ⟨W, st, σd, S, sl, p⟩ := h
  refine sE.then_ S sl p fun W1 a st1 v H1 S1 sl1 r1 p1 le1 => ?_
  refine sE.then_ S1 sl1 p1 fun W2 b st2 u H2 S2 sl2 r2 p2 le2 => ?_
  split at p2
  · cases r1
    cases r2
    split at p2
    · rename_i hn
      exact ⟨_, _, rfl, ⟨hn.1.1, hn.1.2, hn.2.1, hn.2.2⟩, KOk.here p2 S2 (walk_rng _ _)⟩
    · exact p2.elim
  · exact p2.elim

/-! ### targets -/
theorem wipe_get (σ : L2.St) : ∀ (vs : List Nat) (j : Nat), (wipe σ vs)[j]? = if j ∈ vs then (σ[j]?).map (fun _ => none) else σ[j]?
  | [], j => by simp [wipe]
  | v :: vs, j => by
    show ((wipe σ vs).set v none)[j]? = _
    rw [List.getElem?_set]
    have ih := wipe_get σ vs j
    have hl : (wipe σ vs).length = σ.length := by
      have := wipe_get σ vs
      apply Nat.le_antisymm
      · apply Nat.le_of_not_lt
        intro h
        have h2 := this σ.length
        rw [List.getElem?_eq_getElem h] at h2
        have h3 : σ[σ.length]? = none := List.getElem?_eq_none (Nat.le_refl _)
        rw [h3] at h2
        split at h2 <;> cases h2
      · apply Nat.le_of_not_lt
        intro h
        have h2 := this (wipe σ vs).length
        have h3 : (wipe σ vs)[(wipe σ vs).length]? = none := List.getElem?_eq_none (Nat.le_refl _)
        rw [h3, List.getElem?_eq_getElem h] at h2
        split at h2 <;> cases h2
    by_cases c : v = j
    · subst c
      rw [if_pos rfl, if_pos (List.mem_cons_self)]
      rw [hl]
      by_cases q : v < σ.length
      · rw [if_pos q, List.getElem?_eq_getElem q]
        rfl
      · rw [if_neg q, List.getElem?_eq_none (by omega)]
        rfl
    · rw [if_neg c, ih]
      have e : (j ∈ v :: vs) = (j ∈ vs) := by
        simp only [List.mem_cons, eq_iff_iff]
        exact ⟨fun h => h.resolve_left (fun z => c z.symm), fun h => .inr h⟩
      simp only [e]
theorem wipe_set {σ : L2.St} {i : Nat} {x : Option V} {vs : List Nat} (h : i ∈ vs) : wipe (σ.set i x) vs = wipe σ vs := by
  apply List.ext_getElem?
  intro j
  rw [wipe_get, wipe_get]
  by_cases c : j ∈ vs
  · rw [if_pos c, if_pos c, List.getElem?_set]
    by_cases q : i = j
    · subst q
      rw [if_pos rfl]
      by_cases r : i < σ.length
      · rw [if_pos r, List.getElem?_eq_getElem r]
        rfl
      · rw [if_neg r, List.getElem?_eq_none (by omega)]
    · rw [if_neg q]
  · rw [if_neg c, if_neg c, List.getElem?_set, if_neg (fun q : i = j => c (by rw [← q]; exact h))]
/-- what is put where: nothing else changes -/
def OnlyAt (is : List Nat) (σ σ2 : L2.St) : Prop := ∀ vs : List Nat, (∀ i ∈ is, i ∈ vs) → wipe σ2 vs = wipe σ vs
def sGo (Λ : Lk) (E : XK) (is : List Nat) (g : D → Sl → Sto → R Sl) : TG := fun v σ H Q => sG Λ E g v σ H (fun σ2 H2 => OnlyAt is σ σ2 → Q σ2 H2)
def sGs (Λ : Lk) (E : XK) (is : List Nat) (g : List D → Sl → Sto → R Sl) : TGs := fun vs σ H Q => ∃ W st σd ds, Sim Λ W st H ∧ SlotR Λ W σ σd ∧ RelL Λ W vs ds ∧ Post Λ (SlotR Λ) W (g ds σd st) (fun σ2 H2 => OnlyAt is σ σ2 → Q σ2 H2) E
theorem sg_name {i : Nat} {x : Str} (hN : X.N.Nodup) (hi : X.N[i]? = some x) (hl : L2.Loc X.env.scope x) (hf : X.fn x = true ∨ X.env.scope.names.lookup x = some .local) : PG X (.Name x pos) (sGo Λ E [i] fun d σ st => .ok (σ.set i (some d)) st) := by
  refine PG.alt (pg_name hN hi hl hf) fun v σ H Q h => ?_
  obtain ⟨W, st, σd, d, S, sl, r, p⟩ := h
  exact KOk.here p S (sl.set r i) fun vs hv => wipe_set (hv i (by simp))
theorem sgs_nil : PGs X [] (sGs Λ E [] fun ds σ st => match ds with
    | [] => .ok σ st
    | _ => .no) := by
  refine ⟨fun pins s σ H vs us Q I r h => pgs_nil.run pins s σ H vs us Q I r ?_⟩
  obtain ⟨W, st, σd, ds, S, sl, rl, p⟩ := h
  cases rl with
  | nil => exact ⟨rfl, KOk.here p S sl fun _ _ => rfl⟩
  | cons => exact p.elim
theorem sgs_cons {is js : List Nat} {e : Expr} {es : List Expr} {g : D → Sl → Sto → R Sl} {gs : List D → Sl → Sto → R Sl} (h : PG X e (sGo Λ E is g)) (hs : PGs X es (sGs Λ E js gs))
    (ha : (assignEach (e :: es) X.env).map (·.2) = assign e X.env :: (assignEach es X.env).map (·.2)) : PGs X (e :: es) (sGs Λ E (is ++ js) fun ds σ st => match ds with
    | d :: r => (g d σ st).bind fun σ1 st1 => gs r σ1 st1
    | [] => .no) := by
  refine ⟨fun pins s σ H vs us Q I r h0 => (pgs_cons h hs ha).run pins s σ H vs us Q I r ?_⟩
  obtain ⟨W, st, σd, ds, S, sl, rl, p⟩ := h0
  cases rl with
  | nil => exact p.elim
  | cons ra rb =>
    rename_i v d vs ds
    refine ⟨v, vs, rfl, W, st, σd, d, S, sl, ra, p.bind fun W1 σd1 st1 σ1 H1 le1 S1 sl1 p1 o1 => ?_⟩
    refine ⟨W1, st1, σd1, ds, S1, sl1, rb.mono le1, p1.imp fun σ2 H2 q o2 => q fun vs hv => ?_⟩
    rw [o2 vs fun i hi => hv i (by simp [hi]), o1 vs fun i hi => hv i (by simp [hi])]
theorem sg_tup (e : Ev Λ T cd k fa ps X E) {is : List Nat} {es : List Expr} {kk n : Nat} {gs : List D → Sl → Sto → R Sl} (hs : PGs X es (sGs Λ E is gs)) (h1 : (assignEach es X.env).length = n) (h2 : (assignEach es X.env).findIdx? (fun x => x.1) = none) :
    PG X (.Tuple es kk pos) (sGo Λ E is fun d σ st => match d with
    | .tup ds => if ds.length = n then gs ds σ st else .no
    | _ => .no) := by
  refine PG.alt (pg_tup e.calm hs h1 h2) fun v σ H Q h => ?_
  obtain ⟨W, st, σd, d, S, sl, r, p⟩ := h
  dsimp only at p
  split at p
  · rename_i ds
    cases r with
    | tup t l =>
      split at p
      · rename_i hl
        refine ⟨_, _, rfl, ?_, by rw [l.len]; exact hl, W, st, σd, ds, S, sl, l, p⟩
        rw [e.hK]
        exact seqT_same S.sub t
      · exact p.elim
  · exact p.elim
theorem sg_plain {is : List Nat} {t : Expr} {g : D → Sl → Sto → R Sl} (h : PG X t (sGo Λ E is g)) : PG X t (sG Λ E g) := by
  refine PG.alt h fun v σ H Q h => ?_
  obtain ⟨W, st, σd, d, S, sl, r, p⟩ := h
  exact ⟨W, st, σd, d, S, sl, r, p.imp fun _ _ q _ => q⟩
theorem sg_sub {o i : Expr} (ho : PE X o (sE Λ E ga)) (hi : PE X i (sE Λ E gb))
    (ha : ∀ v : Value, assign (.Subscript o i pos) X.env v = (do
                let ov ← holding [v] (eval o X.env)
                let iv ← holding [v, ov] (eval i X.env)
                standAt pos
                holding [v, ov, iv] (setItem ov iv v)
                release [v, ov, iv] [])) :
    PG X (.Subscript o i pos) (sGo Λ E [] fun d σ st => (ga σ st).bind fun x st1 => (gb σ st1).bind fun y st2 => (match setI st2 x y d with
      | some st3 => .ok σ st3
      | none => .no)) := by
  refine PG.alt (pg_sub ho hi set_list ha) fun v σ H Q h => ?_
  obtain ⟨W, st, σd, d, S, sl, r, p⟩ := h
  refine sE.then_ S sl p fun W1 a st1 x H1 S1 sl1 r1 p1 le1 => ?_
  refine sE.then_ S1 sl1 p1 fun W2 b st2 y H2 S2 sl2 r2 p2 le2 => ?_
  split at p2
  · rename_i st3 h3
    unfold setI at h3
    split at h3
    · rename_i n i
      split at h3
      · rename_i xs hc
        obtain ⟨j, hj, rfl⟩ := Option.map_eq_some_iff.mp h3
        have r1' := r1.mono le2
        cases r1' with
        | mref hn ha2 =>
          cases r2
          obtain ⟨a0, vs, e1, e2, e3, rl⟩ := S2.cell _ _ hc
          rw [ha2] at e1
          cases e1
          refine ⟨_, vs, i, j, rfl, rfl, e3, by rw [rl.len]; exact hj, ?_⟩
          exact p2 W2 σ _ (Wd.Le.refl _) (S2.write hc ha2 ⟨_, vs.set j v, ha2, e2, upd_same, rl.set ((r.mono le1).mono le2) j⟩) sl2 (fun _ _ => rfl)
      · cases h3
    · cases h3
  · exact p2.elim

/-! ### lists made turn by turn -/
theorem Wd.sameF (F' : Hp) : W.Le0 ⟨W.G, W.r, W.L, F'⟩ := ⟨Same.refl _, Nat.le_refl _, fun _ _ => rfl⟩
theorem Sim.fr {D : Addr} {o : HO} {F' : Hp} (S : Sim Λ W st H) (hG : W.G D = none) (hr : ∀ n, n < W.L → W.r n ≠ some D) (h1 : F' D = some o) (h2 : ∀ a, a ≠ D → F' a = W.F a) : Sim Λ ⟨W.G, W.r, W.L, F'⟩ st (upd H D o) := by
  have sm : ∀ a u, a ≠ D → H a = some u → upd H D o a = some u := fun a u n e => by rw [upd_ne n]; exact e
  refine ⟨S.len, fun b u e => sm b u (ne_of_none e hG) (S.sub b u e), fun n c hc => ?_, S.inj, fun a u e => ?_, fun a u e => ?_⟩
  · have ck := S.cell n c hc
    have hn := S.lt hc
    cases c with
    | lst ds =>
      obtain ⟨a, vs, e1, e2, e3, r⟩ := ck
      exact ⟨a, vs, e1, e2, sm a _ (fun q => hr n hn (by rw [← q]; exact e1)) e3, r.mono0 (Wd.sameF _)⟩
    | ins c fs =>
      obtain ⟨a, dx, vs, e1, e2, e3, r⟩ := ck
      exact ⟨a, dx, vs, e1, e2, sm a _ (fun q => hr n hn (by rw [← q]; exact e1)) e3, r.mono0 (Wd.sameF _)⟩
  · by_cases q : a = D
    · subst q
      have e2 : F' a = some u := e
      rw [h1] at e2
      cases e2
      exact upd_same
    · have e2 : F' a = some u := e
      rw [h2 a q] at e2
      exact sm a u q (S.frm a u e2)
  · by_cases q : a = D
    · subst q
      exact ⟨hG, hr⟩
    · have e2 : F' a = some u := e
      rw [h2 a q] at e2
      exact S.fdis a u e2
/-- what was under way is done -/
theorem Sim.done {D : Addr} {o : HO} {F0 : Hp} (S : Sim Λ W st H) (h1 : W.F D = some o) (h2 : ∀ a, a ≠ D → W.F a = F0 a) (h3 : F0 D = none) : Sim Λ ⟨upd W.G D o, W.r, W.L, F0⟩ st H := by
  obtain ⟨hG, hr⟩ := S.fdis D o h1
  refine ⟨S.len, fun b u e => ?_, fun n c hc => ?_, S.inj, fun a u e => ?_, fun a u e => ⟨?_, ?_⟩⟩
  · by_cases q : b = D
    · subst q
      have e2 : upd W.G b o b = some u := e
      rw [upd_same] at e2
      cases e2
      exact S.frm _ _ h1
    · have e2 : upd W.G D o b = some u := e
      rw [upd_ne q] at e2
      exact S.sub b u e2
  · have hn := S.lt hc
    have ck := (S.cell n c hc).mono (W' := W.add D o) (H' := H) (Wd.add_le hG) hn (fun a e1 e2 => by
      show upd W.G D o a = none
      rw [upd_ne (fun q : a = D => hr n hn (by rw [← q]; exact e1))]
      exact e2) (fun _ _ _ z => z)
    cases c with
    | lst ds =>
      obtain ⟨a, vs, e1, e2, e3, r⟩ := ck
      exact ⟨a, vs, e1, e2, e3, r.mono0 (Wd.sameF (W := W.add D o) _)⟩
    | ins c fs =>
      obtain ⟨a, dx, vs, e1, e2, e3, r⟩ := ck
      exact ⟨a, dx, vs, e1, e2, e3, r.mono0 (Wd.sameF (W := W.add D o) _)⟩
  · have q : a ≠ D := ne_of_none e h3
    exact S.frm a u (by rw [h2 a q]; exact e)
  · have q : a ≠ D := ne_of_none e h3
    show upd W.G D o a = none
    rw [upd_ne q]
    exact (S.fdis a u (by rw [h2 a q]; exact e)).1
  · have q : a ≠ D := ne_of_none e h3
    exact (S.fdis a u (by rw [h2 a q]; exact e)).2
theorem wipe_wipe (σ : L2.St) (vs : List Nat) : wipe (wipe σ vs) vs = wipe σ vs := by
  apply List.ext_getElem?
  intro j
  rw [wipe_get, wipe_get]
  by_cases c : j ∈ vs
  · rw [if_pos c, if_pos c]
    cases σ[j]? <;> rfl
  · rw [if_neg c, if_neg c]
theorem R.bind_ok_inv {α β : Type} {r : R α} {f : α → Sto → R β} {b : β} {st : Sto} (h : r.bind f = .ok b st) : ∃ a st1, r = .ok a st1 ∧ f a st1 = .ok b st := by
  cases r with
  | ok a st1 => exact ⟨a, st1, rfl, h⟩
  | ex c fs st => cases h
  | no => cases h
def E0 : XK := fun _ _ _ => False
theorem comp_T {own : List (Str × Nat)} {is : List Nat} {gi : Sl → Sto → R (List D × (Sto → Prop))} {gt : D → Sl → Sto → R Sl} {gf : Sl → Sto → R Bool} {ge : Sl → Sto → R D} (his : ∀ i ∈ is, i ∈ own.map (·.2)) {σ : L2.St} {H : Hp} {Q : VK}
    (h : sE Λ E (fun σ st => (gi σ st).bind fun w st1 => (compD w.2 gt gf ge w.1 (wipeD σ (own.map (·.2))) st1).calm.bind fun rs st2 => if fits rs then .ok (.lst rs) st2 else .no) σ H Q) :
    tLc (sI Λ E gi) (sGo Λ E0 is gt) (sT Λ E0 gf) (sE Λ E0 ge) (own.map (·.2)) σ H Q := by
  obtain ⟨W, st, σd, S, sl, p⟩ := h
  refine ⟨W, st, σd, S, sl, p.bind fun W1 w st1 J H1 le1 S1 wk p1 => ?_⟩
  have sl1 := sl.mono le1
  intro pD hD
  generalize hvs : own.map (·.2) = vs at *
  have slw : SlotR Λ W1 (wipe σ vs) (wipeD σd vs) := sl1.wipe vs
  cases hC : compD w.2 gt gf ge w.1 (wipeD σd vs) st1 with
  | no =>
    rw [hC] at p1
    exact p1.elim
  | ex c fs s2 =>
    rw [hC] at p1
    exact p1.elim
  | ok rs st2 =>
    rw [hC] at p1
    replace p1 : Post Λ (Rel Λ) W1 (if fits rs then .ok (.lst rs) st2 else .no) Q E := p1
    split at p1
    · rename_i hfit
      have hrs : rs.length ≤ sizeLine := fits_le hfit
      have hF1 : W1.F pD = none := by
        cases q : W1.F pD with
        | none => rfl
        | some o => exact absurd rfl (ne_of_none (S1.frm _ _ q) hD)
      let Inn : List D → Hp → Prop := fun rest H' => ∃ (Wi : Wd) (sti : Sto) (va : List V) (da xs : List D), W1.Le0 Wi ∧ Wi.F = upd W1.F pD (.lst va) ∧ Sim Λ Wi sti H' ∧ RelL Λ Wi va da ∧ compD w.2 gt gf ge rest (wipeD σd vs) sti = .ok xs st2 ∧ rs = da ++ xs
      refine ⟨fun i m H' => m = w.1.length - i ∧ i ≤ w.1.length ∧ Inn (w.1.drop i) H', ⟨_, rfl, Nat.zero_le _, ?_⟩, fun i m H' hW => ?_⟩
      · refine ⟨⟨W1.G, W1.r, W1.L, upd W1.F pD (.lst [])⟩, st1, [], [], rs, ⟨Same.refl _, Nat.le_refl _, fun _ _ => rfl⟩, rfl, ?_, .nil, hC, rfl⟩
        exact S1.fr (S1.free hD) (fun n hn q => by
          have hc : n < st1.length := by rw [← S1.len]; exact hn
          obtain ⟨_, o, ho⟩ := (S1.cell n _ (List.getElem?_eq_getElem hc)).has q
          exact ne_of_none ho hD rfl) upd_same (fun a ha => upd_ne ha)
      · obtain ⟨rfl, hle, Wi, sti, va, da, xs, l0, hF, Si, rl, hc, hrs2⟩ := hW
        cases hd : w.1.drop i with
        | nil =>
          have hi : i = w.1.length := by
            have := List.drop_eq_nil_iff.mp hd
            omega
          subst hi
          rw [hd] at hc
          simp only [compD] at hc
          split at hc
          · rename_i hok
            cases hc
            refine .inl ⟨wk.stop Wi _ H' l0 Si hok, ?_⟩
            have hFD : Wi.F pD = some (.lst va) := by rw [hF]; exact upd_same
            obtain ⟨hG, hr⟩ := Si.fdis pD _ hFD
            refine p1 ⟨upd Wi.G pD (.lst va), Wi.r, Wi.L, W1.F⟩ _ _ ⟨⟨fun b u z => ?_, l0.l, l0.r⟩, rfl⟩ (Si.done hFD (fun a ha => by rw [hF, upd_ne ha]) hF1) ?_
            · show upd Wi.G pD _ b = some u
              rw [upd_ne (ne_of_none (l0.g b u z) hG)]
              exact l0.g b u z
            · rw [hrs2, List.append_nil]
              have lz : Wi.Le0 ⟨upd Wi.G pD (.lst va), Wi.r, Wi.L, W1.F⟩ := ⟨fun b u z => by
                show upd Wi.G pD _ b = some u
                rw [upd_ne (ne_of_none z hG)]
                exact z, Nat.le_refl _, fun _ _ => rfl⟩
              exact .lst (vs := va) upd_same (rl.mono0 lz)
          · cases hc
        | cons d r =>
          have hlt : i < w.1.length := by
            apply Decidable.byContradiction
            intro z
            rw [List.drop_eq_nil_iff.mpr (by omega)] at hd
            cases hd
          have hget : w.1[i]? = some d := by
            have := List.getElem?_drop (xs := w.1) (i := i) (j := 0)
            rw [hd] at this
            simpa using this.symm
          have hr1 : w.1.drop (i + 1) = r := by
            rw [← List.drop_drop, hd]
            rfl
          rw [hd] at hc
          simp only [compD] at hc
          split at hc
          · rename_i hok
            refine .inr ⟨wk.go i Wi sti H' hlt l0 Si hok, Inn r, fun H2 hn => ⟨w.1.length - (i + 1), by omega, rfl, by omega, by rw [hr1]; exact hn⟩, fun x H2 hy => ?_⟩
            obtain ⟨W2, l2, S2, rx⟩ := wk.yld i d Wi sti H' x H2 hget l0 Si hok hy
            obtain ⟨σ1, sta, ha, hc1⟩ := R.bind_ok_inv hc
            obtain ⟨kk, stb, hb, hc2⟩ := R.bind_ok_inv hc1
            refine ⟨W2, sti, wipeD σd vs, d, S2, (slw.mono0 (l0.trans l2.toLe0)), rx, ?_⟩
            rw [ha]
            intro W3 σ2 H3 l3 S3 s3 only
            refine ⟨by rw [only vs (fun j hj => his j hj), wipe_wipe], W3, sta, σ1, S3, s3, ?_⟩
            rw [hb]
            intro W4 b H4 l4 S4 eb
            cases eb
            have l04 : W1.Le0 W4 := ((l0.trans l2.toLe0).trans l3.toLe0).trans l4.toLe0
            have hF4 : W4.F = upd W1.F pD (.lst va) := by rw [l4.f, l3.f, l2.f]; exact hF
            have rl4 : RelL Λ W4 va da := ((rl.mono l2).mono l3).mono l4
            cases kk
            · simp only [Bool.false_eq_true, if_false] at hc2 ⊢
              exact ⟨W4, stb, va, da, xs, l04, hF4, S4, rl4, hc2, hrs2⟩
            · simp only [if_true] at hc2 ⊢
              obtain ⟨xx, stc, hx, hc3⟩ := R.bind_ok_inv hc2
              obtain ⟨xs', std, hx2, hc4⟩ := R.bind_ok_inv hc3
              cases hc4
              refine ⟨W4, stb, σ1, S4, s3.mono l4, ?_⟩
              rw [hx]
              intro W5 y H5 l5 S5 ry
              have hF5 : W5.F = upd W1.F pD (.lst va) := by rw [l5.f]; exact hF4
              have hFD : W5.F pD = some (.lst va) := by rw [hF5]; exact upd_same
              obtain ⟨hG, hr⟩ := S5.fdis pD _ hFD
              refine ⟨va, S5.frm pD _ hFD, ?_, ⟨W5.G, W5.r, W5.L, upd W1.F pD (.lst (va ++ [y]))⟩, stc, va ++ [y], da ++ [xx], xs', l04.trans ⟨l5.g, l5.l, l5.r⟩, rfl, S5.fr hG hr upd_same (fun a ha => by rw [hF5, upd_ne ha, upd_ne ha]), ?_, hx2, by rw [hrs2, List.append_assoc]; rfl⟩
              · rw [rl4.len]
                rw [hrs2, List.length_append, List.length_cons] at hrs
                omega
              · exact ((rl4.mono l5).append (.cons ry .nil)).mono0 (Wd.sameF _)
          · cases hc
    · exact p1.elim
theorem se_comp (e : Ev Λ T cd k fa ps X E) {elt iter : Expr} {ifs : List Expr} {scope : Scope} {own : List (Str × Nat)} {is : List Nat} {gi : Sl → Sto → R (List D × (Sto → Prop))} {gt : D → Sl → Sto → R Sl} {gf : Sl → Sto → R Bool} {ge : Sl → Sto → R D}
    (hN : X.N.Nodup) (hi : PI X tg iter (sI Λ E gi)) (ok : BlkOk X.N X.env.scope scope own) (his : ∀ i ∈ is, i ∈ own.map (·.2))
    (hg : ∀ (s : Shared) (H : Hp) (C : Addr) (cl : List (Str × Addr)) (fp : List Addr), PG (X.blk s H scope (compEnvC scope cl C X.env) fp) tg (sGo Λ E0 is gt))
    (ht : ∀ (s : Shared) (H : Hp) (C : Addr) (cl : List (Str × Addr)) (fp : List Addr), PTs (X.blk s H scope (compEnvC scope cl C X.env) fp) ifs (sT Λ E0 gf))
    (he : ∀ (s : Shared) (H : Hp) (C : Addr) (cl : List (Str × Addr)) (fp : List Addr), PE (X.blk s H scope (compEnvC scope cl C X.env) fp) elt (sE Λ E0 ge))
    (hfold : ∀ x : Value, foldedSetIterable iter X.env x = pure x) :
    PE X (.ListComp elt [⟨tg, iter, ifs, 0⟩] scope pos) (sE Λ E fun σ st => (gi σ st).bind fun w st1 => (compD w.2 gt gf ge w.1 (wipeD σ (own.map (·.2))) st1).calm.bind fun rs st2 => if fits rs then .ok (.lst rs) st2 else .no) :=
  PE.alt (pe_lc e.calm hN hi ok hg ht he hfold) fun σ H Q h => comp_T his h
end
end Mir

set_option Elab.async false
set_option linter.all false
set_option maxRecDepth 100000
/-! Mir7: statements. -/
namespace Mir
open PySem L2
def PostO (Λ : Lk) (W : Wd) (o : O) (D : Ends) (E : XK) : Prop := match o with
  | .nxt σd st => ∀ W' σ' H', W.Le W' → Sim Λ W' st H' → SlotR Λ W' σ' σd → D.nx σ' H'
  | .brk σd st => ∀ W' σ' H', W.Le W' → Sim Λ W' st H' → SlotR Λ W' σ' σd → D.bk σ' H'
  | .cnt σd st => ∀ W' σ' H', W.Le W' → Sim Λ W' st H' → SlotR Λ W' σ' σd → D.ct σ' H'
  | .ret d st => KOk Λ (Rel Λ) W d st D.rt
  | .ex c fs st => KEx Λ W c fs st E
  | .no => False
section
variable {Λ : Lk} {W W' : Wd} {E : XK}
theorem PostO.mono {o : O} {D : Ends} (h : W.Le W') (p : PostO Λ W o D E) : PostO Λ W' o D E := by
  cases o with
  | nxt σd st => exact fun W2 σ H le => p W2 σ H (h.trans le)
  | brk σd st => exact fun W2 σ H le => p W2 σ H (h.trans le)
  | cnt σd st => exact fun W2 σ H le => p W2 σ H (h.trans le)
  | ret d st => exact fun W2 v H le => p W2 v H (h.trans le)
  | ex c fs st => exact fun W2 H cls od le => p W2 H cls od (h.trans le)
  | no => exact p
theorem PostO.bind {α β : Type} {rel : Wd → β → α → Prop} {r : R α} {f : α → Sto → O} {D : Ends} {Q : β → Hp → Prop} (p : PostO Λ W (toO r f) D E)
    (hQ : ∀ W1 a st1 v H1, W.Le W1 → Sim Λ W1 st1 H1 → rel W1 v a → PostO Λ W1 (f a st1) D E → Q v H1) : Post Λ rel W r Q E := by
  cases r with
  | ok d st => exact fun W1 v H1 le s k => hQ W1 d st v H1 le s k (PostO.mono le p)
  | ex c fs st => exact p
  | no => exact p
end
section
variable (Λ : Lk) (E : XK)
/-- what a statement does -/
def sS (g : Sl → Sto → O) : TS := fun D σ H => ∃ W st σd, Sim Λ W st H ∧ SlotR Λ W σ σd ∧ PostO Λ W (g σd st) D E
end
section
variable {Λ : Lk} {T : Tab} {cd : Cd} {k : Nat} {fa : Nat → Addr} {ps : Nat → List Str} {X : Cx} {E : XK} {W : Wd} {st : Sto} {H : Hp}
variable {ga gb gc : Sl → Sto → R D} {pos : Pos} {g1 g2 : Sl → Sto → O}
theorem PS.alt {s : Stmt} {t t' : TS} (h : PS X s t) (w : ∀ D σ H, t' D σ H → t D σ H) : PS X s t' := ⟨fun pins s σ H D I q => h.run pins s σ H D I (w D σ H q)⟩
theorem PSs.alt {s : List Stmt} {t t' : TS} (h : PSs X s t) (w : ∀ D σ H, t' D σ H → t D σ H) : PSs X s t' := ⟨fun pins s σ H D I q => h.run pins s σ H D I (w D σ H q)⟩
theorem sE.thenO {σ : L2.St} {W : Wd} {st : Sto} {σd : Sl} {f : D → Sto → O} {D : Ends} {Q : VK} (S : Sim Λ W st H) (sl : SlotR Λ W σ σd) (p : PostO Λ W (toO (ga σd st) f) D E)
    (h : ∀ W1 a st1 v H1, Sim Λ W1 st1 H1 → SlotR Λ W1 σ σd → Rel Λ W1 v a → PostO Λ W1 (f a st1) D E → W.Le W1 → Q v H1) : sE Λ E ga σ H Q :=
  ⟨W, st, σd, S, sl, p.bind fun W1 a st1 v H1 le S1 r q => h W1 a st1 v H1 S1 (sl.mono le) r q le⟩
theorem asg_T {gt : D → Sl → Sto → R Sl} {D : Ends} {σ : L2.St} {H : Hp} (h : sS Λ E (fun σ st => toO (ga σ st) fun d st1 => toO (gt d σ st1) fun σ1 st2 => .nxt σ1 st2) D σ H) : tAsg (sE Λ E ga) (sG Λ E gt) D σ H := by
  obtain ⟨W, st, σd, S, sl, p⟩ := h
  refine sE.thenO S sl p fun W1 a st1 v H1 S1 sl1 r1 p1 le1 => ?_
  exact ⟨W1, st1, σd, a, S1, sl1, r1, p1.bind fun W2 σ2d st2 σ2 H2 le2 S2 sl2 q => q W2 σ2 H2 (Wd.Le.refl _) S2 sl2⟩
theorem ss_asg {tg e : Expr} {gt : D → Sl → Sto → R Sl} (he : PE X e (sE Λ E ga)) (hg : PG X tg (sG Λ E gt)) (h1 : swapsWithSole [tg] e pos.line X.env = pure false) (h2 : swappedStores [tg] e X.env = pure none) (h3 : (assignEach [tg] X.env).map (·.2) = [assign tg X.env]) :
    PS X (.Assign [tg] e pos) (sS Λ E fun σ st => toO (ga σ st) fun d st1 => toO (gt d σ st1) fun σ1 st2 => .nxt σ1 st2) :=
  PS.alt (ps_asg he hg h1 h2 h3) fun D σ H => asg_T
theorem ss_expr {e : Expr} (he : PE X e (sE Λ E ga)) (hps : PS X (.Expr e pos) (tDrop (sE Λ E ga))) : PS X (.Expr e pos) (sS Λ E fun σ st => toO (ga σ st) fun _ st1 => .nxt σ st1) := by
  refine PS.alt hps fun D σ H h => ?_
  obtain ⟨W, st, σd, S, sl, p⟩ := h
  exact sE.thenO S sl p fun W1 a st1 v H1 S1 sl1 r1 p1 le1 => p1 W1 σ H1 (Wd.Le.refl _) S1 sl1
theorem ss_ret {e : Expr} (hps : PS X (.Return (some e) pos) (tRet (sE Λ E ga))) : PS X (.Return (some e) pos) (sS Λ E fun σ st => toO (ga σ st) fun d st1 => .ret d st1) := by
  refine PS.alt hps fun D σ H h => ?_
  obtain ⟨W, st, σd, S, sl, p⟩ := h
  exact sE.thenO S sl p fun W1 a st1 v H1 S1 sl1 r1 p1 le1 => KOk.here p1 S1 r1
theorem ss_retN (hps : PS X (.Return none pos) tRetN) : PS X (.Return none pos) (sS Λ E fun _ st => .ret .non st) := by
  refine PS.alt hps fun Dd σ H h => ?_
  obtain ⟨W, st, σd, S, sl, p⟩ := h
  have p2 : KOk Λ (Rel Λ) W D.non st Dd.rt := p
  exact p2.here S .non
theorem ss_pass {s : Stmt} (hps : PS X s tNext) : PS X s (sS Λ E fun σ st => .nxt σ st) := by
  refine PS.alt hps fun D σ H h => ?_
  obtain ⟨W, st, σd, S, sl, p⟩ := h
  exact p W σ H (Wd.Le.refl _) S sl
theorem ss_brk : PS X (.Break pos) (sS Λ E fun σ st => .brk σ st) := by
  refine PS.alt ps_break fun D σ H h => ?_
  obtain ⟨W, st, σd, S, sl, p⟩ := h
  exact p W σ H (Wd.Le.refl _) S sl
theorem ss_cnt : PS X (.Continue pos) (sS Λ E fun σ st => .cnt σ st) := by
  refine PS.alt ps_continue fun D σ H h => ?_
  obtain ⟨W, st, σd, S, sl, p⟩ := h
  exact p W σ H (Wd.Le.refl _) S sl
theorem ss_never {s : Stmt} : PS X s (sS Λ E fun _ _ => .no) := by
  refine PS.alt ps_never fun D σ H h => ?_
  obtain ⟨W, st, σd, S, sl, p⟩ := h
  exact p
theorem ss_if {c : Expr} {a b : List Stmt} {gt : Sl → Sto → R Bool} (hc : PT X c (sT Λ E gt)) (ha : PSs X a (sS Λ E g1)) (hb : PSs X b (sS Λ E g2)) : PS X (.If c a b pos) (sS Λ E fun σ st => toO (gt σ st) fun k st1 => if k = true then g1 σ st1 else g2 σ st1) := by
  refine PS.alt (ps_if hc ha hb) fun D σ H h => ?_
  obtain ⟨W, st, σd, S, sl, p⟩ := h
  refine ⟨W, st, σd, S, sl, p.bind fun W1 a st1 v H1 le S1 r q => ?_⟩
  cases r
  have sl1 := sl.mono le
  cases a
  · exact ⟨W1, st1, σd, S1, sl1, q⟩
  · exact ⟨W1, st1, σd, S1, sl1, q⟩
theorem sss_nil : PSs X [] (sS Λ E fun σ st => .nxt σ st) := by
  refine PSs.alt pss_nil fun D σ H h => ?_
  obtain ⟨W, st, σd, S, sl, p⟩ := h
  exact p W σ H (Wd.Le.refl _) S sl
theorem sss_cons {s : Stmt} {rest : List Stmt} (h : PS X s (sS Λ E g1)) (hr : PSs X rest (sS Λ E g2)) : PSs X (s :: rest) (sS Λ E fun σ st => (g1 σ st).then_ fun σ1 st1 => g2 σ1 st1) := by
  refine PSs.alt (pss_cons h hr) fun D σ H h => ?_
  obtain ⟨W, st, σd, S, sl, p⟩ := h
  refine ⟨W, st, σd, S, sl, ?_⟩
  dsimp only at p
  cases hg : g1 σd st with
  | nxt σ1 st1 =>
    rw [hg] at p
    replace p : PostO Λ W (g2 σ1 st1) D E := p
    exact fun W' σ' H' le S' sl' => ⟨W', st1, σ1, S', sl', PostO.mono le p⟩
  | ret d st1 => rw [hg] at p; exact p
  | brk σ1 st1 => rw [hg] at p; exact p
  | cnt σ1 st1 => rw [hg] at p; exact p
  | ex c fs st1 => rw [hg] at p; exact p
  | no => rw [hg] at p; exact p
theorem ss_while {c : Expr} {body : List Stmt} {gt : Sl → Sto → R Bool} (hp : PassesOwn (model X.prog X.w) X.A X.env X.xe) (hc : PT X c (sT Λ E gt)) (hb : PSs X body (sS Λ E g1)) (n : Nat) : PS X (.While c body [] pos) (sS Λ E fun σ st => whlD gt g1 n σ st) := by
  refine PS.alt (ps_while hp hc hb) fun D σ H h => ?_
  obtain ⟨W, st, σd, S, sl, p⟩ := h
  refine ⟨fun m σ' H' => ∃ W' st' σd', Sim Λ W' st' H' ∧ SlotR Λ W' σ' σd' ∧ PostO Λ W' (whlD gt g1 m σd' st') D E, ⟨n, W, st, σd, S, sl, p⟩, fun m σ' H' h => ?_⟩
  obtain ⟨W1, st1, σd1, S1, sl1, p1⟩ := h
  cases m with
  | zero => exact p1.elim
  | succ m =>
    refine ⟨W1, st1, σd1, S1, sl1, PostO.bind (rel := same) p1 fun W2 b st2 v H2 le2 S2 e2 p2 => ?_⟩
    cases e2
    have sl2 := sl1.mono le2
    cases b
    · exact p2 W2 σ' H2 (Wd.Le.refl _) S2 sl2
    · refine ⟨fun σ3 H3 => ∃ W' st' σd', Sim Λ W' st' H3 ∧ SlotR Λ W' σ3 σd' ∧ PostO Λ W' (whlD gt g1 m σd' st') D E, fun σ3 H3 h => ⟨m, Nat.lt_succ_self _, h⟩, W2, st2, σd1, S2, sl2, ?_⟩
      simp only [if_true] at p2
      cases hg : g1 σd1 st2 with
      | nxt σ4 st4 => rw [hg] at p2; exact fun W' σ' H' le S' sl' => ⟨W', st4, σ4, S', sl', PostO.mono le p2⟩
      | cnt σ4 st4 => rw [hg] at p2; exact fun W' σ' H' le S' sl' => ⟨W', st4, σ4, S', sl', PostO.mono le p2⟩
      | brk σ4 st4 => rw [hg] at p2; exact p2
      | ret d st4 => rw [hg] at p2; exact p2
      | ex c fs st4 => rw [hg] at p2; exact p2
      | no => rw [hg] at p2; exact p2
theorem ss_for (e : Ev Λ T cd k fa ps X E) {tg iter : Expr} {body : List Stmt} {gi : Sl → Sto → R (List D × (Sto → Prop))} {gt : D → Sl → Sto → R Sl} (hp : PassesOwn (model X.prog X.w) X.A X.env X.xe) (hi : PI X tg iter (sI Λ E gi)) (hg : PG X tg (sG Λ E gt)) (hb : PSs X body (sS Λ E g1)) (hf : ∀ x : Value, foldedSetIterable iter X.env x = pure x) :
    PS X (.For tg iter body [] pos) (sS Λ E fun σ st => toO (gi σ st) fun w st1 => forD w.2 gt g1 w.1 σ st1) := by
  refine PS.alt (ps_for hp e.calm hi hg hb hf) fun D σ H h => ?_
  obtain ⟨W, st, σd, S, sl, p⟩ := h
  refine ⟨W, st, σd, S, sl, p.bind fun W1 w st1 J H1 le1 S1 wk p1 => ?_⟩
  have sl1 := sl.mono le1
  let Inn : List Mir.D → L2.St → Hp → Prop := fun rest σ' H' => ∃ W' st' σd', W1.Le W' ∧ Sim Λ W' st' H' ∧ SlotR Λ W' σ' σd' ∧ PostO Λ W' (forD w.2 gt g1 rest σd' st') D E
  refine ⟨fun i m σ' H' => m = w.1.length - i ∧ i ≤ w.1.length ∧ Inn (w.1.drop i) σ' H', ⟨_, rfl, Nat.zero_le _, W1, st1, σd, Wd.Le.refl _, S1, sl1, p1⟩, fun i m σ' H' hW => ?_⟩
  obtain ⟨rfl, hle, Wi, sti, σi, li, Si, sli, pi⟩ := hW
  cases hd : w.1.drop i with
  | nil =>
    have hi : i = w.1.length := by
      have := List.drop_eq_nil_iff.mp hd
      omega
    subst hi
    rw [hd] at pi
    simp only [forD] at pi
    split at pi
    · rename_i hok
      exact .inl ⟨wk.stop Wi _ H' li.toLe0 Si hok, pi Wi σ' H' (Wd.Le.refl _) Si sli⟩
    · exact pi.elim
  | cons d r =>
    have hlt : i < w.1.length := by
      apply Decidable.byContradiction
      intro z
      rw [List.drop_eq_nil_iff.mpr (by omega)] at hd
      cases hd
    have hget : w.1[i]? = some d := by
      have := List.getElem?_drop (xs := w.1) (i := i) (j := 0)
      rw [hd] at this
      simpa using this.symm
    have hr1 : w.1.drop (i + 1) = r := by
      rw [← List.drop_drop, hd]
      rfl
    rw [hd] at pi
    simp only [forD] at pi
    split at pi
    · rename_i hok
      refine .inr ⟨wk.go i Wi sti H' hlt li.toLe0 Si hok, Inn r, fun σ2 H2 hn => ⟨w.1.length - (i + 1), by omega, rfl, by omega, by rw [hr1]; exact hn⟩, fun x H2 hy => ?_⟩
      obtain ⟨W2, l2, S2, rx⟩ := wk.yld i d Wi sti H' x H2 hget li.toLe0 Si hok hy
      have l12 := li.trans l2
      refine ⟨W2, sti, σi, d, S2, sli.mono l2, rx, (PostO.mono l2 pi).bind fun W3 σ3d st3 σ3 H3 l3 S3 sl3 p3 => ?_⟩
      refine ⟨W3, st3, σ3d, S3, sl3, ?_⟩
      have l13 := l12.trans l3
      cases hgg : g1 σ3d st3 with
      | nxt σ4 st4 => rw [hgg] at p3; exact fun W' σ' H' le S' sl' => ⟨W', st4, σ4, l13.trans le, S', sl', PostO.mono le p3⟩
      | cnt σ4 st4 => rw [hgg] at p3; exact fun W' σ' H' le S' sl' => ⟨W', st4, σ4, l13.trans le, S', sl', PostO.mono le p3⟩
      | brk σ4 st4 => rw [hgg] at p3; exact p3
      | ret d st4 => rw [hgg] at p3; exact p3
      | ex c fs st4 => rw [hgg] at p3; exact p3
      | no => rw [hgg] at p3; exact p3
    · exact pi.elim

theorem ss_fld (e : Ev Λ T cd k fa ps X E) {f : Nat} {x : Str} (hx : Λ.nm f = some x) {o value : Expr} {pos' : Pos} (ho : PE X o (sE Λ E ga)) (hv : PE X value (sE Λ E gb)) (hs : swapsWith value (some (.Attribute o x pos')) pos.line X.env = pure false) :
    PS X (.Assign [.Attribute o x pos'] value pos) (sS Λ E fun σ st => toO (gb σ st) fun d st1 => toO ((ga σ st1).bind fun x st2 => (match setAt T.fld st2 x f d with
      | some st3 => .ok σ st3
      | none => .no)) fun σ1 st3 => .nxt σ1 st3) := by
  refine PS.alt (ps_fld ho hv hs) fun D σ H h => ?_
  obtain ⟨W, st, σd, S, sl, p⟩ := h
  refine sE.thenO (ga := gb) S sl p fun W1 d st1 v H1 S1 sl1 r1 p1 le1 => ?_
  have p2 : PostO Λ W1 (toO (ga σd st1) fun x st2 => toO (match setAt T.fld st2 x f d with
      | some st3 => .ok σd st3
      | none => .no : R Sl) fun σ1 st3 => .nxt σ1 st3) D E := by
    cases hga : ga σd st1 with
    | ok a st2 => rw [hga] at p1; exact p1
    | ex c fs st2 => rw [hga] at p1; exact p1
    | no => rw [hga] at p1; exact p1
  refine sE.thenO S1 sl1 p2 fun W2 a st2 u H2 S2 sl2 r2 p3 le2 => ?_
  cases hs3 : setAt T.fld st2 a f d with
  | none =>
    rw [hs3] at p3
    exact p3.elim
  | some st3 =>
    rw [hs3] at p3
    replace p3 : PostO Λ W2 (.nxt σd st3) D E := p3
    unfold setAt at hs3
    split at hs3
    · rename_i n
      split at hs3
      · rename_i c fs hc
        obtain ⟨⟨hf, hl⟩, rfl⟩ := guardO_some hs3
        cases r2 with
        | mref hn ha =>
          obtain ⟨a0, dx, vs, e1, e2, e3, rl⟩ := S2.cell _ _ hc
          rw [ha] at e1
          cases e1
          have ck := e.bk.ck _ (e.bk.fl _ _ hf)
          refine ⟨_, Λ.ca c, dx, vs, rfl, e3, e.hK ▸ ck.cls, by rw [e.hK]; exact ck.noat f x hx hf, by rw [rl.len]; exact hl, ?_⟩
          exact p3 W2 σ _ (Wd.Le.refl _) (S2.write hc ha ⟨_, dx, putF x v vs, ha, e2, upd_same, rl.put hx (r1.mono le2)⟩) sl2
      · cases hs3
    · cases hs3
theorem parts2 {as : Sl → Sto → R (List D)} {i j : Nat} {Dd : Ends} {σ : L2.St} {H : Hp} (h : sS Λ E (fun σ st => toO (as σ st) fun ds st1 => (match parD [i, j] ds σ with
      | some σ1 => .nxt σ1 st1
      | none => .no)) Dd σ H) : tPar i j (sA Λ E as) Dd σ H := by
  obtain ⟨W, st, σd, S, sl, p⟩ := h
  refine ⟨W, st, σd, S, sl, p.bind fun W1 ds st1 vs H1 le1 S1 r1 p1 => ?_⟩
  have sl1 := sl.mono le1
  match ds, r1, p1 with
  | [], _, p1 => exact p1.elim
  | [a], _, p1 => exact p1.elim
  | [a, b], .cons ra (.cons rb .nil), p1 => exact ⟨_, _, rfl, p1 W1 _ H1 (Wd.Le.refl _) S1 ((sl1.set ra i).set rb j)⟩
  | a :: b :: c :: r, _, p1 => exact p1.elim
theorem parts3 {as : Sl → Sto → R (List D)} {i j l : Nat} {Dd : Ends} {σ : L2.St} {H : Hp} (h : sS Λ E (fun σ st => toO (as σ st) fun ds st1 => (match parD [i, j, l] ds σ with
      | some σ1 => .nxt σ1 st1
      | none => .no)) Dd σ H) : tPar3 i j l (sA Λ E as) Dd σ H := by
  obtain ⟨W, st, σd, S, sl, p⟩ := h
  refine ⟨W, st, σd, S, sl, p.bind fun W1 ds st1 vs H1 le1 S1 r1 p1 => ?_⟩
  have sl1 := sl.mono le1
  match ds, r1, p1 with
  | [], _, p1 => exact p1.elim
  | [a], _, p1 => exact p1.elim
  | [a, b], _, p1 => exact p1.elim
  | [a, b, c], .cons ra (.cons rb (.cons rc .nil)), p1 => exact ⟨_, _, _, rfl, p1 W1 _ H1 (Wd.Le.refl _) S1 (((sl1.set ra i).set rb j).set rc l)⟩
  | a :: b :: c :: d :: r, _, p1 => exact p1.elim
end
end Mir

set_option Elab.async false
set_option linter.all false
set_option maxRecDepth 100000
/-! Mir8: defs. -/
namespace Mir
open PySem L2
/-- a def keeps its promise when its body does -/
theorem fnG_of {P : Program} {w : World} {K : PySem.W.Frag} {mg : Str → Option Value} {base : Heap} {k : Nat} {f : Addr} {name qual : Str} {params : Arguments} {body : List Stmt} {scope : Scope} {dV kV doc pm cdv ct oc : Value} {an od : Option Addr} {osl : Array (Option Value)} {N ps : List Str} {sp : Sp}
    (lk : K.lookup f = some ⟨oc, od, .func (PySem.W.fnOf name qual params body scope dV kV doc pm an cdv ct), osl⟩) (hcd : PySem.W.codeIn K cdv qual = true) (S : FnScope N ps scope)
    (hbody : ∀ (A : Around) (outer : List Env) (s : Shared) (H : Hp) (vs : List V) (Q : VK) (E : XK), Good k (A.deeper (PyProof.Rows.envOfC qual scope s.heap.objs.size f cdv)) → vs.length = ps.length → sp vs H Q E →
      ∃ t, PSs (cxOf (L2.CX P w) P w K mg base N qual scope f cdv A outer s H E) body t ∧ t { nx := fun _ H' => Q .non H', rt := Q } (L2.start N vs) H) :
    FnG P w K mg base (k + 1) f (PySem.W.fnOf name qual params body scope dV kV doc pm an cdv ct) ps sp := by
  refine ⟨fun A outer s H args us vs Q E hg e0 hb hl r hsp => ?_⟩
  have KX := PySem.W.Frag.In.keeps e0.mod.kin fun b o e => (e0.bs b o e).1
  have lim := Heap.NoLimit.keeps e0.mod.nolimit fun b o e => (e0.bs b o e).1
  have hkind : ∀ y ∈ ps.zip us, scope.names.lookup y.1 = some .local ∨ (scope.names.lookup y.1 = some .cell ∧ ((cellsFrom (s.heap.objs.size + 1) scope.names []).lookup y.1).isSome = true) := by
    intro y hy
    rcases S.par y.1 (List.of_mem_zip (b := y.2) hy).1 with q | q
    · exact .inl q
    · exact .inr ⟨q, PySem.W.cellsFrom_some scope.names (s.heap.objs.size + 1) [] (.inl q)⟩
  refine codeAny_call_function hg.room.depth (KX f _ lk) rfl S.co S.gen rfl (PySem.W.codeRec_of KX hcd) (hb (model P w) A.in1 _ _ (wpAny_newFunctionEnv_cells S.kind hkind fun env he s1 x => ?_))
  subst he
  refine ⟨Heap.NoLimit.keeps lim x.toInCall.keep, codeAny_func ?_⟩
  obtain ⟨t, ht, hq⟩ := hbody A outer s H vs Q E (hg.deeper _) hl hsp
  have I := inv_start (CX := L2.CX P w) (E := E) S hg.room.hd e0 hl r x
  refine wpAny_mono (ht.run [] s1 (L2.start N vs) H { nx := fun _ H' => Q .non H', rt := Q } I hq) (fun fl s' hs => ?_) fun e s' hs => hs
  cases fl with
  | next =>
    obtain ⟨σ', H', J, q⟩ := hs
    exact ⟨.non, H', J.os, J.bare, J.base, J.hok, rfl, q⟩
  | brk =>
    obtain ⟨_, _, _, q⟩ := hs
    exact q.elim
  | cont =>
    obtain ⟨_, _, _, q⟩ := hs
    exact q.elim
  | ret u =>
    obtain ⟨v, σ', H', J, rv, q⟩ := hs
    exact ⟨v, H', J.os, J.bare, J.base, J.hok, rv, q⟩

section
variable {Λ : Lk} {T : Tab} {W : Wd} {E : XK} {H : Hp} {st st1 : Sto}
theorem start_R {N : List Str} {m : Nat} {vs : List V} {ds : List D} (hm : N.length = m) (r : RelL Λ W vs ds) : SlotR Λ W (L2.start N vs) (startD m ds) := by
  subst hm
  refine ⟨by unfold L2.start startD; rw [List.length_append, List.length_append, List.length_map, List.length_map, List.length_replicate, List.length_replicate, r.len], fun i d h => ?_⟩
  unfold startD at h
  unfold L2.start
  by_cases c : i < ds.length
  · rw [List.getElem?_append_left (by rw [List.length_map]; exact c), List.getElem?_map] at h
    obtain ⟨d', h1, h2⟩ := Option.map_eq_some_iff.mp h
    cases h2
    obtain ⟨v, h3, h4⟩ := r.get h1
    refine ⟨v, ?_, h4⟩
    rw [List.getElem?_append_left (by rw [List.length_map, r.len]; exact c), List.getElem?_map, h3]
    rfl
  · rw [List.getElem?_append_right (by rw [List.length_map]; omega)] at h
    rw [List.getElem?_replicate] at h
    split at h <;> cases h
theorem trim_K {α β : Type} {rel : Wd → β → α → Prop} {ok : Bool} {a : α} {Q : β → Hp → Prop} (S0 : Sim Λ W st H) (hr : ∀ W' v, ok = true → rel W' v a → rel (W'.cutAt st.length) v a) (p : Post Λ rel W (trim st ok a st1) Q E) : KOk Λ rel W a st1 Q := by
  intro W' v H' le S' r
  unfold trim at p
  split at p
  · exact p W' v H' le S' r
  · split at p
    · rename_i h
      exact p _ v H' (Wd.le_cut le (by rw [S0.len]; omega)) (S0.cut S' h.2.1 h.2.2) (hr _ _ h.1 r)
    · exact p.elim
theorem trim_X {c : Nat} {fs : List (Nat × D)} {Q : VK} (S0 : Sim Λ W st H) (p : Post Λ (Rel Λ) W (trimX st c fs st1) Q E) : KEx Λ W c fs st1 E := by
  intro W' H' cls od le S' r
  unfold trimX at p
  split at p
  · exact p W' H' cls od le S' r
  · split at p
    · rename_i h
      refine p _ H' cls od (Wd.le_cut le (by rw [S0.len]; omega)) (S0.cut S' h.2.1 h.2.2) ⟨r.1, ?_⟩
      rcases r.2 with q | ⟨d, vs, q1, q2, q3⟩
      · exact .inl q
      · exact .inr ⟨d, vs, q1, q2, q3.cut h.1⟩
    · exact p.elim
/-- a call's promise is its body's -/
theorem body_P {j f : Nat} {fn : Fn} {N : List Str} {vs : List V} {Q : VK} (hf : T.fn f = some fn) (hm : N.length = fn.m) (h : spD Λ (run T (j + 1) f) vs H Q E) :
    sS Λ E (exSs T (run T j) fn.body) { nx := fun _ H' => Q .non H', rt := Q } (L2.start N vs) H := by
  obtain ⟨W, st, ds, S, rl, p⟩ := h
  refine ⟨W, st, startD fn.m ds, S, start_R hm rl, ?_⟩
  simp only [run, hf] at p
  split at p
  · cases ho : exSs T (run T j) fn.body (startD fn.m ds) st with
    | ret d st1 =>
      rw [ho] at p
      simp only at p
      split at p
      · exact p
      · exact trim_K S (fun W' v hb r => r.cut hb) p
    | nxt σ st1 =>
      rw [ho] at p
      have q : KOk Λ (Rel Λ) W .non st1 Q := trim_K S (fun W' v hb r => by cases r; exact .non) p
      exact fun W' σ' H' le S' _ => q W' .non H' le S' .non
    | ex c fs st1 =>
      rw [ho] at p
      exact trim_X S p
    | brk σ st1 => rw [ho] at p; exact p.elim
    | cnt σ st1 => rw [ho] at p; exact p.elim
    | no => rw [ho] at p; exact p.elim
  · exact p.elim
end
end Mir

set_option Elab.async false
set_option linter.all false
set_option maxRecDepth 100000
/-! Mir8b: numbers with a sign in texts; a static method called through its class. -/
namespace Mir
open PySem L2 PyProof.Rows
/-- a number with its sign -/
def plusText (i : Int) : Str := if 0 ≤ i then (⟨#[43]⟩ : Str) ++ (toString i : Str) else (toString i : Str)
def dg (i : Int) : List Nat := (Nat.toDigits 10 i.natAbs).map Char.toNat
theorem text_int (i : Int) : Str.ofString (toString i) = ⟨(if i < 0 then 45 :: dg i else dg i).toArray⟩ := by
  cases i with
  | ofNat m =>
    have h : ¬ Int.ofNat m < 0 := by show ¬ ((m : Int) < 0); omega
    rw [if_neg h, text_ofNat]
    rfl
  | negSucc m =>
    rw [if_pos (Int.negSucc_lt_zero m), Str.ofString_eq_toList]
    congr 2
    show List.map Char.toNat ("-" ++ Nat.repr (m + 1)).toList = _
    rw [String.toList_append, List.map_append]
    unfold Nat.repr
    simp only [String.toList_ofList]
    rfl
def plusRaw (i : Int) : Str := ⟨(if i < 0 then 45 :: dg i else 43 :: dg i).toArray⟩
theorem plusRaw_eq (i : Int) : plusRaw i = plusText i := by
  unfold plusRaw plusText
  show _ = if 0 ≤ i then (⟨#[43]⟩ : Str) ++ Str.ofString (toString i) else Str.ofString (toString i)
  rw [text_int]
  by_cases h : i < 0
  · rw [if_pos h, if_neg (by omega), if_pos h]
  · rw [if_neg h, if_pos (by omega), if_neg h]
    refine Str.ext' ?_
    rw [Str.cps_append]
    simp
def fPlus : Builtin.Float.FormatSpec := { align := 62, sign := some 43, type := some 100 }
theorem fPlus_ok : Builtin.Float.parseFormatSpec (PySem.Str.cps "+d").toList "int" 62 = .ok fPlus := by kernel_rfl
theorem dg_ne (a : Int) : (dg a).isEmpty = false := by
  unfold dg
  have := tDigits_len_ge 10 a.natAbs
  cases h : Nat.toDigits 10 a.natAbs with
  | nil => rw [h] at this; simp at this
  | cons _ _ => rfl
theorem field_plus (a : Int) : intField' fPlus (decide (a < 0)) [] (dg a) [] 3 = plusRaw a := by
  unfold intField' plusRaw fPlus
  have hd := dg_ne a
  by_cases c : a < 0
  · rw [decide_eq_true c, if_pos c]
    simp [hd]
  · rw [decide_eq_false c, if_neg c]
    simp [hd]
theorem plus_fits {a : Int} (h : a.natAbs.log2 < 1920) : (plusRaw a).length ≤ sizeLine := by
  have := int_text_len_1921 h
  rw [text_int] at this
  unfold plusRaw
  have e : sizeLine = 16777216 := rfl
  simp only [PySem.Str.length] at this ⊢
  split <;> rename_i c
  · rw [if_pos c] at this
    omega
  · rw [if_neg c] at this
    simp at this ⊢
    omega
set_option pp.maxSteps 100000
theorem gives_plus (a : Int) (t u : Tok) (h : a.natAbs.log2 < 1920) : Gives (Builtin.«int.__format__» ⟨[.int a t, .str "+d" u], []⟩) (.str (plusRaw a)) := by
  intro prog w A R s hq
  unfold Builtin.«int.__format__»
  simp only [selfAndOne, noKeywords, Builtin.Int.intOfSelf, asInt?, asStr?, List.isEmpty_nil, if_true, pure_bind, bind_pure, bind_assoc, show (Value.str "+d" u == Value.none) = false from rfl, Bool.false_eq_true, if_false]
  refine wpAny_bind (wpAny_typeNameOf (T := "str") (typeIs_str _ _ _) (by decide) fun _ => ?_)
  rw [if_neg (by decide), if_neg (by decide)]
  refine wpAny_bind (wpAny_typeNameOfCut_int ?_)
  rw [fPlus_ok]
  dsimp only [fPlus, Option.getD]
  rw [if_pos (by decide)]
  show wpAny (model prog w) A.in1 (Builtin.overDigitLimit? a >>= _) _ _ _
  rw [PySem.overDigitLimit_small h]
  refine wpAny_bind (wpAny_pure ?_)
  show wpAny (model prog w) A.in1 (retStr (intField' fPlus (decide (a < 0)) [] (dg a) [] 3)) _ _ _
  rw [field_plus]
  unfold retStr
  refine wpAny_bind (wpAny_mkStr (wpAny_pure ?_) (plus_fits h))
  exact hq.2
section
variable {Λ : Lk} {T : Tab} {cd : Cd} {k : Nat} {fa : Nat → Addr} {ps : Nat → List Str} {X : Cx} {E : XK} {ga : Sl → Sto → R D}
theorem se_fplus {a : Expr} {j : Nat} {p1 p2 pos : Pos} (ha : PE X a (sE Λ E ga)) : PE X (.FormattedValue a (-1) (some (.JoinedStr [.Constant (.str "+d") j p1] p2)) pos) (sE Λ E fun σ st => (ga σ st).bind fun x st1 => (match x with
      | .int i => if i.natAbs.log2 < 1900 then .ok (.str (if 0 ≤ i then (⟨#[43]⟩ : Str) ++ (toString i : Str) else (toString i : Str))) st1 else .no
      | _ => .no)) := by
  refine ⟨fun pins s σ H Q I h => wpAny_FormattedValue_spec ?_⟩
  obtain ⟨W, st, σd, S, sl, p⟩ := h
  have h1 : sE Λ E ga σ H (fun v H1 => ∃ i : Int, v = .int i ∧ i.natAbs.log2 < 1900 ∧ Q (.str (plusText i)) H1) := by
    refine sE.then_ S sl p fun W1 d st1 v H1 S1 sl1 r1 p1 le1 => ?_
    split at p1
    · cases r1
      split at p1
      · rename_i hi
        exact ⟨_, rfl, hi, KOk.here p1 S1 (.str _)⟩
      · exact p1.elim
    · exact p1.elim
  refine thn (ha.run pins s σ H _ I h1) fun v s1 hv => ?_
  obtain ⟨x, H1, I1, rx, i, rfl, hi, q⟩ := hv
  obtain ⟨t, rfl⟩ := rx
  refine thn ((pe_joined1 (pos := p2) (pe_str (X := X) (x := "+d") (j := j) (pos := p1))).run pins s1 σ H1 (fun y H2 => y = .str "+d" ∧ Q (.str (plusText i)) H2) I1 ⟨rfl, q⟩) fun r s2 hr => ?_
  obtain ⟨y, H2, I2, ry, rfl, q2⟩ := hr
  obtain ⟨t2, rfl⟩ := ry
  refine ⟨_, _, rfl, wpAny_formatField_spec (by decide) (fun s' => PySem.typeIs_int s' i t) F.slot_int_format F.entry_int_format F.args_int_format_2 (fun u => gives_plus i t u (by omega)) ?_ (by decide) (plus_fits (by omega))⟩
  rw [plusRaw_eq]
  exact ⟨.str (plusText i), H2, I2.tok _, ⟨_, rfl⟩, q2⟩

/-- the def at g is a static method of the class at C -/
def StatOf (K : PySem.W.Frag) (C : Addr) (x : Str) (g : Addr) : Prop := ∃ mc p rest, PySem.W.specialIn K (.ref C) "__getattribute__" = some (some (.builtin "type.__getattribute__")) ∧ PySem.W.readsIn K C mc = true ∧
  PySem.W.findCls K (.ref C) mc x = some (.get (.builtin "staticmethod.__get__") (.ref p) .none (.ref C)) ∧ PySem.W.recIn K p "staticmethod" = some (.ref g :: rest) ∧ PySem.W.keepIn K (.ref g) = true
theorem se_stat (e : Ev Λ T cd k fa ps X E) {f i : Nat} {C : Addr} {x n : Str} {p apos pos : Pos} {es : List Expr} {kws : List Keyword} {gs gk : Sl → Sto → R (List D)} {pl : Sem Bool} (A : Args2 Λ X E es kws (Λ.sh i).1 (Λ.sh i).2.length gs gk) (hk : kwNames kws = (Λ.sh i).2) (hg : Gl X n) (hm : X.mg n = some (.ref C)) (hdb : (n == "__debug__") = false) (hs : StatOf X.K C x (fa f))
    (he : eval (.Call (.Attribute (.Name n p) x apos) es kws pos) X.env = (do
        let ov ← eval (.Name n p) X.env
        standAt (Pos.atName apos)
        let __x ← holding [ov] (getMethod ov x pl)
        match __x with
          | (f, first) => callWith pos f first (backTo pos (starEach es X.env)) (backToKw pos (keywordEach kws X.env)))) :
    PE X (.Call (.Attribute (.Name n p) x apos) es kws pos) (sE Λ E fun σ st => (gs σ st).bind fun ds st1 => (gk σ st1).bind fun ks st2 => callD T cd f (ds ++ ks) i st2) := by
  refine ⟨fun pins s σ H Q I h => PySem.W.methodCall_KW ?_ he⟩
  refine thn ((pe_glob (pos := p) (v := .ref C) hg hm rfl hdb).run pins s σ H (fun v H1 => v = .ref C ∧ H1 = H) I ⟨rfl, rfl⟩) fun u s1 ⟨v, H1, I1, rv, ev, eH⟩ => ?_
  subst ev eH
  obtain rfl : u = Value.ref C := rv
  obtain ⟨mc, pr, rest, c1, c2, c3, c4, c5⟩ := hs
  refine PySem.W.method_cls I1.kIn c1 (PySem.W.cls_bind I1.kIn c2 c3 (wpAny_call (PySem.W.sm_get (s := { s1 with toks := s1.toks + 1 }) I1.kIn c4 (PySem.W.handed_on rfl ?_))))
  obtain ⟨W, st, σd, S, sl, p⟩ := h
  refine args_kw (f := fun l st => callD T cd f l i st) (first := []) e c5 A.star A.named A.pos A.kw A.lp A.lk (I1.tok _) S sl p A.emp fun W2 s2 H2 us ws vs zs ds ks st2 le2 I2 rv rz lu lw S2 r2 r3 p2 => ?_
  rw [hk]
  exact wpAny_call (codeAny_mono (callAt e e.g0 (fun s H I => I.env0) I2 rv rz lu lw S2 (r2.append r3) p2) fun r s' hq => by
    cases r with
    | error e => exact hq
    | ok fl => cases fl <;> exact hq)
end
end Mir

set_option Elab.async false
set_option linter.all false
set_option maxRecDepth 100000
/-! Mir9: from the program's own terms to Mir's. -/
namespace Mir
open PySem L2
inductive GK where
  | fn (i : Nat) | cls (c : Nat) | val (g : Nat) | kit
structure Tc where
  N : List Str
  nk : List (Str × NameKind)
  gl : List (Str × GK)
  nm : List (Str × Nat)
  sh : List ((Nat × List Str) × Nat)
  opn : Pos → Bool
  has : Nat → Bool
  /-- static methods: the class, the name, the def -/
  stat : List ((Nat × Str) × Nat)
def seen : Option NameKind → Bool
  | some .local => true
  | some .cell => true
  | some .free => true
  | _ => false
def trName (c : Tc) (x : Str) : Option E :=
  if (x == "__debug__") || (x == "__classdict__") then none
  else if seen (c.nk.lookup x) then (c.N.idxOf? x).map .var
  else if c.nk.lookup x == some .globalImplicit then (match c.gl.lookup x with
    | some (.val g) => some (.glob g)
    | _ => none)
  else none
def trConst : Const → Option E
  | .int i => some (.lit (.int i))
  | .str s => some (.lit (.str s))
  | .bool b => some (.lit (.bl b))
  | .none => some (.lit .non)
  | _ => none
def trL (f : Expr → Option E) : List Expr → Option (List E)
  | [] => some []
  | e :: r => match f e, trL f r with
    | some a, some b => some (a :: b)
    | _, _ => none
def trO (f : Expr → Option E) : Option Expr → Option (Option E)
  | none => some none
  | some e => (f e).map some
/-- not what super() looks like -/
def plainBase : Expr → Bool
  | .Call (.Name _ _) [] [] _ => false
  | _ => true
def notSlice : Expr → Bool
  | .Slice _ _ _ _ => false
  | _ => true
/-- how it is tested -/
def plainTest : Expr → Bool
  | .BoolOp _ _ _ => false
  | .UnaryOp .Not _ _ => false
  | .Compare _ _ _ _ => false
  | .IfExp _ _ _ _ => false
  | _ => true
theorem look_mem {β : Type} : ∀ {l : List (Str × β)} {x : Str} {b : β}, l.lookup x = some b → (x, b) ∈ l
  | [], _, _, h => by cases h
  | (y, c) :: l, x, b, h => by
    rw [List.lookup_cons] at h
    by_cases q : x = y
    · subst q
      simp at h
      subst h
      exact List.mem_cons_self
    · have q2 : (x == y) = false := by simpa using q
      rw [q2] at h
      exact List.mem_cons_of_mem _ (look_mem h)
def biT : List (Str × Bi) := [("len", .len), ("abs", .abs), ("max", .max), ("min", .min), ("int", .int), ("str", .str), ("bool", .bool), ("repr", .repr), ("divmod", .divmod), ("tuple", .tuple), ("list", .list), ("sum", .sum), ("any", .any), ("all", .all)]
def AllB : List (Str × Bi) → Prop
  | [] => True
  | p :: r => (bootBuiltins p.1 = some (biF p.2) ∧ p.1 ≠ "__name__" ∧ (p.1 == "__debug__") = false) ∧ AllB r
theorem AllB.mem : ∀ {l : List (Str × Bi)} {p : Str × Bi}, AllB l → p ∈ l → bootBuiltins p.1 = some (biF p.2) ∧ p.1 ≠ "__name__" ∧ (p.1 == "__debug__") = false
  | q :: l, p, h, hm => by
    rcases List.mem_cons.mp hm with z | z
    · subst z; exact h.1
    · exact AllB.mem h.2 z
theorem biT_ok : AllB biT := by
  unfold biT
  refine ⟨⟨rfl, by decide, by decide⟩, ⟨rfl, by decide, by decide⟩, ⟨rfl, by decide, by decide⟩, ⟨rfl, by decide, by decide⟩, ⟨rfl, by decide, by decide⟩, ⟨rfl, by decide, by decide⟩, ⟨rfl, by decide, by decide⟩, ⟨rfl, by decide, by decide⟩, ⟨rfl, by decide, by decide⟩, ⟨rfl, by decide, by decide⟩, ⟨rfl, by decide, by decide⟩, ⟨rfl, by decide, by decide⟩, ⟨rfl, by decide, by decide⟩, ⟨rfl, by decide, by decide⟩, trivial⟩
def tyT : List (Str × (Ty × String)) := [("int", .int, "int"), ("bool", .bool, "bool"), ("str", .str, "str"), ("tuple", .tuple, "tuple"), ("list", .list, "list")]
def AllT (Λ : Lk) : List (Str × (Ty × String)) → Prop
  | [] => True
  | p :: r => (bootBuiltins p.1 = some (.type p.2.2) ∧ p.1 ≠ "__name__" ∧ (p.1 == "__debug__") = false ∧ tyW Λ p.2.1 = .ty p.2.2 ∧ ∀ c, p.2.1 ≠ .own c) ∧ AllT Λ r
theorem AllT.mem {Λ : Lk} : ∀ {l : List (Str × (Ty × String))} {p : Str × (Ty × String)}, AllT Λ l → p ∈ l → bootBuiltins p.1 = some (.type p.2.2) ∧ p.1 ≠ "__name__" ∧ (p.1 == "__debug__") = false ∧ tyW Λ p.2.1 = .ty p.2.2 ∧ ∀ c, p.2.1 ≠ .own c
  | q :: l, p, h, hm => by
    rcases List.mem_cons.mp hm with z | z
    · subst z; exact h.1
    · exact AllT.mem h.2 z
theorem tyT_ok (Λ : Lk) : AllT Λ tyT := by
  unfold tyT
  have n : ∀ (c : Nat), Ty.int ≠ .own c ∧ Ty.bool ≠ .own c ∧ Ty.str ≠ .own c ∧ Ty.tuple ≠ .own c ∧ Ty.list ≠ .own c := fun c => ⟨nofun, nofun, nofun, nofun, nofun⟩
  exact ⟨⟨rfl, by decide, by decide, rfl, fun c => (n c).1⟩, ⟨rfl, by decide, by decide, rfl, fun c => (n c).2.1⟩, ⟨rfl, by decide, by decide, rfl, fun c => (n c).2.2.1⟩, ⟨rfl, by decide, by decide, rfl, fun c => (n c).2.2.2.1⟩, ⟨rfl, by decide, by decide, rfl, fun c => (n c).2.2.2.2⟩, trivial⟩
def notStar2 (es : List Expr) (ks : List Keyword) : Bool := es.all notStar && ks.all (·.arg.isSome)
def trK (f : Expr → Option E) : List Keyword → Option (List E)
  | [] => some []
  | k :: r => match f k.value, trK f r with
    | some a, some b => some (a :: b)
    | _, _ => none
def trArgs (c : Tc) (f : Expr → Option E) (n : Nat) (es : List Expr) (ks : List Keyword) : Option (Nat × List E × List E) :=
  if notStar2 es ks then (match c.sh.lookup (n, kwNames ks), trL f es, trK f ks with
    | some sh, some a, some b => some (sh, a, b)
    | _, _, _ => none) else none
def trIsi (c : Tc) (f : Expr → Option E) (a : Expr) (t : Str) : Option E :=
  if notStar a && (c.nk.lookup t == some .globalImplicit) && (t == "__debug__") == false then (match f a, c.gl.lookup t with
    | some a', some .kit => (tyT.lookup t).map fun p => .isi a' p.1
    | some a', some (.cls i) => some (.isi a' (.own i))
    | _, _ => none) else none
def trCall (c : Tc) (f : Expr → Option E) (x : Str) (es : List Expr) (ks : List Keyword) : Option E :=
  if (c.nk.lookup x == some .globalImplicit) && (x == "__debug__") == false then (match c.gl.lookup x with
    | some (.fn i) => (trArgs c f es.length es ks).map fun p => .call i (p.2.1 ++ p.2.2) p.1
    | some (.cls i) => (trArgs c f (es.length + 1) es ks).map fun p => .make i (p.2.1 ++ p.2.2) p.1
    | some .kit => (match es, ks with
      | [a, .Name t _], [] => if x = "isinstance" then trIsi c f a t else (match biT.lookup x, trL f es with
        | some b, some l => if es.all notStar then some (.bi b l) else none
        | _, _ => none)
      | _ :: _, [] => (match biT.lookup x, trL f es with
        | some b, some l => if es.all notStar then some (.bi b l) else none
        | _, _ => none)
      | _, _ => none)
    | _ => none) else none
def sm0 : List (Str × Nat) := [("isascii", mIsascii), ("isdigit", mIsdigit)]
def sm1 : List (Str × Nat) := [("startswith", mStartswith), ("endswith", mEndswith), ("rfind", mRfind)]
def trMeth (c : Tc) (f : Expr → Option E) (o : Expr) (x : Str) (ap p : Pos) (es : List Expr) (ks : List Keyword) : Option E :=
  if plainBase o && (ap.endLine == p.line) && decide (es.length + ks.length + 1 < 30) then (match f o with
    | some o' => (match sm0.lookup x, sm1.lookup x, es, ks with
      | some m, _, [], [] => some (.smeth o' m [])
      | _, some m, [a], [] => if notStar a then (f a).map fun a' => .smeth o' m [a'] else none
      | none, none, es, ks => if x = "append" then (match es, ks with
          | [a], [] => if notStar a then (f a).map fun a' => .app o' a' else none
          | _, _ => none)
        else (match c.nm.lookup x, trArgs c f (es.length + 1) es ks with
          | some m, some q => some (.meth o' m (q.2.1 ++ q.2.2) q.1)
          | _, _ => none)
      | _, _, _, _ => none)
    | none => none) else none
def trStat (c : Tc) (f : Expr → Option E) (C x : Str) (ap p : Pos) (es : List Expr) (ks : List Keyword) : Option E :=
  if (ap.endLine == p.line) && decide (es.length + ks.length + 1 < 30) && (c.nk.lookup C == some .globalImplicit) && (C == "__debug__") == false then (match c.gl.lookup C with
    | some (.cls i) => (match c.stat.lookup (i, x) with
      | some g => (trArgs c f es.length es ks).map fun q => .call g (q.2.1 ++ q.2.2) q.1
      | none => none)
    | _ => none) else none
def isKit (c : Tc) (x : Str) : Bool := (c.nk.lookup x == some .globalImplicit) && (match c.gl.lookup x with
  | some .kit => true
  | _ => false)
def isRange (c : Tc) : Expr → Option (List Expr)
  | .Call (.Name x _) es [] _ => if (x == "range") && isKit c x then some es else none
  | _ => none
def notSet : Expr → Bool
  | .Set _ _ _ => false
  | _ => true
def trI (f : Expr → Option E) (c : Tc) (e : Expr) : Option It := match isRange c e with
  | some [a] => if notStar a then (f a).map .rng1 else none
  | some [a, b] => if notStar a && notStar b then (match f a, f b with
    | some a', some b' => some (.rng2 a' b')
    | _, _ => none) else none
  | some _ => none
  | none => if notSet e then (f e).map .val else none
def trGs (f : Expr → Option Tg) : List Expr → Option (List Tg)
  | [] => some []
  | e :: r => match f e, trGs f r with
    | some a, some b => some (a :: b)
    | _, _ => none
def trG (f : Expr → Option E) : Nat → Tc → Expr → Option Tg
  | 0, _, _ => none
  | n + 1, c, e => match e with
    | .Name x _ => if c.nk.lookup x = some .local then (c.N.idxOf? x).map .name else none
    | .Tuple es _ _ => if es.all notStar then (trGs (trG f n c) es).map .tup else none
    | .Subscript o i _ => if notSlice i then (match f o, f i with
      | some o', some i' => some (.idx o' i')
      | _, _ => none) else none
    | _ => none
mutual
def tgN : Tg → List Nat
  | .name i => [i]
  | .tup ts => tgNs ts
  | .idx _ _ => []
  | .attr _ _ => []
def tgNs : List Tg → List Nat
  | [] => []
  | t :: r => tgN t ++ tgNs r
end
def ownOf (N : List Str) (l : List (Str × NameKind)) : List (Str × Nat) := l.filterMap fun y => if y.2 = .local ∨ y.2 = .cell then (N.idxOf? y.1).map fun i => (y.1, i) else none
def blkOk (c : Tc) (scope : Scope) : Bool :=
  (scope.kind == .function) && (scope.names.all fun y => scope.names.lookup y.1 == some y.2) &&
  (scope.names.all fun y => !(y.2 == .free) || c.nk.lookup y.1 == some .cell || c.nk.lookup y.1 == some .free)
def trE : Nat → Tc → Expr → Option E
  | 0, _, _ => none
  | n + 1, c, e => match e with
    | .Name x _ => trName c x
    | .Constant k _ _ => trConst k
    | .Tuple es _ _ => if es.all notStar then (trL (trE n c) es).map .tup else none
    | .List es p => if es.all notStar then (trL (trE n c) es).map (if c.opn p then .lstO else .lstF) else none
    | .BinOp a op b _ => (match trE n c a, trE n c b with
      | some a', some b' => some (.bin op a' b')
      | _, _ => none)
    | .UnaryOp .USub a _ => (trE n c a).map .neg
    | .UnaryOp .Not a _ => (trE n c a).map .notE
    | .BoolOp .And (a :: r) _ => (trL (trE n c) (a :: r)).map .andE
    | .BoolOp .Or (a :: r) _ => (trL (trE n c) (a :: r)).map .orE
    | .Compare a [op] [b] _ => if behindInMarks op b then none else (match trE n c a, trE n c b with
      | some a', some b' => some (.cmp op a' b')
      | _, _ => none)
    | .Compare a [o1, o2] [b, d] _ => if lastMarks [o1, o2] [b, d] then none else (match trE n c a, trE n c b, trE n c d with
      | some a', some b', some d' => some (.cmp2 o1 o2 a' b' d')
      | _, _, _ => none)
    | .IfExp t a b _ => (match trE n c t, trE n c a, trE n c b with
      | some t', some a', some b' => some (.ife t' a' b')
      | _, _, _ => none)
    | .Subscript a (.Slice lo hi none _) _ => (match trE n c a, trO (trE n c) lo, trO (trE n c) hi with
      | some a', some l', some h' => some (.slc a' l' h')
      | _, _, _ => none)
    | .Subscript a b _ => if notSlice b then (match trE n c a, trE n c b with
      | some a', some b' => some (.idx a' b')
      | _, _ => none) else none
    | .Attribute a x _ => if plainBase a then (match trE n c a, c.nm.lookup x with
      | some a', some f => some (.attr a' f)
      | _, _ => none) else none
    | .FormattedValue a (-1) none _ => (trE n c a).map .fplain
    | .FormattedValue a (-1) (some (.JoinedStr [.Constant (.str z) _ _] _)) _ => if z = "+d" then (trE n c a).map .fplus else none
    | .JoinedStr (a :: b :: r) _ => (trL (trE n c) (a :: b :: r)).map .fstr
    | .ListComp elt [⟨tg, it, [], 0⟩] scope _ => if blkOk c scope then (match trI (trE n c) c it, trG (trE n { c with nk := scope.names }) n { c with nk := scope.names } tg, trE n { c with nk := scope.names } elt with
      | some i, some t, some e' => if (tgN t).all (fun j => ((ownOf c.N scope.names).map (·.2)).contains j) then some (.comp ((ownOf c.N scope.names).map (·.2)) t i [] e') else none
      | _, _, _ => none) else none
    | .ListComp elt [⟨tg, it, [cd], 0⟩] scope _ => if blkOk c scope then (match trI (trE n c) c it, trG (trE n { c with nk := scope.names }) n { c with nk := scope.names } tg, trE n { c with nk := scope.names } cd, trE n { c with nk := scope.names } elt with
      | some i, some t, some q, some e' => if (tgN t).all (fun j => ((ownOf c.N scope.names).map (·.2)).contains j) then some (.comp ((ownOf c.N scope.names).map (·.2)) t i [q] e') else none
      | _, _, _, _ => none) else none
    | .Call (.Name x _) es ks _ => trCall c (trE n c) x es ks
    | .Call (.Attribute (.Name C cp) x ap) es ks p => (match trStat c (trE n c) C x ap p es ks with
      | some e' => some e'
      | none => trMeth c (trE n c) (.Name C cp) x ap p es ks)
    | .Call (.Attribute o x ap) es ks p => trMeth c (trE n c) o x ap p es ks
    | _ => none

section
/-- the tables say what is so -/
structure Tok (Λ : Lk) (T : Tab) (fa : Nat → Addr) (c : Tc) (X : Cx) : Prop where
  N : X.N = c.N
  nd : c.N.Nodup
  loc : ∀ x, c.nk.lookup x = some .local → X.env.scope.names.lookup x = some .local
  cell : ∀ x, c.nk.lookup x = some .cell → X.env.scope.names.lookup x = some .cell
  free : ∀ x, c.nk.lookup x = some .free → X.env.scope.names.lookup x = some .cell ∨ X.env.scope.names.lookup x = some .free
  glb : ∀ x, c.nk.lookup x = some .globalImplicit → Gl X x
  gfn : ∀ x i, c.gl.lookup x = some (.fn i) → X.mg x = some (.ref (fa i)) ∧ PySem.W.keepIn X.K (.ref (fa i)) = true
  gcls : ∀ x i, c.gl.lookup x = some (.cls i) → T.has i = true ∧ X.mg x = some (.ref (Λ.ca i)) ∧ PySem.W.keepIn X.K (.ref (Λ.ca i)) = true
  gval : ∀ x g, c.gl.lookup x = some (.val g) → ∃ u v d, X.mg x = some u ∧ RelV v u ∧ T.gl g = some d ∧ ∀ W st H, Sim Λ W st H → Rel Λ W v d
  gkit : ∀ x, c.gl.lookup x = some .kit → X.mg x = none
  nmk : ∀ x f, c.nm.lookup x = some f → Λ.nm f = some x
  shk : ∀ np ks i, c.sh.lookup (np, ks) = some i → Λ.sh i = (np, ks)
  has : ∀ i, c.has i = T.has i
  gstat : ∀ i x g, c.stat.lookup (i, x) = some g → StatOf X.K (Λ.ca i) x (fa g)
  blk : X.env.blockKind = .function
variable {Λ : Lk} {T : Tab} {cd : Cd} {k : Nat} {fa : Nat → Addr} {ps : Nat → List Str} {X : Cx} {Ek : XK} {c : Tc}
theorem Tok.vis (h : Tok Λ T fa c X) {x : Str} (s : seen (c.nk.lookup x) = true) : Vis X.env.scope x := by
  cases q : c.nk.lookup x with
  | none => rw [q] at s; cases s
  | some kd =>
    rw [q] at s
    cases kd with
    | «local» => exact .inl (h.loc x q)
    | cell => exact .inr (.inl (h.cell x q))
    | free => exact .inr (h.free x q)
    | globalExplicit => cases s
    | globalImplicit => cases s
theorem idxOf_get : ∀ {l : List Str} {x : Str} {i : Nat}, l.idxOf? x = some i → l[i]? = some x := by
  intro l x i h
  unfold List.idxOf? at h
  obtain ⟨h1, h2, _⟩ := List.findIdx?_eq_some_iff_getElem.mp h
  rw [List.getElem?_eq_getElem h1]
  exact congrArg some (eq_of_beq h2)
theorem evE_var (i : Nat) : evE T cd (.var i) = fun σ st => match σ[i]? with
    | some (some d) => .ok d st
    | _ => .no := by
  funext σ st
  simp only [evE]
  all_goals (rcases σ[i]? with _ | _ | d <;> rfl)
theorem tr_name (tk : Tok Λ T fa c X) {x : Str} {pos : Pos} {e' : E} (h : trName c x = some e') : PE X (.Name x pos) (sE Λ Ek (evE T cd e')) := by
  unfold trName at h
  split at h
  · cases h
  · rename_i hd
    simp only [Bool.or_eq_true, not_or, Bool.not_eq_true] at hd
    split at h
    · rename_i hs
      obtain ⟨i, hi, rfl⟩ := Option.map_eq_some_iff.mp h
      rw [evE_var]
      exact se_var (by rw [tk.N]; exact idxOf_get hi) (tk.vis hs) hd.1 hd.2
    · split at h
      · rename_i hg
        split at h
        · rename_i g hgl
          cases h
          obtain ⟨u, v, d, h1, h2, h3, h4⟩ := tk.gval x g hgl
          have : evE T cd (.glob g) = fun _ st => .ok d st := by
            funext σ st
            simp only [evE, h3, opt_some]
          rw [this]
          exact se_tC (pe_glob (tk.glb x (eq_of_beq hg)) h1 h2 hd.1) h4
        · cases h
      · cases h
theorem tr_const {k' : Const} {j : Nat} {pos : Pos} {e' : E} (h : trConst k' = some e') : PE X (.Constant k' j pos) (sE Λ Ek (evE T cd e')) := by
  have lit : ∀ d, evE T cd (.lit d) = fun _ st => .ok d st := fun d => by
    funext σ st
    simp only [evE]
  unfold trConst at h
  split at h <;> first | (cases h; done) | (cases h; rw [lit]; first | exact se_tC pe_int fun _ _ _ _ => .int _ | exact se_tC pe_str fun _ _ _ _ => .str _ | exact se_tC pe_bl fun _ _ _ _ => .bl _ | exact se_tC pe_non fun _ _ _ _ => .non)
theorem tr_list {f : Expr → Option E} (hf : ∀ e e', f e = some e' → PE X e (sE Λ Ek (evE T cd e'))) : ∀ {es : List Expr} {l : List E}, es.all notStar = true → trL f es = some l → PA X es (sA Λ Ek (evEs T cd l))
  | [], l, _, h => by
    cases h
    have : evEs T cd [] = fun _ st => .ok [] st := by
      funext σ st
      simp only [evEs]
    rw [this]
    exact sa_nil
  | e :: es, l, hs, h => by
    simp only [trL] at h
    simp only [List.all_cons, Bool.and_eq_true] at hs
    split at h
    · rename_i a b h1 h2
      cases h
      have : evEs T cd (a :: b) = fun σ st => (evE T cd a σ st).bind fun d st1 => (evEs T cd b σ st1).bind fun ds st2 => .ok (d :: ds) st2 := by
        funext σ st
        simp only [evEs]
      rw [this]
      exact sa_cons (hf e a h1) (tr_list hf hs.2 h2) (star_cons hs.1)
    · cases h
theorem evEs_len : ∀ (l : List E), Lenn l.length (evEs T cd l)
  | [], σ, st, ds, st1, h => by
    simp only [evEs] at h
    cases h
    rfl
  | e :: l, σ, st, ds, st1, h => by
    simp only [evEs] at h
    obtain ⟨d, st2, h1, h2⟩ := R.bind_ok_inv h
    obtain ⟨ds2, st3, h3, h4⟩ := R.bind_ok_inv h2
    cases h4
    exact congrArg Nat.succ (evEs_len l σ st2 _ _ h3)

theorem tr_parts {f : Expr → Option E} (hf : ∀ e e', f e = some e' → PE X e (sE Λ Ek (evE T cd e'))) : ∀ {es : List Expr} {l : List E}, trL f es = some l → PJ X es ((l.map (evE T cd)).map (sE Λ Ek))
  | [], l, h => by
    cases h
    exact .nil
  | e :: es, l, h => by
    simp only [trL] at h
    split at h
    · rename_i a b h1 h2
      cases h
      exact .cons (hf e a h1) (tr_parts hf h2)
    · cases h
theorem evStr_parts : ∀ (l : List E) (acc : Str), evStr T cd l acc = evParts (l.map (evE T cd)) acc
  | [], acc => by
    funext σ st
    simp only [evStr, evParts, List.map]
  | e :: l, acc => by
    funext σ st
    simp only [evStr, evParts, List.map]
    congr 1
    funext d st1
    cases d <;> first | rfl | (simp only [evStr_parts l])
theorem base_of {a : Expr} {x : Str} {env : Env} {w : Sem Value} (h : plainBase a = true) : attributeBase a x env w = w := by
  unfold attributeBase
  split
  · cases h
  · rfl
theorem plainIx_of {b : Expr} (h : notSlice b = true) : PlainIx b := by
  intro o i
  unfold subscripted
  split <;> first | (cases h; done) | rfl | (rename_i q; cases q)
theorem tr_opt {f : Expr → Option E} (hf : ∀ e e', f e = some e' → PE X e (sE Λ Ek (evE T cd e'))) {o : Option Expr} {o' : Option E} (h : trO f o = some o') : PO X o (sO Λ Ek (evO T cd o')) := by
  cases o with
  | none =>
    cases h
    have : evO T cd none = fun _ st => .ok none st := by
      funext σ st
      simp only [evO]
    rw [this]
    exact so_none
  | some e =>
    obtain ⟨e', h1, rfl⟩ := Option.map_eq_some_iff.mp h
    have : evO T cd (some e') = fun σ st => (evE T cd e' σ st).bind fun d st1 => (match d with
      | .int i => .ok (some i) st1
      | _ => .no) := by
      funext σ st
      simp only [evO]
      all_goals congr 1
    rw [this]
    exact so_some (hf e e' h1)
theorem tr_and {f : Expr → Option E} (hf : ∀ e e', f e = some e' → PE X e (sE Λ Ek (evE T cd e'))) {pos : Pos} : ∀ {es : List Expr} {a : Expr} {l : List E}, trL f (a :: es) = some l → PE X (.BoolOp .And (a :: es) pos) (sE Λ Ek (evAnd T cd l))
  | [], a, l, h => by
    simp only [trL] at h
    split at h
    · rename_i a' b h1 h2
      cases h
      cases h2
      have : evAnd T cd [a'] = evE T cd a' := by
        funext σ st
        simp only [evAnd]
      rw [this]
      exact pe_one (hf a a' h1)
    · cases h
  | b :: es, a, l, h => by
    rw [trL] at h
    split at h
    · rename_i a' l' h1 h2
      cases h
      have ih := tr_and hf (pos := pos) h2
      have hl : ∃ b' r', l' = b' :: r' := by
        rw [trL] at h2
        split at h2
        · cases h2
          exact ⟨_, _, rfl⟩
        · cases h2
      obtain ⟨b', r', rfl⟩ := hl
      have : evAnd T cd (a' :: b' :: r') = fun σ st => (evE T cd a' σ st).bind fun d st1 => (match d with
      | .bl true => evAnd T cd (b' :: r') σ st1
      | .bl false => .ok (.bl false) st1
      | _ => .no) := by
        funext σ st
        rw [evAnd]
        all_goals congr 1
      rw [this]
      exact se_and (hf a a' h1) ih
    · cases h
theorem tr_or {f : Expr → Option E} (hf : ∀ e e', f e = some e' → PE X e (sE Λ Ek (evE T cd e'))) {pos : Pos} : ∀ {es : List Expr} {a : Expr} {l : List E}, trL f (a :: es) = some l → PE X (.BoolOp .Or (a :: es) pos) (sE Λ Ek (evOr T cd l))
  | [], a, l, h => by
    simp only [trL] at h
    split at h
    · rename_i a' b h1 h2
      cases h
      cases h2
      have : evOr T cd [a'] = evE T cd a' := by
        funext σ st
        simp only [evOr]
      rw [this]
      exact pe_one (hf a a' h1)
    · cases h
  | b :: es, a, l, h => by
    rw [trL] at h
    split at h
    · rename_i a' l' h1 h2
      cases h
      have ih := tr_or hf (pos := pos) h2
      have hl : ∃ b' r', l' = b' :: r' := by
        rw [trL] at h2
        split at h2
        · cases h2
          exact ⟨_, _, rfl⟩
        · cases h2
      obtain ⟨b', r', rfl⟩ := hl
      have : evOr T cd (a' :: b' :: r') = fun σ st => (evE T cd a' σ st).bind fun d st1 => (match d with
      | .bl false => evOr T cd (b' :: r') σ st1
      | .bl true => .ok (.bl true) st1
      | _ => .no) := by
        funext σ st
        rw [evOr]
        all_goals congr 1
      rw [this]
      exact se_or (hf a a' h1) ih
    · cases h

end
section
variable (T : Tab) (cd : Cd)
theorem evE_bin (op : Operator) (a b : E) : evE T cd (.bin op a b) = fun σ st => (evE T cd a σ st).bind fun x st1 => (evE T cd b σ st1).bind fun y st2 => binD T cd op x y st2 := by
  funext σ st
  simp only [evE]
theorem evE_neg (a : E) : evE T cd (.neg a) = fun σ st => (evE T cd a σ st).bind fun x st1 => negD T cd x st1 := by
  funext σ st
  simp only [evE]
theorem evE_not (a : E) : evE T cd (.notE a) = fun σ st => (evE T cd a σ st).bind fun x st1 => (match x with
      | .bl k => .ok (.bl (!k)) st1
      | _ => .no) := by
  funext σ st
  simp only [evE]
  all_goals congr 1
theorem evE_and (l : List E) : evE T cd (.andE l) = evAnd T cd l := by
  funext σ st
  simp only [evE]
theorem evE_or (l : List E) : evE T cd (.orE l) = evOr T cd l := by
  funext σ st
  simp only [evE]
theorem evE_cmp (op : CmpOp) (a b : E) : evE T cd (.cmp op a b) = fun σ st => (evE T cd a σ st).bind fun x st1 => (evE T cd b σ st1).bind fun y st2 => cmpV T cd op x y st2 := by
  funext σ st
  simp only [evE]
theorem evE_cmp2 (o1 o2 : CmpOp) (a b c : E) : evE T cd (.cmp2 o1 o2 a b c) = fun σ st => (evE T cd a σ st).bind fun x st1 => (evE T cd b σ st1).bind fun y st2 => (cmpV T cd o1 x y st2).bind fun r st3 => (match r with
      | .bl true => (evE T cd c σ st3).bind fun z st4 => cmpV T cd o2 y z st4
      | .bl false => .ok (.bl false) st3
      | _ => .no) := by
  funext σ st
  simp only [evE]
  all_goals congr 1
theorem evE_ife (c a b : E) : evE T cd (.ife c a b) = fun σ st => (evT T cd c σ st).bind fun k st1 => if k = true then evE T cd a σ st1 else evE T cd b σ st1 := by
  funext σ st
  simp only [evE]
theorem evE_slc (a : E) (lo hi : Option E) : evE T cd (.slc a lo hi) = fun σ st => (evE T cd a σ st).bind fun x st1 => (evO T cd lo σ st1).bind fun l st2 => (evO T cd hi σ st2).bind fun h st3 => opt (slcD st3 x l h) st3 := by
  funext σ st
  simp only [evE]
theorem evE_idx (a b : E) : evE T cd (.idx a b) = fun σ st => (evE T cd a σ st).bind fun x st1 => (evE T cd b σ st1).bind fun y st2 => opt (idxD st2 x y) st2 := by
  funext σ st
  simp only [evE]
theorem evE_attr (a : E) (f : Nat) : evE T cd (.attr a f) = fun σ st => (evE T cd a σ st).bind fun d st1 => attrD T cd d f st1 := by
  funext σ st
  simp only [evE]
theorem evE_fplain (a : E) : evE T cd (.fplain a) = fun σ st => (evE T cd a σ st).bind fun x st1 => (match x with
      | .str z => if z.length ≤ sz then .ok (.str z) st1 else .no
      | .int i => opt (strOfInt i) st1
      | _ => .no) := by
  funext σ st
  simp only [evE]
  all_goals congr 1
theorem evE_fstr (l : List E) : evE T cd (.fstr l) = evParts (l.map (evE T cd)) Str.empty := by
  funext σ st
  simp only [evE, evStr_parts]
end
section
variable {Λ : Lk} {T : Tab} {cd : Cd} {k : Nat} {fa : Nat → Addr} {ps : Nat → List Str} {X : Cx} {Ek : XK} {c : Tc}

/-- tests, of what is no test itself -/
def plainE : E → Bool
  | .andE _ => false
  | .orE _ => false
  | .notE _ => false
  | .cmp _ _ _ => false
  | .cmp2 _ _ _ _ _ => false
  | .ife _ _ _ => false
  | _ => true
theorem evT_plain {a : E} (h : plainE a = true) : evT T cd a = fun σ st => (evE T cd a σ st).bind fun d st1 => tstD T cd d st1 := by
  funext σ st
  cases a <;> first | (cases h; done) | simp only [evT]
theorem isTrue_plain {e : Expr} (h : plainTest e = true) (env : Env) : ∀ whole, PySem.isTrue e env whole = (do let v ← whole; standAt e.pos; holding [v] (truthy v)) := by
  intro whole
  cases e <;> first
    | (cases h; done)
    | (simp only [PySem.isTrue]; done)
    | (rename_i op _ _; cases op <;> first | (cases h; done) | simp only [PySem.isTrue])
theorem plain_call {f : Expr → Option E} {x : Str} {es : List Expr} {ks : List Keyword} {e' : E} (h : trCall c f x es ks = some e') : plainE e' = true := by
  unfold trCall at h
  split at h
  · split at h
    · obtain ⟨_, _, rfl⟩ := Option.map_eq_some_iff.mp h
      rfl
    · obtain ⟨_, _, rfl⟩ := Option.map_eq_some_iff.mp h
      rfl
    · split at h
      · split at h
        · unfold trIsi at h
          split at h
          · split at h
            · obtain ⟨_, _, rfl⟩ := Option.map_eq_some_iff.mp h
              rfl
            · cases h
              rfl
            · cases h
          · cases h
        · split at h
          · split at h <;> first | (cases h; rfl) | cases h
          · cases h
      · split at h
        · split at h <;> first | (cases h; rfl) | cases h
        · cases h
      · cases h
    · cases h
  · cases h
theorem plain_meth {f : Expr → Option E} {o : Expr} {x : Str} {ap p : Pos} {es : List Expr} {ks : List Keyword} {e' : E} (h : trMeth c f o x ap p es ks = some e') : plainE e' = true := by
  unfold trMeth at h
  split at h
  · split at h
    · split at h
      · cases h
        rfl
      · split at h
        · obtain ⟨_, _, rfl⟩ := Option.map_eq_some_iff.mp h
          rfl
        · cases h
      · split at h
        · split at h
          · split at h
            · obtain ⟨_, _, rfl⟩ := Option.map_eq_some_iff.mp h
              rfl
            · cases h
          · cases h
        · split at h
          · cases h
            rfl
          · cases h
      · cases h
    · cases h
  · cases h
theorem plain_stat {f : Expr → Option E} {C x : Str} {ap p : Pos} {es : List Expr} {ks : List Keyword} {e' : E} (h : trStat c f C x ap p es ks = some e') : plainE e' = true := by
  unfold trStat at h
  split at h
  · split at h
    · split at h
      · obtain ⟨_, _, rfl⟩ := Option.map_eq_some_iff.mp h
        rfl
      · cases h
    · cases h
  · cases h
/-- what a translation of something that is tested plainly looks like -/
theorem plain_of {n : Nat} {e : Expr} {e' : E} (hp : plainTest e = true) (h : trE n c e = some e') : plainE e' = true := by
  cases n with
  | zero => cases h
  | succ n =>
    unfold trE at h
    split at h
    · unfold trName at h
      split at h
      · cases h
      · split at h
        · obtain ⟨_, _, rfl⟩ := Option.map_eq_some_iff.mp h
          rfl
        · split at h
          · split at h <;> first | (cases h; rfl) | cases h
          · cases h
    · unfold trConst at h
      split at h <;> first | (cases h; rfl) | cases h
    · split at h
      · obtain ⟨_, _, rfl⟩ := Option.map_eq_some_iff.mp h
        rfl
      · cases h
    · split at h
      · obtain ⟨_, _, h2⟩ := Option.map_eq_some_iff.mp h
        split at h2 <;> (cases h2; rfl)
      · cases h
    · split at h <;> first | (cases h; rfl) | cases h
    · obtain ⟨_, _, rfl⟩ := Option.map_eq_some_iff.mp h
      rfl
    · cases hp
    · cases hp
    · cases hp
    · cases hp
    · cases hp
    · cases hp
    · split at h <;> first | (cases h; rfl) | cases h
    · split at h
      · split at h <;> first | (cases h; rfl) | cases h
      · cases h
    · split at h
      · split at h <;> first | (cases h; rfl) | cases h
      · cases h
    · obtain ⟨_, _, rfl⟩ := Option.map_eq_some_iff.mp h
      rfl
    · split at h
      · obtain ⟨_, _, rfl⟩ := Option.map_eq_some_iff.mp h
        rfl
      · cases h
    · obtain ⟨_, _, rfl⟩ := Option.map_eq_some_iff.mp h
      rfl
    · split at h
      · split at h
        · split at h <;> first | (cases h; rfl) | cases h
        · cases h
      · cases h
    · split at h
      · split at h
        · split at h <;> first | (cases h; rfl) | cases h
        · cases h
      · cases h
    · exact plain_call h
    · split at h
      · rename_i h1
        cases h
        exact plain_stat h1
      · exact plain_meth h
    · exact plain_meth h
    · cases h

theorem tw_and {f : Expr → Option E} (hf : ∀ e e', f e = some e' → PT X e (sT Λ Ek (evT T cd e'))) {pos : Pos} : ∀ {es : List Expr} {a : Expr} {l : List E}, trL f (a :: es) = some l → PW X (.BoolOp .And (a :: es) pos) (sT Λ Ek (evTA T cd l))
  | [], a, l, h => by
    simp only [trL] at h
    split at h
    · rename_i a' b h1 h2
      cases h
      cases h2
      have : evTA T cd [a'] = evT T cd a' := by
        funext σ st
        simp only [evTA]
      rw [this]
      exact pw_and1 (hf a a' h1)
    · cases h
  | b :: es, a, l, h => by
    rw [trL] at h
    split at h
    · rename_i a' l' h1 h2
      cases h
      have ih := tw_and hf (pos := pos) h2
      have hl : ∃ b' r', l' = b' :: r' := by
        rw [trL] at h2
        split at h2
        · cases h2
          exact ⟨_, _, rfl⟩
        · cases h2
      obtain ⟨b', r', rfl⟩ := hl
      have : evTA T cd (a' :: b' :: r') = fun σ st => (evT T cd a' σ st).bind fun k st1 => if k = true then evTA T cd (b' :: r') σ st1 else .ok false st1 := by
        funext σ st
        rw [evTA]
      rw [this]
      exact sw_and (hf a a' h1) ih
    · cases h
theorem tw_or {f : Expr → Option E} (hf : ∀ e e', f e = some e' → PT X e (sT Λ Ek (evT T cd e'))) {pos : Pos} : ∀ {es : List Expr} {a : Expr} {l : List E}, trL f (a :: es) = some l → PW X (.BoolOp .Or (a :: es) pos) (sT Λ Ek (evTO T cd l))
  | [], a, l, h => by
    simp only [trL] at h
    split at h
    · rename_i a' b h1 h2
      cases h
      cases h2
      have : evTO T cd [a'] = evT T cd a' := by
        funext σ st
        simp only [evTO]
      rw [this]
      exact pw_or1 (hf a a' h1)
    · cases h
  | b :: es, a, l, h => by
    rw [trL] at h
    split at h
    · rename_i a' l' h1 h2
      cases h
      have ih := tw_or hf (pos := pos) h2
      have hl : ∃ b' r', l' = b' :: r' := by
        rw [trL] at h2
        split at h2
        · cases h2
          exact ⟨_, _, rfl⟩
        · cases h2
      obtain ⟨b', r', rfl⟩ := hl
      have : evTO T cd (a' :: b' :: r') = fun σ st => (evT T cd a' σ st).bind fun k st1 => if k = true then .ok true st1 else evTO T cd (b' :: r') σ st1 := by
        funext σ st
        rw [evTO]
      rw [this]
      exact sw_or (hf a a' h1) ih
    · cases h
theorem evT_not (a : E) : evT T cd (.notE a) = fun σ st => (evT T cd a σ st).bind fun k st1 => .ok (!k) st1 := by
  funext σ st
  simp only [evT]
theorem evT_and (l : List E) : evT T cd (.andE l) = evTA T cd l := by
  funext σ st
  simp only [evT]
theorem evT_or (l : List E) : evT T cd (.orE l) = evTO T cd l := by
  funext σ st
  simp only [evT]
theorem evT_cmp (op : CmpOp) (a b : E) : evT T cd (.cmp op a b) = fun σ st => ((evE T cd a σ st).bind fun x st1 => (evE T cd b σ st1).bind fun y st2 => cmpV T cd op x y st2).bind blD := by
  funext σ st
  simp only [evT]
theorem evT_cmp2 (o1 o2 : CmpOp) (a b c : E) : evT T cd (.cmp2 o1 o2 a b c) = fun σ st => ((evE T cd a σ st).bind fun x st1 => (evE T cd b σ st1).bind fun y st2 => (cmpV T cd o1 x y st2).bind fun r st3 => (match r with
      | .bl true => (evE T cd c σ st3).bind fun z st4 => cmpV T cd o2 y z st4
      | .bl false => .ok (.bl false) st3
      | _ => .no)).bind blD := by
  funext σ st
  simp only [evT]
  all_goals congr 1
theorem evT_ife (c a b : E) : evT T cd (.ife c a b) = fun σ st => (evT T cd c σ st).bind fun k st1 => if k = true then evT T cd a σ st1 else evT T cd b σ st1 := by
  funext σ st
  simp only [evT]
theorem st_ife {c' a b : Expr} {pos : Pos} {gc ga gb : Sl → Sto → R Bool} (hc : PT X c' (sT Λ Ek gc)) (ha : PT X a (sT Λ Ek ga)) (hb : PT X b (sT Λ Ek gb)) : PT X (.IfExp c' a b pos) (sT Λ Ek fun σ st => (gc σ st).bind fun k st1 => if k = true then ga σ st1 else gb σ st1) := by
  refine ⟨fun pins s σ H Q I h => ?_⟩
  simp only [PySem.isTrue]
  obtain ⟨W, st, σd, S, sl, p⟩ := h
  have h1 : sT Λ Ek gc σ H (fun b H1 => if b = true then sT Λ Ek ga σ H1 Q else sT Λ Ek gb σ H1 Q) := by
    refine sT.then_ S sl p fun W1 a st1 H1 S1 sl1 p1 le1 => ?_
    cases a
    · exact ⟨W1, st1, σd, S1, sl1, p1⟩
    · exact ⟨W1, st1, σd, S1, sl1, p1⟩
  refine wpAny_bind (wpAny_mono (hc.run pins s σ H _ I h1) (fun b s1 z => ?_) fun _ _ z => z)
  obtain ⟨H1, I1, q⟩ := z
  cases b
  · exact wpAny_ite_false (by simp) (hb.run pins s1 σ H1 Q I1 q)
  · exact wpAny_ite_true (by simp) (ha.run pins s1 σ H1 Q I1 q)
theorem evEs_app : ∀ (l1 l2 : List E), evEs T cd (l1 ++ l2) = fun σ st => (evEs T cd l1 σ st).bind fun a st1 => (evEs T cd l2 σ st1).bind fun b st2 => .ok (a ++ b) st2
  | [], l2 => by
    funext σ st
    simp only [evEs, List.nil_append, R.bind_ok]
    cases evEs T cd l2 σ st <;> rfl
  | e :: l1, l2 => by
    funext σ st
    simp only [evEs, List.cons_append, evEs_app l1 l2, R.bind_assoc, R.bind_ok]
theorem tr_kw {f : Expr → Option E} (hf : ∀ e e', f e = some e' → PE X e (sE Λ Ek (evE T cd e'))) : ∀ {ks : List Keyword} {l : List E}, trK f ks = some l → PK X ks (sA Λ Ek (evEs T cd l))
  | [], l, h => by
    cases h
    have : evEs T cd [] = fun _ st => .ok [] st := by
      funext σ st
      simp only [evEs]
    rw [this]
    exact sk_nil
  | ⟨nm, v, p⟩ :: ks, l, h => by
    simp only [trK] at h
    split at h
    · rename_i a b h1 h2
      cases h
      have : evEs T cd (a :: b) = fun σ st => (evE T cd a σ st).bind fun d st1 => (evEs T cd b σ st1).bind fun ds st2 => .ok (d :: ds) st2 := by
        funext σ st
        simp only [evEs]
      rw [this]
      exact sk_cons (hf v a h1) (tr_kw hf h2)
    · cases h
theorem trL_len {f : Expr → Option E} : ∀ {es : List Expr} {l : List E}, trL f es = some l → l.length = es.length
  | [], l, h => by
    cases h
    rfl
  | e :: es, l, h => by
    simp only [trL] at h
    split at h
    · rename_i a b h1 h2
      cases h
      exact congrArg Nat.succ (trL_len h2)
    · cases h
theorem trK_len {f : Expr → Option E} : ∀ {ks : List Keyword} {l : List E}, ks.all (·.arg.isSome) = true → trK f ks = some l → l.length = (kwNames ks).length
  | [], l, _, h => by
    cases h
    rfl
  | ⟨nm, v, p⟩ :: ks, l, hs, h => by
    simp only [trK] at h
    simp only [List.all_cons, Bool.and_eq_true] at hs
    split at h
    · rename_i a b h1 h2
      cases h
      cases nm with
      | none => exact absurd hs.1 (by simp)
      | some nm => exact congrArg Nat.succ (trK_len hs.2 h2)
    · cases h
/-- arguments by shape -/
theorem args_of (tk : Tok Λ T fa c X) {f : Expr → Option E} (hf : ∀ e e', f e = some e' → PE X e (sE Λ Ek (evE T cd e'))) {n sh : Nat} {es : List Expr} {ks : List Keyword} {la lb : List E} (h : trArgs c f n es ks = some (sh, la, lb)) :
    Λ.sh sh = (n, kwNames ks) ∧ Args2 Λ X Ek es ks es.length (kwNames ks).length (evEs T cd la) (evEs T cd lb) := by
  unfold trArgs at h
  split at h
  · rename_i hs
    unfold notStar2 at hs
    simp only [Bool.and_eq_true] at hs
    split at h
    · rename_i sh' a b h1 h2 h3
      cases h
      refine ⟨tk.shk _ _ _ h1, hs.1, hs.2, tr_list hf hs.1 h2, tr_kw hf h3, ?_, ?_, fun he => ?_⟩
      · rw [← trL_len h2]
        exact evEs_len _
      · rw [← trK_len hs.2 h3]
        exact evEs_len _
      · subst he
        cases h2
        funext σ st
        simp only [evEs]
    · cases h
  · cases h
theorem evE_bi (b : Bi) (l : List E) : evE T cd (.bi b l) = fun σ st => (evEs T cd l σ st).bind fun ds st1 => biV T cd b ds st1 := by
  funext σ st
  simp only [evE]
theorem evE_isi (a : E) (t : Ty) : evE T cd (.isi a t) = fun σ st => (evE T cd a σ st).bind fun x st1 => opt ((isD T.has t x).map .bl) st1 := by
  funext σ st
  simp only [evE]
theorem evE_call (i sh : Nat) (la lb : List E) : evE T cd (.call i (la ++ lb) sh) = fun σ st => (evEs T cd la σ st).bind fun ds st1 => (evEs T cd lb σ st1).bind fun ks st2 => callD T cd i (ds ++ ks) sh st2 := by
  funext σ st
  simp only [evE, evEs_app, R.bind_assoc, R.bind_ok]
theorem evE_make (i sh : Nat) (la lb : List E) : evE T cd (.make i (la ++ lb) sh) = fun σ st => (evEs T cd la σ st).bind fun ds st1 => (evEs T cd lb σ st1).bind fun ks st2 => makeD T cd i (ds ++ ks) sh st2 := by
  funext σ st
  simp only [evE, evEs_app, R.bind_assoc, R.bind_ok]
theorem tr_bi (ev : Ev Λ T cd k fa ps X Ek) (tk : Tok Λ T fa c X) {f : Expr → Option E} (hf : ∀ e e', f e = some e' → PE X e (sE Λ Ek (evE T cd e'))) {x : Str} {a : Expr} {es : List Expr} {e' : E} {p1 p2 : Pos} (hg : Gl X x) (hm : X.mg x = none)
    (h : (match biT.lookup x, trL f (a :: es) with
        | some b, some l => if (a :: es).all notStar then some (E.bi b l) else none
        | _, _ => none) = some e') : PE X (.Call (.Name x p1) (a :: es) [] p2) (sE Λ Ek (evE T cd e')) := by
  split at h
  · rename_i b l h1 h2
    split at h
    · rename_i hs
      cases h
      obtain ⟨q1, q2, q3⟩ := AllB.mem biT_ok (look_mem h1)
      rw [evE_bi]
      exact se_bi ev b hg hm q1 hs (tr_list hf hs h2) q2 q3
    · cases h
  · cases h
theorem tr_call (ev : Ev Λ T cd k fa ps X Ek) (tk : Tok Λ T fa c X) {f : Expr → Option E} (hf : ∀ e e', f e = some e' → PE X e (sE Λ Ek (evE T cd e'))) {x : Str} {es : List Expr} {ks : List Keyword} {e' : E} {p1 p2 : Pos} (h : trCall c f x es ks = some e') : PE X (.Call (.Name x p1) es ks p2) (sE Λ Ek (evE T cd e')) := by
  unfold trCall at h
  split at h
  · rename_i hx
    simp only [Bool.and_eq_true, beq_iff_eq] at hx
    have hg : Gl X x := tk.glb x (by simpa using hx.1)
    have hdb : (x == "__debug__") = false := by simpa using hx.2
    split at h
    · rename_i i hi
      obtain ⟨⟨sh, la, lb⟩, h1, rfl⟩ := Option.map_eq_some_iff.mp h
      obtain ⟨hsh, A⟩ := args_of tk hf h1
      obtain ⟨g1, g2⟩ := tk.gfn x i hi
      rw [evE_call]
      have e1 : (Λ.sh sh).1 = es.length := by rw [hsh]
      have e2 : (Λ.sh sh).2 = kwNames ks := by rw [hsh]
      exact se_call ev (by rw [e1, e2]; exact A) e2.symm hg g1 g2 hdb
    · rename_i i hi
      obtain ⟨⟨sh, la, lb⟩, h1, rfl⟩ := Option.map_eq_some_iff.mp h
      obtain ⟨hsh, A⟩ := args_of tk hf h1
      obtain ⟨g0, g1, g2⟩ := tk.gcls x i hi
      rw [evE_make]
      have e1 : (Λ.sh sh).1 = es.length + 1 := by rw [hsh]
      have e2 : (Λ.sh sh).2 = kwNames ks := by rw [hsh]
      exact se_make ev g0 (by rw [e2]; exact A) e1.symm e2.symm hg g1 g2 hdb
    · rename_i hi
      have hm := tk.gkit x hi
      split at h
      · rename_i a t pt
        split at h
        · rename_i hx2
          subst hx2
          unfold trIsi at h
          split at h
          · rename_i hc
            simp only [Bool.and_eq_true] at hc
            have hgt : Gl X t := tk.glb t (by simpa using hc.1.2)
            have hdt : (t == "__debug__") = false := by simpa using hc.2
            split at h
            · rename_i a' h1 h2
              obtain ⟨⟨ty, nm⟩, h3, rfl⟩ := Option.map_eq_some_iff.mp h
              obtain ⟨q1, q2, q3, q4, q5⟩ := AllT.mem (tyT_ok Λ) (look_mem h3)
              rw [evE_isi]
              have ht : PE X (.Name t pt) (tC (tyW Λ ty)) := by
                rw [q4]
                exact pe_bltn hgt (tk.gkit t h2) q1 rfl q2 q3
              exact se_isi ev hg hm (hf a a' h1) ht (fun cc hcc => absurd hcc (q5 cc)) hc.1.1 rfl
            · rename_i a' i h1 h2
              cases h
              obtain ⟨g0, g1, g2⟩ := tk.gcls t i h2
              rw [evE_isi]
              have ht : PE X (.Name t pt) (tC (tyW Λ (.own i))) := pe_glob hgt g1 rfl hdt
              exact se_isi ev hg hm (hf a a' h1) ht (fun cc hcc => by cases hcc; exact g0) hc.1.1 rfl
            · cases h
          · cases h
        · exact tr_bi ev tk hf hg hm h
      · exact tr_bi ev tk hf hg hm h
      · cases h
    · cases h
  · cases h
theorem star_all {es : List Expr} {env : Env} {pos : Pos} (h : es.all notStar = true) : ((backTo pos (starEach es env)).all fun x => !x.1) = true := by
  induction es with
  | nil => rfl
  | cons e es ih =>
    simp only [List.all_cons, Bool.and_eq_true] at h
    rw [star_cons h.1]
    show (true && ((backTo pos (starEach es env)).all fun x => !x.1)) = true
    rw [ih h.2]
    rfl
theorem meth_eq {o : Expr} {x : Str} {ap p : Pos} {es : List Expr} {ks : List Keyword} {env : Env} (hb : plainBase o = true) (hs : es.all notStar = true) (hk : ks.all (·.arg.isSome) = true) (hp : (ap.endLine == p.line) = true) (hn : es.length + ks.length + 1 < 30) :
    eval (.Call (.Attribute o x ap) es ks p) env = (do
        let ov ← eval o env
        standAt (Pos.atName ap)
        let __x ← holding [ov] (getMethod ov x (do
          let l ← importBound o env
          pure (l.getD true)))
        match __x with
          | (f, first) => callWith p f first (backTo p (starEach es env)) (backToKw p (keywordEach ks env))) := by
  have hf : methodCallForm (es.length + ks.length) (backTo p (starEach es env)) (backToKw p (keywordEach ks env)) = true := by
    unfold methodCallForm
    rw [star_all hs, (kw_all hk).1]
    simp only [Bool.and_self, Bool.true_and, decide_eq_true_eq]
    split <;> omega
  simp only [eval, base_of hb, methodCall, hf, calleeOf, methodCallPos, hp, if_true, Bool.not_true, Bool.false_or]
  rfl
theorem evE_meth (o : E) (m sh : Nat) (la lb : List E) : evE T cd (.meth o m (la ++ lb) sh) = fun σ st => (evE T cd o σ st).bind fun a st0 => (opt (methF T a m) st0).bind fun f st => (evEs T cd la σ st).bind fun ds st1 => (evEs T cd lb σ st1).bind fun ks st2 => callD T cd f (a :: (ds ++ ks)) sh st2 := by
  funext σ st
  simp only [evE, evEs_app, R.bind_assoc, R.bind_ok]
theorem evE_app (o a : E) : evE T cd (.app o a) = fun σ st => (evE T cd o σ st).bind fun x st1 => (opt (mlstD st1 x) st1).bind fun n st2 => (evE T cd a σ st2).bind fun d st3 => appD st3 n d := by
  funext σ st
  simp only [evE]
theorem evE_smeth0 (o : E) (m : Nat) : evE T cd (.smeth o m []) = fun σ st => (evE T cd o σ st).bind fun x st1 => (opt (strD x) st1).bind fun z st2 => ((R.ok [] st2 : R (List D))).bind fun ds st3 => opt (mStr z m ds) st3 := by
  funext σ st
  simp only [evE, evEs]
theorem evE_smeth1 (o a : E) (m : Nat) : evE T cd (.smeth o m [a]) = fun σ st => (evE T cd o σ st).bind fun x st1 => (opt (strD x) st1).bind fun z st2 => ((evE T cd a σ st2).bind fun d st3 => (R.ok [] st3 : R (List D)).bind fun ds st4 => .ok (d :: ds) st4).bind fun ds st3 => opt (mStr z m ds) st3 := by
  funext σ st
  simp only [evE, evEs]
theorem sm0_ok {x : Str} {m : Nat} (h : sm0.lookup x = some m) {a : E} {o : Expr} {ap p : Pos} (ho : PE X o (sE Λ Ek (evE T cd a))) (hb : attributeBase o x X.env (eval o X.env) = eval o X.env) (hp : (ap.endLine == p.line) = true) : PE X (.Call (.Attribute o x ap) [] [] p) (sE Λ Ek (evE T cd (.smeth a m []))) := by
  rw [evE_smeth0]
  have hm := look_mem h
  simp only [sm0, List.mem_cons, Prod.mk.injEq, List.not_mem_nil, or_false] at hm
  rcases hm with ⟨rfl, rfl⟩ | ⟨rfl, rfl⟩
  · exact se_smeth0 (g := fun z => .bl (Txt.isascii z)) PySem.F.slot_str_isascii PySem.F.type_str_isascii mt_isascii (fun z => rfl) (fun W z => .bl _) ho hb hp
  · exact se_smeth0 (g := fun z => .bl (Txt.isdigit z)) PySem.F.slot_str_isdigit PySem.F.type_str_isdigit mt_isdigit (fun z => rfl) (fun W z => .bl _) ho hb hp
theorem sm1_ok {x : Str} {m : Nat} (h : sm1.lookup x = some m) {a b : E} {o e : Expr} {ap p : Pos} (ho : PE X o (sE Λ Ek (evE T cd a))) (he : PE X e (sE Λ Ek (evE T cd b))) (hs : notStar e = true) (hb : attributeBase o x X.env (eval o X.env) = eval o X.env) (hp : (ap.endLine == p.line) = true) : PE X (.Call (.Attribute o x ap) [e] [] p) (sE Λ Ek (evE T cd (.smeth a m [b]))) := by
  rw [evE_smeth1]
  have hm := look_mem h
  simp only [sm1, List.mem_cons, Prod.mk.injEq, List.not_mem_nil, or_false] at hm
  have inv : ∀ {ds : List D} {d : D} {g : Str → D}, (match ds with
    | [.str y] => some (g y)
    | _ => none) = some d → ∃ y, ds = [.str y] ∧ d = g y := by
    intro ds d g hq
    split at hq
    · cases hq
      exact ⟨_, rfl, rfl⟩
    · cases hq
  rcases hm with ⟨rfl, rfl⟩ | ⟨rfl, rfl⟩ | ⟨rfl, rfl⟩
  · exact se_smeth1 (g := fun z y => .bl (Txt.startswith z y)) PySem.F.slot_str_startswith PySem.F.type_str_startswith mt_startswith (fun z ds d q => inv q) (fun W z y => .bl _) ho he hs hb hp
  · exact se_smeth1 (g := fun z y => .bl (Txt.endswith z y)) PySem.F.slot_str_endswith PySem.F.type_str_endswith mt_endswith (fun z ds d q => inv q) (fun W z y => .bl _) ho he hs hb hp
  · exact se_smeth1 (g := fun z y => .int (Txt.rfind z y)) PySem.F.slot_str_rfind PySem.F.type_str_rfind mt_rfind (fun z ds d q => inv q) (fun W z y => .int _) ho he hs hb hp
theorem tr_meth (ev : Ev Λ T cd k fa ps X Ek) (tk : Tok Λ T fa c X) {f : Expr → Option E} (hf : ∀ e e', f e = some e' → PE X e (sE Λ Ek (evE T cd e'))) {o : Expr} {x : Str} {ap p : Pos} {es : List Expr} {ks : List Keyword} {e' : E} (h : trMeth c f o x ap p es ks = some e') : PE X (.Call (.Attribute o x ap) es ks p) (sE Λ Ek (evE T cd e')) := by
  unfold trMeth at h
  split at h
  · rename_i hc
    simp only [Bool.and_eq_true, decide_eq_true_eq] at hc
    obtain ⟨⟨hb, hp⟩, hn⟩ := hc
    split at h
    · rename_i o' ho
      have Ho := hf o o' ho
      split at h
      · rename_i m hm
        cases h
        exact sm0_ok hm Ho (base_of hb) hp
      · rename_i m a hm
        split at h
        · rename_i hs
          obtain ⟨a', h1, rfl⟩ := Option.map_eq_some_iff.mp h
          exact sm1_ok hm Ho (hf _ _ h1) hs (base_of hb) hp
        · cases h
      · split at h
        · rename_i hx
          subst hx
          split at h
          · split at h
            · rename_i hs
              obtain ⟨a', h1, rfl⟩ := Option.map_eq_some_iff.mp h
              rw [evE_app]
              exact se_app Ho (hf _ _ h1) hs (base_of hb) hp
            · cases h
          · cases h
        · split at h
          · rename_i m q h1 h2
            cases h
            obtain ⟨sh, la, lb⟩ := q
            obtain ⟨hsh, A⟩ := args_of tk hf h2
            rw [evE_meth]
            have e1 := congrArg Prod.fst hsh
            have e2 := congrArg Prod.snd hsh
            dsimp only at e1 e2
            exact se_meth ev (tk.nmk _ _ h1) Ho (by rw [e2]; exact A) e1.symm e2.symm (meth_eq hb A.star A.named hp hn)
          · cases h
      · cases h
    · cases h
  · cases h
theorem tr_stat (ev : Ev Λ T cd k fa ps X Ek) (tk : Tok Λ T fa c X) {f : Expr → Option E} (hf : ∀ e e', f e = some e' → PE X e (sE Λ Ek (evE T cd e'))) {C x : Str} {cp ap p : Pos} {es : List Expr} {ks : List Keyword} {e' : E} (h : trStat c f C x ap p es ks = some e') : PE X (.Call (.Attribute (.Name C cp) x ap) es ks p) (sE Λ Ek (evE T cd e')) := by
  unfold trStat at h
  split at h
  · rename_i hc
    simp only [Bool.and_eq_true, decide_eq_true_eq, beq_iff_eq] at hc
    obtain ⟨⟨⟨hp, hn⟩, hgl⟩, hdb⟩ := hc
    split at h
    · rename_i i hi
      split at h
      · rename_i g hst
        obtain ⟨⟨sh, la, lb⟩, h1, rfl⟩ := Option.map_eq_some_iff.mp h
        obtain ⟨hsh, A⟩ := args_of tk hf h1
        obtain ⟨g0, g1, g2⟩ := tk.gcls C i hi
        rw [evE_call]
        have e1 : (Λ.sh sh).1 = es.length := by rw [hsh]
        have e2 : (Λ.sh sh).2 = kwNames ks := by rw [hsh]
        exact se_stat ev (by rw [e1, e2]; exact A) e2.symm (tk.glb C (by simpa using hgl)) g1 (by simpa using hdb) (tk.gstat _ _ _ hst) (meth_eq rfl A.star A.named (by simpa using hp) hn)
      · cases h
    · cases h
  · cases h
theorem evE_fplus (a : E) : evE T cd (.fplus a) = fun σ st => (evE T cd a σ st).bind fun x st1 => (match x with
      | .int i => if i.natAbs.log2 < 1900 then .ok (.str (if 0 ≤ i then (⟨#[43]⟩ : Str) ++ (toString i : Str) else (toString i : Str))) st1 else .no
      | _ => .no) := by
  funext σ st
  simp only [evE]
  all_goals congr 1
theorem evIt_val (e : E) : evIt T cd (.val e) = fun σ st => (evE T cd e σ st).bind fun d st1 => opt (walkD st1 d) st1 := by
  funext σ st
  simp only [evIt]
theorem evIt_rng1 (e : E) : evIt T cd (.rng1 e) = fun σ st => (evE T cd e σ st).bind fun d st1 => (match d with
      | .int n => if -(2 ^ 62) ≤ n ∧ n < 2 ^ 62 then .ok (rngI 0 n.toNat, fun _ : Sto => True) st1 else .no
      | _ => .no) := by
  funext σ st
  simp only [evIt]
  all_goals congr 1
theorem evIt_rng2 (a b : E) : evIt T cd (.rng2 a b) = fun σ st => (evE T cd a σ st).bind fun x st1 => (evE T cd b σ st1).bind fun y st2 => (match x, y with
      | .int i, .int j => if (-(2 ^ 62) ≤ i ∧ i < 2 ^ 62) ∧ -(2 ^ 62) ≤ j ∧ j < 2 ^ 62 then .ok (rngI i (j - i).toNat, fun _ : Sto => True) st2 else .no
      | _, _ => .no) := by
  funext σ st
  simp only [evIt]
  all_goals congr 1
theorem fold_of {e : Expr} (h : notSet e = true) (env : Env) : ∀ x : Value, foldedSetIterable e env x = pure x := by
  intro x
  cases e <;> first | rfl | (cases h; done)
theorem kit_mg (tk : Tok Λ T fa c X) {x : Str} (h : isKit c x = true) : Gl X x ∧ X.mg x = none := by
  unfold isKit at h
  simp only [Bool.and_eq_true, beq_iff_eq] at h
  refine ⟨tk.glb x (by simpa using h.1), ?_⟩
  cases q : c.gl.lookup x with
  | none => rw [q] at h; cases h.2
  | some g =>
    rw [q] at h
    cases g <;> first | exact tk.gkit x q | cases h.2
theorem range_of {e : Expr} {es : List Expr} (h : isRange c e = some es) : ∃ p q, e = .Call (.Name "range" p) es [] q ∧ isKit c "range" = true := by
  unfold isRange at h
  split at h
  · split at h
    · rename_i hx
      simp only [Bool.and_eq_true] at hx
      cases h
      obtain rfl := eq_of_beq hx.1
      exact ⟨_, _, rfl, hx.2⟩
    · cases h
  · cases h
theorem trI_ok (ev : Ev Λ T cd k fa ps X Ek) (tk : Tok Λ T fa c X) {f : Expr → Option E} (ih : ∀ e e', f e = some e' → PE X e (sE Λ Ek (evE T cd e'))) {tg e : Expr} {i : It} (h : trI f c e = some i) : PI X tg e (sI Λ Ek (evIt T cd i)) ∧ ∀ x : Value, foldedSetIterable e X.env x = pure x := by
  unfold trI at h
  split at h
  · rename_i a hr
    obtain ⟨p, q, rfl, hk⟩ := range_of hr
    obtain ⟨h1, hm⟩ := kit_mg tk hk
    split at h
    · rename_i hs
      obtain ⟨a', h3, rfl⟩ := Option.map_eq_some_iff.mp h
      rw [evIt_rng1]
      exact ⟨si_rng1 h1 hm (ih _ _ h3) hs, fun x => rfl⟩
    · cases h
  · rename_i a b hr
    obtain ⟨p, q, rfl, hk⟩ := range_of hr
    obtain ⟨h1, hm⟩ := kit_mg tk hk
    split at h
    · rename_i hs
      simp only [Bool.and_eq_true] at hs
      split at h
      · rename_i a' b' h3 h4
        cases h
        rw [evIt_rng2]
        exact ⟨si_rng2 h1 hm (ih _ _ h3) (ih _ _ h4) hs.1 hs.2, fun x => rfl⟩
      · cases h
    · cases h
  · cases h
  · split at h
    · rename_i hs
      obtain ⟨e', h1, rfl⟩ := Option.map_eq_some_iff.mp h
      rw [evIt_val]
      exact ⟨si_val ev (ih _ _ h1), fold_of hs X.env⟩
    · cases h
theorem evTg_name (i : Nat) : evTg T cd (.name i) = fun d σ st => .ok (σ.set i (some d)) st := by
  funext d σ st
  rw [evTg]
theorem evTg_tup (ts : List Tg) : evTg T cd (.tup ts) = fun d σ st => match d with
    | .tup ds => if ds.length = ts.length then evTgs T cd ts ds σ st else .no
    | _ => .no := by
  funext d σ st
  cases d <;> simp only [evTg]
theorem evTg_idx (a i : E) : evTg T cd (.idx a i) = fun d σ st => (evE T cd a σ st).bind fun x st1 => (evE T cd i σ st1).bind fun y st2 => (match setI st2 x y d with
      | some st3 => .ok σ st3
      | none => .no) := by
  funext d σ st
  rw [evTg]
  all_goals congr 1
theorem evTgs_nil : evTgs T cd [] = fun ds σ st => match ds with
    | [] => .ok σ st
    | _ => .no := by
  funext ds σ st
  cases ds <;> simp only [evTgs]
theorem evTgs_cons (t : Tg) (ts : List Tg) : evTgs T cd (t :: ts) = fun ds σ st => match ds with
    | d :: r => (evTg T cd t d σ st).bind fun σ1 st1 => evTgs T cd ts r σ1 st1
    | [] => .no := by
  funext ds σ st
  cases ds <;> simp only [evTgs]

theorem asg_cons {e : Expr} {es : List Expr} {env : Env} (h : notStar e = true) : assignEach (e :: es) env = (false, assign e env) :: assignEach es env :=
  assignEach.eq_3 env e es (fun a p z => by subst z; cases h)
theorem asg_all {es : List Expr} {env : Env} (h : es.all notStar = true) : (assignEach es env).length = es.length ∧ (assignEach es env).findIdx? (fun x => x.1) = none := by
  induction es with
  | nil => exact ⟨rfl, rfl⟩
  | cons e es ih =>
    simp only [List.all_cons, Bool.and_eq_true] at h
    obtain ⟨i1, i2⟩ := ih h.2
    rw [asg_cons h.1]
    refine ⟨congrArg Nat.succ i1, ?_⟩
    rw [List.findIdx?_cons]
    simp only [Bool.false_eq_true, if_false, i2, Option.map_none]
theorem trGs_ok {f : Expr → Option Tg} (hf : ∀ e t, f e = some t → PG X e (sGo Λ Ek (tgN t) (evTg T cd t))) : ∀ {es : List Expr} {ts : List Tg}, es.all notStar = true → trGs f es = some ts → PGs X es (sGs Λ Ek (tgNs ts) (evTgs T cd ts)) ∧ ts.length = es.length
  | [], ts, _, h => by
    cases h
    rw [evTgs_nil]
    exact ⟨sgs_nil, rfl⟩
  | e :: es, ts, hs, h => by
    simp only [trGs] at h
    simp only [List.all_cons, Bool.and_eq_true] at hs
    split at h
    · rename_i a b h1 h2
      cases h
      obtain ⟨q1, q2⟩ := trGs_ok hf hs.2 h2
      rw [evTgs_cons]
      refine ⟨sgs_cons (hf e a h1) q1 ?_, congrArg Nat.succ q2⟩
      rw [asg_cons hs.1]
      rfl
    · cases h
theorem asg_sub {o i : Expr} {pos : Pos} {env : Env} (h : notSlice i = true) (v : Value) : assign (.Subscript o i pos) env v = (do
                let ov ← holding [v] (eval o env)
                let iv ← holding [v, ov] (eval i env)
                standAt pos
                holding [v, ov, iv] (setItem ov iv v)
                release [v, ov, iv] []) := by
  simp only [assign]
  cases i <;> first | (cases h; done) | rfl
theorem trG_ok (ev : Ev Λ T cd k fa ps X Ek) (tk : Tok Λ T fa c X) {f : Expr → Option E} (ie : ∀ e e', f e = some e' → PE X e (sE Λ Ek (evE T cd e'))) : ∀ (n : Nat) (e : Expr) (t : Tg), trG f n c e = some t → PG X e (sGo Λ Ek (tgN t) (evTg T cd t))
  | 0, _, _, h => by cases h
  | n + 1, e, t, h => by
    have ih := trG_ok ev tk ie n
    unfold trG at h
    split at h
    · split at h
      · rename_i hl
        obtain ⟨i, hi, rfl⟩ := Option.map_eq_some_iff.mp h
        rw [evTg_name]
        have hloc := tk.loc _ hl
        exact sg_name (by rw [tk.N]; exact tk.nd) (by rw [tk.N]; exact idxOf_get hi) (.inl hloc) (.inr hloc)
      · cases h
    · split at h
      · rename_i hs
        obtain ⟨ts, h1, rfl⟩ := Option.map_eq_some_iff.mp h
        obtain ⟨q1, q2⟩ := trGs_ok ih hs h1
        obtain ⟨a1, a2⟩ := asg_all (env := X.env) hs
        rw [evTg_tup]
        exact sg_tup ev q1 (by rw [a1, q2]) a2
      · cases h
    · split at h
      · rename_i hs
        split at h
        · rename_i o' i' h1 h2
          cases h
          rw [evTg_idx]
          refine sg_sub (ie _ _ h1) (ie _ _ h2) fun v => ?_
          exact asg_sub hs v
        · cases h
      · cases h
    · cases h


/-! ### blocks -/
theorem look_map (g : Str → NameKind → NameKind) : ∀ (l : List (Str × NameKind)) (x : Str), (l.map fun y => (y.1, g y.1 y.2)).lookup x = (l.lookup x).map (g x)
  | [], _ => rfl
  | (y, q) :: l, x => by
    rw [List.map_cons, List.lookup_cons, List.lookup_cons]
    by_cases h : x = y
    · subst h
      simp
    · have h2 : (x == y) = false := by simpa using h
      rw [h2]
      exact look_map g l x
theorem relabel_look (scope : Scope) (env : Env) (x : Str) : (relabel scope env).names.lookup x = (scope.names.lookup x).map fun q => if (q == .free && env.scope.kind == .function && env.kindOf x == some .cell) = true then .cell else q := by
  rw [← look_map (fun x q => if (q == .free && env.scope.kind == .function && env.kindOf x == some .cell) = true then .cell else q)]
  show (List.map _ scope.names).lookup x = _
  congr 2
  funext y
  obtain ⟨a, b⟩ := y
  dsimp only
  split <;> rfl
theorem tok_blk (tk : Tok Λ T fa c X) {scope : Scope} (h : blkOk c scope = true) (s : Shared) (H : Hp) (C : Addr) (cl : List (Str × Addr)) (fp : List Addr) : Tok Λ T fa { c with nk := scope.names } (X.blk s H scope (compEnvC scope cl C X.env) fp) := by
  have rl : ∀ x, (compEnvC scope cl C X.env).scope.names.lookup x = (scope.names.lookup x).map fun q => if (q == .free && X.env.scope.kind == .function && X.env.kindOf x == some .cell) = true then .cell else q := fun x => relabel_look scope X.env x
  unfold blkOk at h
  simp only [Bool.and_eq_true] at h
  refine ⟨tk.N, tk.nd, fun x hx => ?_, fun x hx => ?_, fun x hx => ?_, fun x hx => ?_, tk.gfn, tk.gcls, tk.gval, tk.gkit, tk.nmk, tk.shk, tk.has, tk.gstat, ?_⟩
  · exact (rl x).trans (by rw [show scope.names.lookup x = some .local from hx]; rfl)
  · exact (rl x).trans (by rw [show scope.names.lookup x = some .cell from hx]; rfl)
  · have e := rl x
    rw [show scope.names.lookup x = some .free from hx] at e
    simp only [Option.map_some] at e
    split at e
    · exact .inl e
    · exact .inr e
  · exact (rl x).trans (by rw [show scope.names.lookup x = some .globalImplicit from hx]; rfl)
  · have hk : scope.kind = .function := eq_of_beq h.1.1
    show (if ScopeKind.isAnnotationScope scope.kind = true then ScopeKind.function else scope.kind) = _
    rw [hk]
    rfl
theorem ev_blk (ev : Ev Λ T cd k fa ps X Ek) {scope : Scope} (s : Shared) (H : Hp) (env : Env) (fp : List Addr) : Ev Λ T cd k fa ps (X.blk s H scope env fp) E0 :=
  ⟨ev.kn, ev.bk, ev.hK, ev.hg, takes0, ev.calm⟩
theorem own_mem {N : List Str} {l : List (Str × NameKind)} {x : Str} {i : Nat} (h : (x, i) ∈ ownOf N l) : N[i]? = some x := by
  unfold ownOf at h
  obtain ⟨y, hy, h2⟩ := List.mem_filterMap.mp h
  split at h2
  · obtain ⟨j, hj, h3⟩ := Option.map_eq_some_iff.mp h2
    cases h3
    exact idxOf_get hj
  · cases h2
theorem blk_ok (tk : Tok Λ T fa c X) {scope : Scope} (h : blkOk c scope = true) : BlkOk X.N X.env.scope scope (ownOf c.N scope.names) := by
  unfold blkOk at h
  simp only [Bool.and_eq_true] at h
  obtain ⟨⟨h1, h2⟩, h3⟩ := h
  refine ⟨eq_of_beq h1, fun y hy => ?_, fun p hp => ?_, fun y hy hf => ?_, fun y hy hl => ?_⟩
  · exact eq_of_beq (List.all_eq_true.mp h2 y hy)
  · rw [tk.N]
    exact own_mem hp
  · have q := List.all_eq_true.mp h3 y hy
    simp only [Bool.or_eq_true, beq_iff_eq, Bool.not_eq_true', beq_eq_false_iff_ne] at q
    rcases q with (q | q) | q
    · exact absurd hf q
    · exact .inl (tk.cell _ q)
    · exact tk.free _ q
  · rw [tk.N]
    cases hi : c.N.idxOf? y.1 with
    | none =>
      right
      intro hm
      unfold List.idxOf? at hi
      have := List.findIdx?_eq_none_iff.mp hi y.1 hm
      simp at this
    | some i =>
      left
      refine List.mem_map.mpr ⟨(y.1, i), ?_, rfl⟩
      unfold ownOf
      refine List.mem_filterMap.mpr ⟨y, hy, ?_⟩
      rw [if_pos hl, hi]
      rfl
theorem evE_comp0 (own : List Nat) (t : Tg) (i : It) (e : E) : evE T cd (.comp own t i [] e) = fun σ st => (evIt T cd i σ st).bind fun w st1 => (compD w.2 (evTg T cd t) (fun _ st => .ok true st) (evE T cd e) w.1 (wipeD σ own) st1).calm.bind fun rs st2 => if fits rs then .ok (.lst rs) st2 else .no := by
  funext σ st
  have h0 : (fun σ st => evIfs T cd [] σ st) = fun _ st => .ok true st := by
    funext σ st
    simp only [evIfs]
  rw [evE, h0]
theorem evE_comp1 (own : List Nat) (t : Tg) (i : It) (q e : E) : evE T cd (.comp own t i [q] e) = fun σ st => (evIt T cd i σ st).bind fun w st1 => (compD w.2 (evTg T cd t) (evT T cd q) (evE T cd e) w.1 (wipeD σ own) st1).calm.bind fun rs st2 => if fits rs then .ok (.lst rs) st2 else .no := by
  funext σ st
  have h0 : (fun σ st => evIfs T cd [q] σ st) = evT T cd q := by
    funext σ st
    simp only [evIfs]
    cases evT T cd q σ st with
    | ok k s => cases k <;> rfl
    | ex c fs s => rfl
    | no => rfl
  rw [evE, h0]
theorem sts_nil : PTs X [] (sT Λ Ek fun _ st => .ok true st) := by
  refine ⟨fun pins s σ H Q I h => pts_nil.run pins s σ H Q I ?_⟩
  obtain ⟨W, st, σd, S, sl, p⟩ := h
  exact KOk.here p S rfl
theorem trE_ok : ∀ (n : Nat) {X : Cx} {Ek : XK} {c : Tc} (ev : Ev Λ T cd k fa ps X Ek) (tk : Tok Λ T fa c X), (∀ (e : Expr) (e' : E), trE n c e = some e' → PE X e (sE Λ Ek (evE T cd e'))) ∧ ∀ (e : Expr) (e' : E), trE n c e = some e' → PT X e (sT Λ Ek (evT T cd e'))
  | 0, _, _, _, _, _ => ⟨fun _ _ h => (by cases h), fun _ _ h => (by cases h)⟩
  | n + 1, X, Ek, c, ev, tk => by
    obtain ⟨ih, it⟩ := trE_ok n ev tk
    have main : ∀ (e : Expr) (e' : E), trE (n + 1) c e = some e' → PE X e (sE Λ Ek (evE T cd e')) := by
      intro e e' h
      unfold trE at h
      split at h
      · exact tr_name tk h
      · exact tr_const h
      · split at h
        · rename_i hs
          obtain ⟨l, h1, rfl⟩ := Option.map_eq_some_iff.mp h
          have : evE T cd (.tup l) = fun σ st => (evEs T cd l σ st).bind fun ds st1 => if fits ds then .ok (.tup ds) st1 else .no := by
            funext σ st
            simp only [evE]
          rw [this]
          exact se_tup (tr_list ih hs h1)
        · cases h
      · split at h
        · rename_i hs
          obtain ⟨l, h1, h2⟩ := Option.map_eq_some_iff.mp h
          split at h2
          · cases h2
            have : evE T cd (.lstO l) = fun σ st => (evEs T cd l σ st).bind fun ds st1 => if fits ds then .ok (.mref st1.length) (st1 ++ [.lst ds]) else .no := by
              funext σ st
              simp only [evE]
            rw [this]
            exact se_lstO (tr_list ih hs h1)
          · cases h2
            have : evE T cd (.lstF l) = fun σ st => (evEs T cd l σ st).bind fun ds st1 => if fits ds then .ok (.lst ds) st1 else .no := by
              funext σ st
              simp only [evE]
            rw [this]
            exact se_lstF (tr_list ih hs h1)
        · cases h
      · split at h
        · rename_i a' b' h1 h2
          cases h
          rw [evE_bin]
          exact se_bin ev _ (ih _ _ h1) (ih _ _ h2)
        · cases h
      · obtain ⟨a', h1, rfl⟩ := Option.map_eq_some_iff.mp h
        rw [evE_neg]
        exact se_neg ev (ih _ _ h1)
      · obtain ⟨a', h1, rfl⟩ := Option.map_eq_some_iff.mp h
        rw [evE_not]
        exact se_not (ih _ _ h1)
      · obtain ⟨l, h1, rfl⟩ := Option.map_eq_some_iff.mp h
        rw [evE_and]
        exact tr_and ih h1
      · obtain ⟨l, h1, rfl⟩ := Option.map_eq_some_iff.mp h
        rw [evE_or]
        exact tr_or ih h1
      · split at h
        · cases h
        · rename_i hm
          split at h
          · rename_i a' b' h1 h2
            cases h
            rw [evE_cmp]
            exact se_cmp ev _ (ih _ _ h1) (ih _ _ h2) (by simpa using hm)
          · cases h
      · split at h
        · cases h
        · rename_i hm
          split at h
          · rename_i a' b' d' h1 h2 h3
            cases h
            rw [evE_cmp2]
            exact se_cmp2 ev _ _ (ih _ _ h1) (ih _ _ h2) (ih _ _ h3) (by simpa using hm)
          · cases h
      · split at h
        · rename_i t' a' b' h1 h2 h3
          cases h
          rw [evE_ife]
          exact se_ife (it _ _ h1) (ih _ _ h2) (ih _ _ h3)
        · cases h
      · split at h
        · rename_i a' l' h' h1 h2 h3
          cases h
          rw [evE_slc]
          exact se_slc ev (ih _ _ h1) (tr_opt ih h2) (tr_opt ih h3)
        · cases h
      · split at h
        · rename_i hb
          split at h
          · rename_i a' b' h1 h2
            cases h
            rw [evE_idx]
            exact se_idx ev (ih _ _ h1) (ih _ _ h2) (plainIx_of hb)
          · cases h
        · cases h
      · split at h
        · rename_i hb
          split at h
          · rename_i a' f h1 h2
            cases h
            rw [evE_attr]
            exact se_attr ev (tk.nmk _ _ h2) (ih _ _ h1) (by simp only [eval, base_of hb])
          · cases h
        · cases h
      · obtain ⟨a', h1, rfl⟩ := Option.map_eq_some_iff.mp h
        rw [evE_fplain]
        exact se_fplain (ih _ _ h1)
      · split at h
        · rename_i hz
          subst hz
          obtain ⟨a', h1, rfl⟩ := Option.map_eq_some_iff.mp h
          rw [evE_fplus]
          exact se_fplus (ih _ _ h1)
        · cases h
      · obtain ⟨l, h1, rfl⟩ := Option.map_eq_some_iff.mp h
        rw [evE_fstr]
        exact se_fstr (tr_parts ih h1)
      · split at h
        · rename_i hb
          split at h
          · rename_i i t e' h1 h2 h3
            split at h
            · rename_i hn
              cases h
              rw [evE_comp0]
              have his : ∀ j ∈ tgN t, j ∈ (ownOf c.N ‹Scope›.names).map (·.2) := fun j hj => by
                have := List.all_eq_true.mp hn j hj
                simpa using this
              obtain ⟨q1, q2⟩ := trI_ok ev tk ih h1
              exact se_comp ev (by rw [tk.N]; exact tk.nd) q1 (blk_ok tk hb) his
                (fun s H C cl fp => trG_ok (ev_blk ev s H _ fp) (tok_blk tk hb s H C cl fp) (trE_ok n (ev_blk ev s H _ fp) (tok_blk tk hb s H C cl fp)).1 n _ _ h2)
                (fun s H C cl fp => sts_nil)
                (fun s H C cl fp => (trE_ok n (ev_blk ev s H _ fp) (tok_blk tk hb s H C cl fp)).1 _ _ h3) q2
            · cases h
          · cases h
        · cases h
      · split at h
        · rename_i hb
          split at h
          · rename_i i t q e' h1 h2 h4 h3
            split at h
            · rename_i hn
              cases h
              rw [evE_comp1]
              have his : ∀ j ∈ tgN t, j ∈ (ownOf c.N ‹Scope›.names).map (·.2) := fun j hj => by
                have := List.all_eq_true.mp hn j hj
                simpa using this
              obtain ⟨q1, q2⟩ := trI_ok ev tk ih h1
              exact se_comp ev (by rw [tk.N]; exact tk.nd) q1 (blk_ok tk hb) his
                (fun s H C cl fp => trG_ok (ev_blk ev s H _ fp) (tok_blk tk hb s H C cl fp) (trE_ok n (ev_blk ev s H _ fp) (tok_blk tk hb s H C cl fp)).1 n _ _ h2)
                (fun s H C cl fp => pts_one ((trE_ok n (ev_blk ev s H _ fp) (tok_blk tk hb s H C cl fp)).2 _ _ h4))
                (fun s H C cl fp => (trE_ok n (ev_blk ev s H _ fp) (tok_blk tk hb s H C cl fp)).1 _ _ h3) q2
            · cases h
          · cases h
        · cases h
      · exact tr_call ev tk ih h
      · split at h
        · rename_i h1
          cases h
          exact tr_stat ev tk ih h1
        · exact tr_meth ev tk ih h
      · exact tr_meth ev tk ih h
      · cases h
    refine ⟨main, fun e e' h => ?_⟩
    by_cases hp : plainTest e = true
    · rw [evT_plain (plain_of hp h)]
      exact st_val ev (main e e' h) (isTrue_plain hp X.env)
    · unfold trE at h
      split at h <;> first | (exact absurd rfl hp) | skip
      · obtain ⟨a', h1, rfl⟩ := Option.map_eq_some_iff.mp h
        rw [evT_not]
        exact st_not (it _ _ h1)
      · obtain ⟨l, h1, rfl⟩ := Option.map_eq_some_iff.mp h
        rw [evT_and]
        exact (tw_and it h1).pt
      · obtain ⟨l, h1, rfl⟩ := Option.map_eq_some_iff.mp h
        rw [evT_or]
        exact (tw_or it h1).pt
      · split at h
        · cases h
        · rename_i hm
          split at h
          · rename_i a' b' h1 h2
            cases h
            rw [evT_cmp]
            exact st_cmp ev _ (ih _ _ h1) (ih _ _ h2) (by simpa using hm)
          · cases h
      · split at h
        · cases h
        · rename_i hm
          split at h
          · rename_i a' b' d' h1 h2 h3
            cases h
            rw [evT_cmp2]
            exact st_cmp2 ev _ _ (ih _ _ h1) (ih _ _ h2) (ih _ _ h3) (by simpa using hm)
          · cases h
      · split at h
        · rename_i t' a' b' h1 h2 h3
          cases h
          rw [evT_ife]
          exact st_ife (it _ _ h1) (it _ _ h2) (it _ _ h3)
        · cases h
      · cases h
end
end Mir

set_option Elab.async false
set_option linter.all false
set_option maxRecDepth 100000
/-! Mir10: targets, walks and statements of the program's own, in Mir's terms. -/
namespace Mir
open PySem L2
/-! ### statements -/
def notComp : Expr → Bool
  | .ListComp _ _ _ _ => false
  | .SetComp _ _ _ _ => false
  | .DictComp _ _ _ _ _ => false
  | _ => true
theorem swaps_of {e : Expr} {t : Option Expr} {n : Nat} {env : Env} (h : notComp e = true) : swapsWith e t n env = pure false := by
  cases e <;> first | (cases h; done) | rfl
def notTuple : Expr → Bool
  | .Tuple _ _ _ => false
  | _ => true
theorem swapped_of {tg e : Expr} {env : Env} (h : notTuple tg = true ∨ notTuple e = true) (hl : ∀ es p, tg ≠ .List es p) : swappedStores [tg] e env = pure none := by
  unfold swappedStores
  cases tg <;> first | rfl | (exact absurd rfl (hl _ _)) | skip
  cases e <;> first | rfl | skip
  rcases h with h | h <;> cases h
theorem sym_ne {u v : Str} (h : (u == v) = false) : (v == u) = false := by
  cases q : v == u with
  | false => rfl
  | true =>
    have := eq_of_beq q
    subst this
    simp at h
theorem par2_sw {x y : Str} {px py : Pos} {kt k2 : Nat} {pt pt2 : Pos} {a b : Expr} {env : Env} (hb : env.blockKind = .function) (hx : env.kindOf x = some .local) (hy : env.kindOf y = some .local) (hl : py.line = px.line) (hxy : (x == y) = false) (hs : [a, b].all notStar = true)
    (hf : [a, b].all (foldedForSure 8) = false) (hc : [a, b].all (constantsAlone 8) = false) : swappedStores [.Tuple [.Name x px, .Name y py] kt pt] (.Tuple [a, b] k2 pt2) env = pure (some [x, y]) := by
  have hne : x ≠ y := fun q => by subst q; simp at hxy
  unfold swappedStores
  dsimp only
  split
  · rename_i h
    simp [hb] at h
  · split
    · rename_i h
      obtain ⟨e, he, hm⟩ := List.any_eq_true.mp h
      have := List.all_eq_true.mp hs e he
      cases e <;> first | (cases this; done) | cases hm
    · simp [List.filterMap_cons, hx, hy, Expr.pos, hl, hf, hc, List.eraseDups_cons, hne, Ne.symm hne]
theorem par3_sw {x y z : Str} {px py pz : Pos} {kt k2 : Nat} {pt pt2 : Pos} {a b d : Expr} {env : Env} (hb : env.blockKind = .function) (hx : env.kindOf x = some .local) (hy : env.kindOf y = some .local) (hz : env.kindOf z = some .local) (hl : py.line = px.line) (hl2 : pz.line = px.line) (hxy : (x == y) = false) (hxz : (x == z) = false) (hyz : (y == z) = false) (hs : [a, b, d].all notStar = true)
    (hf : [a, b, d].all (foldedForSure 8) = false) (hc : [a, b, d].all (constantsAlone 8) = false) : swappedStores [.Tuple [.Name x px, .Name y py, .Name z pz] kt pt] (.Tuple [a, b, d] k2 pt2) env = pure (some [x, y, z]) := by
  have n1 : x ≠ y := fun q => by subst q; simp at hxy
  have n2 : x ≠ z := fun q => by subst q; simp at hxz
  have n3 : y ≠ z := fun q => by subst q; simp at hyz
  unfold swappedStores
  dsimp only
  split
  · rename_i h
    simp [hb] at h
  · split
    · rename_i h
      obtain ⟨e, he, hm⟩ := List.any_eq_true.mp h
      have := List.all_eq_true.mp hs e he
      cases e <;> first | (cases this; done) | cases hm
    · simp [List.filterMap_cons, hx, hy, hz, Expr.pos, hl, hl2, hf, hc, List.eraseDups_cons, n1, n2, n3, Ne.symm n1, Ne.symm n2, Ne.symm n3]
theorem sw_folded {ts es : List Expr} {k1 k2 : Nat} {p1 p2 : Pos} {env : Env} (h : es.all (foldedForSure 8) = true) : swappedStores [.Tuple ts k1 p1] (.Tuple es k2 p2) env = pure none := by
  unfold swappedStores
  dsimp only
  repeat' split
  all_goals first | rfl | (rename_i q; exact absurd h q) | skip
theorem sw_long {ts es : List Expr} {k1 k2 : Nat} {p1 p2 : Pos} {env : Env} (h : 3 < ts.length) : swappedStores [.Tuple ts k1 p1] (.Tuple es k2 p2) env = pure none := by
  unfold swappedStores
  dsimp only
  rw [if_pos]
  have n2 : (ts.length == 2) = false := by simp; omega
  have n3 : (ts.length == 3) = false := by simp; omega
  simp [n2, n3]
def trSs (f : Stmt → Option S) : List Stmt → Option (List S)
  | [] => some []
  | e :: r => match f e, trSs f r with
    | some a, some b => some (a :: b)
    | _, _ => none
def isDoc : Expr → Bool
  | .Constant (.str _) _ _ => true
  | _ => false
section
variable {Λ : Lk} {T : Tab} {cd : Cd} {k : Nat} {fa : Nat → Addr} {ps : Nat → List Str} {X : Cx} {Ek : XK} {c : Tc}
theorem tr_setLc (ev : Ev Λ T cd k fa ps X Ek) (tk : Tok Λ T fa c X) {m i : Nat} {elt : Expr} {gens : List Comprehension} {scope : Scope} {pos sp py : Pos} {y : Str} {e' : E} (hl : c.nk.lookup y = some .local) (hi : c.N.idxOf? y = some i) (h : trE m c (.ListComp elt gens scope pos) = some e') :
    PS X (.Assign [.Name y py] (.ListComp elt gens scope pos) sp) (sS Λ Ek fun σ st => toO (evE T cd e' σ st) fun d st1 => toO (R.ok (σ.set i (some d)) st1 : R Sl) fun σ1 st2 => .nxt σ1 st2) := by
  have hN : X.N[i]? = some y := by rw [tk.N]; exact idxOf_get hi
  have hnd : X.N.Nodup := by rw [tk.N]; exact tk.nd
  have hloc := tk.loc _ hl
  have hB : ∃ B : Bool, swapsWith (.ListComp elt gens scope pos) (some (.Name y py)) sp.line X.env = pure B := ⟨_, rfl⟩
  obtain ⟨B, hB⟩ := hB
  cases B
  · refine ss_asg ((trE_ok m ev tk).1 _ _ h) (sg_plain (sg_name hnd hN (.inl hloc) (.inr hloc))) hB (swapped_of (.inl rfl) fun _ _ q => by cases q) ?_
    rw [asg_cons rfl]
    rfl
  · cases m with
    | zero => cases h
    | succ n =>
      unfold trE at h
      obtain ⟨ih, it⟩ := trE_ok n ev tk
      split at h <;> first | (rename_i q; cases q; done) | skip
      · rename_i q
        cases q
        split at h
        · rename_i hb
          split at h
          · rename_i i' t e2 h1 h2 h3
            split at h
            · rename_i hn
              cases h
              rw [evE_comp0]
              have his : ∀ j ∈ tgN t, j ∈ (ownOf c.N scope.names).map (·.2) := fun j hj => by
                have := List.all_eq_true.mp hn j hj
                simpa using this
              obtain ⟨q1, q2⟩ := trI_ok ev tk ih h1
              refine PS.alt (ps_setLc ev.calm hnd hN hloc hB q1 (blk_ok tk hb)
                (fun s H C cl fp => trG_ok (ev_blk ev s H _ fp) (tok_blk tk hb s H C cl fp) (trE_ok n (ev_blk ev s H _ fp) (tok_blk tk hb s H C cl fp)).1 n _ _ h2)
                (fun s H C cl fp => sts_nil (Λ := Λ) (Ek := E0))
                (fun s H C cl fp => (trE_ok n (ev_blk ev s H _ fp) (tok_blk tk hb s H C cl fp)).1 _ _ h3) q2) fun D σ H h => ?_
              obtain ⟨W, st, σd, S, sl, p⟩ := h
              exact comp_T his (sE.thenO S sl p fun W1 a st1 v H1 S1 sl1 r1 p1 le1 => p1 W1 _ H1 (Wd.Le.refl _) S1 (sl1.set r1 i))
            · cases h
          · cases h
        · cases h
      · rename_i q
        cases q
        split at h
        · rename_i hb
          split at h
          · rename_i i' t qq e2 h1 h2 h4 h3
            split at h
            · rename_i hn
              cases h
              rw [evE_comp1]
              have his : ∀ j ∈ tgN t, j ∈ (ownOf c.N scope.names).map (·.2) := fun j hj => by
                have := List.all_eq_true.mp hn j hj
                simpa using this
              obtain ⟨q1, q2⟩ := trI_ok ev tk ih h1
              refine PS.alt (ps_setLc ev.calm hnd hN hloc hB q1 (blk_ok tk hb)
                (fun s H C cl fp => trG_ok (ev_blk ev s H _ fp) (tok_blk tk hb s H C cl fp) (trE_ok n (ev_blk ev s H _ fp) (tok_blk tk hb s H C cl fp)).1 n _ _ h2)
                (fun s H C cl fp => pts_one ((trE_ok n (ev_blk ev s H _ fp) (tok_blk tk hb s H C cl fp)).2 _ _ h4))
                (fun s H C cl fp => (trE_ok n (ev_blk ev s H _ fp) (tok_blk tk hb s H C cl fp)).1 _ _ h3) q2) fun D σ H h => ?_
              obtain ⟨W, st, σd, S, sl, p⟩ := h
              exact comp_T his (sE.thenO S sl p fun W1 a st1 v H1 S1 sl1 r1 p1 le1 => p1 W1 _ H1 (Wd.Le.refl _) S1 (sl1.set r1 i))
            · cases h
          · cases h
        · cases h
      · cases h
/-- what is never come to, where operands are right -/
def isNI : Expr → Bool
  | .Name x _ => x == "NotImplemented"
  | _ => false
def trS (m : Nat) : Nat → Tc → Stmt → Option S
  | 0, _, _ => none
  | n + 1, c, s => match s with
    | .Pass _ => some .pass
    | .Break _ => some .brk
    | .Continue _ => some .cnt
    | .Return none _ => some .retN
    | .Return (some e) _ => if isNI e then some .never else (trE m c e).map .ret
    | .Raise _ _ _ => some .never
    | .Expr e _ => if notComp e then (trE m c e).map .ex else none
    | .If t a b _ => (match trE m c t, trSs (trS m n c) a, trSs (trS m n c) b with
      | some t', some a', some b' => some (.ifs t' a' b')
      | _, _, _ => none)
    | .While t a [] _ => (match trE m c t, trSs (trS m n c) a with
      | some t', some a' => some (.whl t' a')
      | _, _ => none)
    | .For tg it a [] _ => (match trG (trE m c) m c tg, trI (trE m c) c it, trSs (trS m n c) a with
      | some g, some i, some a' => some (.for_ g i a')
      | _, _, _ => none)
    | .Assign [.Attribute o x _] e _ => if notComp e then (match trE m c o, c.nm.lookup x, trE m c e with
      | some o', some f, some e' => some (.asg (.attr o' f) e')
      | _, _, _ => none) else none
    | .Assign [.Tuple [.Name x px, .Name y py] k1 p1] (.Tuple [a, b] k2 p2) _ =>
      if c.nk.lookup x = some .local ∧ c.nk.lookup y = some .local ∧ py.line = px.line ∧ (x == y) = false ∧ [a, b].all notStar = true ∧ [a, b].all (foldedForSure 8) = false ∧ [a, b].all (constantsAlone 8) = false then
        (match c.N.idxOf? x, c.N.idxOf? y, trL (trE m c) [a, b] with
        | some i, some j, some l => some (.par [i, j] l)
        | _, _, _ => none)
      else if [a, b].all (foldedForSure 8) then (match trG (trE m c) m c (.Tuple [.Name x px, .Name y py] k1 p1), trE m c (.Tuple [a, b] k2 p2) with
        | some g, some e' => some (.asg g e')
        | _, _ => none) else none
    | .Assign [.Tuple [.Name x px, .Name y py, .Name z pz] k1 p1] (.Tuple [a, b, d] k2 p2) _ =>
      if c.nk.lookup x = some .local ∧ c.nk.lookup y = some .local ∧ c.nk.lookup z = some .local ∧ py.line = px.line ∧ pz.line = px.line ∧ (x == y) = false ∧ (x == z) = false ∧ (y == z) = false ∧ [a, b, d].all notStar = true ∧ [a, b, d].all (foldedForSure 8) = false ∧ [a, b, d].all (constantsAlone 8) = false then
        (match c.N.idxOf? x, c.N.idxOf? y, c.N.idxOf? z, trL (trE m c) [a, b, d] with
        | some i, some j, some q, some l => some (.par [i, j, q] l)
        | _, _, _, _ => none)
      else if [a, b, d].all (foldedForSure 8) then (match trG (trE m c) m c (.Tuple [.Name x px, .Name y py, .Name z pz] k1 p1), trE m c (.Tuple [a, b, d] k2 p2) with
        | some g, some e' => some (.asg g e')
        | _, _ => none) else none
    | .Assign [.Name y _] (.ListComp elt gens scope pos) _ => if c.nk.lookup y = some .local then (match c.N.idxOf? y, trE m c (.ListComp elt gens scope pos) with
      | some i, some e' => some (.asg (.name i) e')
      | _, _ => none) else none
    | .Assign [tg] e _ => if notComp e && (notTuple tg || notTuple e) && notStar tg then (match trG (trE m c) m c tg, trE m c e with
      | some g, some e' => some (.asg g e')
      | _, _ => none) else none
    | _ => none
theorem exSs_nil : exSs T cd [] = fun σ st => .nxt σ st := by
  funext σ st
  simp only [exSs]
theorem exSs_cons (s : S) (r : List S) : exSs T cd (s :: r) = fun σ st => (exS T cd s σ st).then_ fun σ1 st1 => exSs T cd r σ1 st1 := by
  funext σ st
  simp only [exSs]
theorem trSs_ok {f : Stmt → Option S} (hf : ∀ s s', f s = some s' → PS X s (sS Λ Ek (exS T cd s'))) : ∀ {ss : List Stmt} {l : List S}, trSs f ss = some l → PSs X ss (sS Λ Ek (exSs T cd l))
  | [], l, h => by
    cases h
    rw [exSs_nil]
    exact sss_nil
  | s :: ss, l, h => by
    simp only [trSs] at h
    split at h
    · rename_i a b h1 h2
      cases h
      rw [exSs_cons]
      exact sss_cons (hf s a h1) (trSs_ok hf h2)
    · cases h
theorem exS_asg (t : Tg) (e : E) : exS T cd (.asg t e) = fun σ st => toO (evE T cd e σ st) fun d st1 => toO (evTg T cd t d σ st1) fun σ1 st2 => .nxt σ1 st2 := by
  funext σ st
  simp only [exS]
theorem exS_par (is : List Nat) (es : List E) : exS T cd (.par is es) = fun σ st => toO (evEs T cd es σ st) fun ds st1 => (match parD is ds σ with
      | some σ1 => .nxt σ1 st1
      | none => .no) := by
  funext σ st
  simp only [exS]
  all_goals congr 1
theorem evTg_attr (a : E) (f : Nat) (d : D) (σ : Sl) (st : Sto) : evTg T cd (.attr a f) d σ st = (evE T cd a σ st).bind fun x st1 => (match setAt T.fld st1 x f d with
      | some st3 => .ok σ st3
      | none => .no) := by
  rw [evTg]
  all_goals congr 1
theorem trG_noList {f : Expr → Option E} {n : Nat} {tg : Expr} {g : Tg} (h : trG f n c tg = some g) : ∀ es p, tg ≠ .List es p := by
  intro es p q
  subst q
  cases n <;> cases h
theorem trS_ok (ev : Ev Λ T cd k fa ps X Ek) (tk : Tok Λ T fa c X) (hp : PassesOwn (model X.prog X.w) X.A X.env X.xe) (m : Nat) : ∀ (n : Nat) (s : Stmt) (s' : S), trS m n c s = some s' → PS X s (sS Λ Ek (exS T cd s'))
  | 0, _, _, h => by cases h
  | n + 1, s, s', h => by
    have ih := trS_ok ev tk hp m n
    obtain ⟨ie, it⟩ := trE_ok m ev tk
    unfold trS at h
    split at h
    · cases h
      have : exS T cd .pass = fun σ st => .nxt σ st := by
        funext σ st
        simp only [exS]
      rw [this]
      exact ss_pass ps_pass
    · cases h
      have : exS T cd .brk = fun σ st => .brk σ st := by
        funext σ st
        simp only [exS]
      rw [this]
      exact ss_brk
    · cases h
      have : exS T cd .cnt = fun σ st => .cnt σ st := by
        funext σ st
        simp only [exS]
      rw [this]
      exact ss_cnt
    · cases h
      have : exS T cd .retN = fun _ st => .ret .non st := by
        funext σ st
        simp only [exS]
      rw [this]
      exact ss_retN ps_retN
    · split at h
      · cases h
        have : exS T cd .never = fun _ _ => .no := by
          funext σ st
          simp only [exS]
        rw [this]
        exact ss_never
      obtain ⟨e', h1, rfl⟩ := Option.map_eq_some_iff.mp h
      have : exS T cd (.ret e') = fun σ st => toO (evE T cd e' σ st) fun d st1 => .ret d st1 := by
        funext σ st
        simp only [exS]
      rw [this]
      exact ss_ret (ps_ret (ie _ _ h1))
    · cases h
      have : exS T cd .never = fun _ _ => .no := by
        funext σ st
        simp only [exS]
      rw [this]
      exact ss_never
    · split at h
      · rename_i hc
        obtain ⟨e', h1, rfl⟩ := Option.map_eq_some_iff.mp h
        have : exS T cd (.ex e') = fun σ st => toO (evE T cd e' σ st) fun _ st1 => .nxt σ st1 := by
          funext σ st
          simp only [exS]
        rw [this]
        exact ss_expr (ie _ _ h1) (ps_expr (ie _ _ h1) (swaps_of hc))
      · cases h
    · split at h
      · rename_i t' a' b' h1 h2 h3
        cases h
        have : exS T cd (.ifs t' a' b') = fun σ st => toO (evT T cd t' σ st) fun k st1 => if k = true then exSs T cd a' σ st1 else exSs T cd b' σ st1 := by
          funext σ st
          simp only [exS]
        rw [this]
        exact ss_if (it _ _ h1) (trSs_ok ih h2) (trSs_ok ih h3)
      · cases h
    · split at h
      · rename_i t' a' h1 h2
        cases h
        have : exS T cd (.whl t' a') = fun σ st => whlD (evT T cd t') (exSs T cd a') fuel σ st := by
          funext σ st
          simp only [exS]
        rw [this]
        exact ss_while hp (it _ _ h1) (trSs_ok ih h2) fuel
      · cases h
    · split at h
      · rename_i g i a' h1 h2 h3
        cases h
        have : exS T cd (.for_ g i a') = fun σ st => toO (evIt T cd i σ st) fun w st1 => forD w.2 (evTg T cd g) (exSs T cd a') w.1 σ st1 := by
          funext σ st
          simp only [exS]
        rw [this]
        obtain ⟨q1, q2⟩ := trI_ok ev tk ie h2
        exact ss_for ev hp q1 (sg_plain (trG_ok ev tk ie m _ _ h1)) (trSs_ok ih h3) q2
      · cases h
    · split at h
      · rename_i hc
        split at h
        · rename_i o' f e' h1 h2 h3
          cases h
          rw [exS_asg]
          have q := ss_fld (pos := ‹Pos›) (pos' := ‹Pos›) ev (tk.nmk _ _ h2) (ie _ _ h1) (ie _ _ h3) (swaps_of hc)
          simp only [evTg_attr]
          exact ss_fld ev (tk.nmk _ _ h2) (ie _ _ h1) (ie _ _ h3) (swaps_of hc)
        · cases h
      · cases h
    · split at h
      · rename_i hc
        obtain ⟨hx, hy, hl, hxy, hs, hf, hcc⟩ := hc
        split at h
        · rename_i i j l h1 h2 h3
          cases h
          rw [exS_par]
          have lx := tk.loc _ hx
          have ly := tk.loc _ hy
          have g1 := idxOf_get h1
          have g2 := idxOf_get h2
          have hij : i ≠ j := fun q => by
            subst q
            rw [g1] at g2
            cases g2
            simp at hxy
          exact PS.alt (ps_par ev.calm (by rw [tk.N]; exact tk.nd) (by rw [tk.N]; exact g1) (by rw [tk.N]; exact g2) hij lx ly (tr_list ie hs h3) (par2_sw tk.blk lx ly hl hxy hs hf hcc) rfl) fun D σ H => parts2
        · cases h
      · split at h
        · rename_i hf
          split at h
          · rename_i g e' h1 h2
            cases h
            rw [exS_asg]
            refine ss_asg (ie _ _ h2) (sg_plain (trG_ok ev tk ie m _ _ h1)) rfl (sw_folded hf) ?_
            rw [asg_cons rfl]
            rfl
          · cases h
        · cases h
    · split at h
      · rename_i hc
        obtain ⟨hx, hy, hz, hl, hl2, hxy, hxz, hyz, hs, hf, hcc⟩ := hc
        split at h
        · rename_i i j q l h1 h2 h4 h3
          cases h
          rw [exS_par]
          have lx := tk.loc _ hx
          have ly := tk.loc _ hy
          have lz := tk.loc _ hz
          have g1 := idxOf_get h1
          have g2 := idxOf_get h2
          have g3 := idxOf_get h4
          have hij : i ≠ j := fun q => by
            subst q
            rw [g1] at g2
            cases g2
            simp at hxy
          have hiq : i ≠ q := fun r => by
            subst r
            rw [g1] at g3
            cases g3
            simp at hxz
          have hjq : j ≠ q := fun r => by
            subst r
            rw [g2] at g3
            cases g3
            simp at hyz
          exact PS.alt (ps_par3 ev.calm (by rw [tk.N]; exact tk.nd) (by rw [tk.N]; exact g1) (by rw [tk.N]; exact g2) (by rw [tk.N]; exact g3) hij hiq hjq lx ly lz (tr_list ie hs h3) (par3_sw tk.blk lx ly lz hl hl2 hxy hxz hyz hs hf hcc) rfl) fun D σ H => parts3
        · cases h
      · split at h
        · rename_i hf
          split at h
          · rename_i g e' h1 h2
            cases h
            rw [exS_asg]
            refine ss_asg (ie _ _ h2) (sg_plain (trG_ok ev tk ie m _ _ h1)) rfl (sw_folded hf) ?_
            rw [asg_cons rfl]
            rfl
          · cases h
        · cases h
    · split at h
      · rename_i hl
        split at h
        · rename_i i e' h1 h2
          cases h
          rw [exS_asg, evTg_name]
          exact tr_setLc ev tk hl h1 h2
        · cases h
      · cases h
    · split at h
      · rename_i hc
        simp only [Bool.and_eq_true, Bool.or_eq_true] at hc
        split at h
        · rename_i g e' h1 h2
          cases h
          rw [exS_asg]
          refine ss_asg (ie _ _ h2) (sg_plain (trG_ok ev tk ie m _ _ h1)) (swaps_of hc.1.1) (swapped_of hc.1.2 (trG_noList h1)) ?_
          rw [asg_cons hc.2]
          rfl
        · cases h
      · cases h
    · cases h
end
end Mir

set_option Elab.async false
set_option linter.all false
set_option maxRecDepth 100000
/-! Mir11: how a call's values go to the parameters, reckoned. -/
namespace Mir
open PySem L2
section
variable {α β : Type}
def kwP (names : List Str) : List (Str × α) → List (Str × α) → Option (List (Str × α))
  | [], s => some s
  | (k, v) :: r, s => if names.contains k = true ∧ (s.lookup k).isSome = false then kwP names r (s ++ [(k, v)]) else none
def addD (s : List (Str × α)) (x : Str × α) : List (Str × α) := if (s.lookup x.1).isNone = true then s ++ [x] else s
def bindP (names : List Str) (us : List α) (kw : List (Str × α)) (its : List α) : Option (List (Str × α)) :=
  match kwP names kw (names.zip us) with
  | none => none
  | some s1 => if us.length ≤ names.length ∧ its.length ≤ names.length ∧ ((names.take (names.length - its.length)).all fun n => (s1.lookup n).isSome) = true then
      some (names.filterMap fun n => ((((names.drop (names.length - its.length)).zip its).foldl addD s1).lookup n).map (n, ·)) else none

/-! ### in the machine -/
theorem forIn_kw {names : List Str} {f : Str × Value → (List (Str × Value)) × List (Str × Value) → Sem (ForInStep ((List (Str × Value)) × List (Str × Value)))} {ex : List (Str × Value)}
    (hf : ∀ k v s, names.contains k = true → (s.lookup k).isSome = false → f (k, v) (s, ex) = pure (.yield (s ++ [(k, v)], ex))) : ∀ (kw s s1 : List (Str × Value)), kwP names kw s = some s1 → forIn kw (s, ex) f = pure (s1, ex)
  | [], s, s1, h => by
    cases h
    rfl
  | (k, v) :: r, s, s1, h => by
    unfold kwP at h
    split at h
    · rename_i hc
      rw [List.forIn_cons, hf k v s hc.1 hc.2]
      simp only [pure_bind]
      exact forIn_kw hf r _ _ h
    · cases h
theorem forIn_add {f : Str × Value → List (Str × Value) → Sem (ForInStep (List (Str × Value)))} (hf : ∀ x s, f x s = pure (.yield (addD s x))) : ∀ (l s : List (Str × Value)), forIn l s f = pure (l.foldl addD s)
  | [], s => rfl
  | x :: r, s => by
    rw [List.forIn_cons, hf x s]
    simp only [pure_bind, List.foldl_cons]
    exact forIn_add hf r _
theorem bind_machine {x qual : Str} {params : Arguments} {body : List Stmt} {scope : Scope} {dV kV doc pm : Value} {an : Option Addr} {cdv ct : Value} {us : List Value} {kw r : List (Str × Value)} {its : List Value}
    (h1 : params.posonlyargs = []) (h2 : params.vararg = none) (h3 : params.kwonlyargs = []) (h4 : params.kwarg = none) (h : bindP (params.args.map (·.arg)) us kw its = some r) :
    ∃ k, bindArgs (PySem.W.fnOf x qual params body scope dV kV doc pm an cdv ct) ⟨us, kw⟩ = seqItems? dV >>= k ∧ k (some its.toArray) = pure r ∧ (its = [] → k none = pure r) := by
  unfold bindP at h
  split at h
  · cases h
  · rename_i s1 e
    split at h
    · rename_i hc
      obtain ⟨c1, c2, c3⟩ := hc
      have hn : ¬ us.length > (params.args.map (·.arg)).length := by omega
      have body_eq : ∀ (d : Option (Array Value)), (d.getD #[]).toList = its → True := fun _ _ => trivial
      unfold bindArgs PySem.W.fnOf
      simp only [h1, h2, h3, h4, List.map_nil, List.nil_append, List.append_nil]
      rw [forIn_kw (names := List.map (fun x => x.arg) params.args) ?_ kw _ s1 e]
      · simp only [pure_bind, hn, decide_false, Bool.false_and, Bool.false_eq_true, if_false, Option.isNone_none, Bool.and_true]
        have q0 : (List.take ((List.map (fun x => x.arg) params.args).length - its.length) (List.map (fun x => x.arg) params.args)).filter (fun n => (List.lookup n s1).isNone) = [] := by
          rw [List.filter_eq_nil_iff]
          intro a ha
          have := List.all_eq_true.mp c3 a ha
          cases z : List.lookup a s1 with
          | none => rw [z] at this; cases this
          | some v => simp
        have fin : ∀ d : Option (Array Value), (d.getD #[]).toList = its → True := fun _ _ => trivial
        refine ⟨_, rfl, ?_, ?_⟩
        · have e1 : List.drop (its.length - (List.map (fun x => x.arg) params.args).length) its = its := by rw [Nat.sub_eq_zero_of_le c2]; rfl
          simp only [Option.getD_some, List.toList_toArray, e1, q0, List.isEmpty_nil, Bool.not_true, Bool.false_eq_true, if_false]
          rw [forIn_add]
          · simp only [pure_bind, List.forIn_nil, List.isEmpty_nil, Bool.not_true, Bool.false_eq_true, if_false]
            exact congrArg pure (Option.some.inj h)
          · intro y z
            unfold addD
            split <;> rfl
        · intro hi
          subst hi
          simp only [Option.getD_none, List.length_nil, List.drop_nil, Nat.sub_zero, List.zip_nil_right, List.foldl_nil] at q0 h ⊢
          simp only [List.length_nil, List.drop_nil, Nat.sub_zero, q0, List.isEmpty_nil, Bool.not_true, Bool.false_eq_true, if_false, List.zip_nil_right, List.forIn_nil, pure_bind]
          exact congrArg pure (Option.some.inj h)
      · intro k v s g1 g2
        simp only [g1, g2, Bool.true_or, if_true, Bool.false_eq_true, if_false]
    · cases h
/-! ### it does not hang on the values -/
def m2 (φ : α → β) (q : Str × α) : Str × β := (q.1, φ q.2)
theorem lk_map (φ : α → β) (x : Str) : ∀ l : List (Str × α), (l.map (m2 φ)).lookup x = (l.lookup x).map φ
  | [] => rfl
  | (y, v) :: l => by
    simp only [List.map_cons, m2, List.lookup_cons]
    cases x == y with
    | true => rfl
    | false => exact lk_map φ x l
theorem kwP_map (φ : α → β) (names : List Str) : ∀ (kw s : List (Str × α)), kwP names (kw.map (m2 φ)) (s.map (m2 φ)) = (kwP names kw s).map (·.map (m2 φ))
  | [], s => rfl
  | (k, v) :: r, s => by
    show kwP names ((k, φ v) :: r.map (m2 φ)) _ = _
    unfold kwP
    rw [lk_map]
    have e : (Option.map φ (List.lookup k s)).isSome = (List.lookup k s).isSome := by cases List.lookup k s <;> rfl
    rw [e]
    split
    · have := kwP_map φ names r (s ++ [(k, v)])
      rwa [List.map_append] at this
    · rfl
theorem addD_map (φ : α → β) : ∀ (l s : List (Str × α)), (l.map (m2 φ)).foldl addD (s.map (m2 φ)) = (l.foldl addD s).map (m2 φ)
  | [], s => rfl
  | x :: r, s => by
    simp only [List.map_cons, List.foldl_cons]
    rw [← addD_map φ r]
    congr 1
    unfold addD
    show (if (List.lookup x.1 (s.map (m2 φ))).isNone = true then _ else _) = _
    rw [lk_map]
    have e : (Option.map φ (List.lookup x.1 s)).isNone = (List.lookup x.1 s).isNone := by cases List.lookup x.1 s <;> rfl
    rw [e]
    split
    · rw [List.map_append]; rfl
    · rfl
theorem zip_m2 (φ : α → β) : ∀ (ns : List Str) (l : List α), ns.zip (l.map φ) = (ns.zip l).map (m2 φ)
  | [], _ => rfl
  | _ :: _, [] => rfl
  | n :: ns, x :: l => by
    show (n, φ x) :: ns.zip (l.map φ) = (n, φ x) :: (ns.zip l).map (m2 φ)
    rw [zip_m2 φ ns l]
theorem bindP_map (φ : α → β) (names : List Str) (us : List α) (kw : List (Str × α)) (its : List α) : bindP names (us.map φ) (kw.map (m2 φ)) (its.map φ) = (bindP names us kw its).map (·.map (m2 φ)) := by
  unfold bindP
  rw [zip_m2, kwP_map]
  cases kwP names kw (names.zip us) with
  | none => rfl
  | some s1 =>
    simp only [Option.map_some, List.length_map]
    have e : ((List.take (names.length - its.length) names).all fun n => (List.lookup n (s1.map (m2 φ))).isSome) = ((List.take (names.length - its.length) names).all fun n => (List.lookup n s1).isSome) := by
      congr 1
      funext n
      rw [lk_map]
      cases List.lookup n s1 <;> rfl
    rw [e]
    split
    · rw [zip_m2, addD_map]
      simp only [Option.map_some, List.map_filterMap]
      congr 2
      funext n
      rw [lk_map]
      cases List.lookup n _ <;> rfl
    · rfl
end
/-- how a call of such a shape goes: np values by position, ks by name, nd defaults -/
def shape (names : List Str) (nd np : Nat) (ks : List Str) : Option (List (Nat ⊕ Nat)) :=
  match bindP (α := Nat ⊕ Nat) names ((List.range np).map .inl) (ks.zip ((List.range ks.length).map fun j => .inl (np + j))) ((List.range nd).map .inr) with
  | some l => if l.map (·.1) = names ∧ (l.all fun q => match q.2 with
      | .inl j => decide (j < np + ks.length)
      | .inr i => decide (i < nd)) = true then some (l.map (·.2)) else none
  | none => none
def codeD (dfl : List D) : Nat ⊕ Nat → Nat ⊕ D
  | .inl j => .inl j
  | .inr i => .inr (dfl.getD i .non)
section
variable {Λ : Lk}
theorem zip_split {β : Type} : ∀ l : List (Str × β), (l.map (·.1)).zip (l.map (·.2)) = l
  | [] => rfl
  | (a, b) :: l => by
    show (a, b) :: (l.map (·.1)).zip (l.map (·.2)) = _
    rw [zip_split l]
theorem list_codes (us ws its : List Value) (f : Nat ⊕ Nat → Value) (h1 : ∀ j, f (.inl j) = (us ++ ws).getD j .none) (h2 : ∀ i, f (.inr i) = its.getD i .none) :
    (List.range us.length).map (fun j => f (.inl j)) = us ∧ (List.range ws.length).map (fun j => f (.inl (us.length + j))) = ws ∧ (List.range its.length).map (fun i => f (.inr i)) = its := by
  refine ⟨?_, ?_, ?_⟩
  · refine List.ext_getElem (by simp) fun n a b => ?_
    rw [List.getElem_map, List.getElem_range, h1]
    rw [List.getD_eq_getElem?_getD, List.getElem?_append_left b, List.getElem?_eq_getElem b]
    rfl
  · refine List.ext_getElem (by simp) fun n a b => ?_
    rw [List.getElem_map, List.getElem_range, h1]
    rw [List.getD_eq_getElem?_getD, List.getElem?_append_right (by omega), Nat.add_sub_cancel_left, List.getElem?_eq_getElem b]
    rfl
  · refine List.ext_getElem (by simp) fun n a b => ?_
    rw [List.getElem_map, List.getElem_range, h2]
    rw [List.getD_eq_getElem?_getD, List.getElem?_eq_getElem b]
    rfl
def pk (us its : List Value) : Nat ⊕ Nat → Value
  | .inl j => us.getD j .none
  | .inr i => its.getD i .none
theorem bnd_run {K : PySem.W.Frag} {x qual : Str} {params : Arguments} {body : List Stmt} {scope : Scope} {dvs : List V} {f : Addr} {fd : FuncData} (F : FunD K x qual params body scope dvs [] f fd)
    (h1 : params.posonlyargs = []) (h2 : params.vararg = none) (h3 : params.kwonlyargs = []) (h4 : params.kwarg = none) {np : Nat} {ks : List Str} {cs : List (Nat ⊕ Nat)} (h : shape (params.args.map (·.arg)) dvs.length np ks = some cs) :
    ∃ its : List Value, Vals dvs its ∧ ∀ (s : Shared) (us ws : List Value), K.In s.heap → us.length = np → ws.length = ks.length →
      BindsTo s fd ⟨us, ks.zip ws⟩ ((params.args.map (·.arg)).zip (cs.map (pk (us ++ ws) its))) ∧ ∀ c ∈ cs, match c with
        | .inl j => j < np + ks.length
        | .inr i => i < dvs.length := by
  obtain ⟨oc, od, dV, kV, doc, pm, an, cdv, ct, osl, rfl, lk, hcd, hD, hK⟩ := F.ex
  have hits : ∃ its : List Value, Vals dvs its ∧ ((dV = .none ∧ its = []) ∨ ∃ T o m, dV = .ref T ∧ K.lookup T = some o ∧ o.data = .seq its.toArray m) := by
    rcases hD with ⟨e, e2⟩ | ⟨_, T, o, its, m, e, lT, oT, rT⟩
    · subst e
      exact ⟨[], .nil, .inl ⟨e2, rfl⟩⟩
    · exact ⟨its, rT, .inr ⟨T, o, m, e, lT, oT⟩⟩
  obtain ⟨its, rT, hV⟩ := hits
  refine ⟨its, rT, fun s us ws X hu hw => ?_⟩
  have li : its.length = dvs.length := rT.length.symm
  let φ : Nat ⊕ Nat → Value := pk (us ++ ws) its
  unfold shape at h
  split at h
  · rename_i l hl
    split at h
    · rename_i hc
      cases h
      obtain ⟨c1, c2, c3⟩ := list_codes us ws its φ (fun _ => rfl) (fun _ => rfl)
      have q := bindP_map φ (params.args.map (·.arg)) ((List.range np).map .inl) (ks.zip ((List.range ks.length).map fun j => .inl (np + j))) ((List.range dvs.length).map .inr)
      rw [hl] at q
      rw [← zip_m2] at q
      simp only [List.map_map] at q
      rw [← hu, ← hw, ← li] at q
      rw [show List.map (φ ∘ Sum.inl) (List.range us.length) = us from c1, show List.map (φ ∘ fun j => Sum.inl (us.length + j)) (List.range ws.length) = ws from c2, show List.map (φ ∘ Sum.inr) (List.range its.length) = its from c3] at q
      have el : l.map (m2 φ) = (params.args.map (·.arg)).zip ((l.map (·.2)).map φ) := by
        rw [zip_m2, ← hc.1, zip_split]
      rw [Option.map_some, el] at q
      refine ⟨?_, fun c hcm => ?_⟩
      · obtain ⟨k, e1, e2, e3⟩ := bind_machine (x := x) (qual := qual) (body := body) (scope := scope) (dV := dV) (kV := kV) (doc := doc) (pm := pm) (an := an) (cdv := cdv) (ct := ct) h1 h2 h3 h4 q
        rcases hV with ⟨rfl, rfl⟩ | ⟨T, o, m, rfl, lT, oT⟩
        · refine .of_eq ?_
          rw [e1]
          show k none = _
          exact e3 rfl
        · exact BindsTo.of_defaults rfl (X _ _ lT) oT e1 e2
      · obtain ⟨q1, q2, q3⟩ := List.mem_map.mp hcm
        have := List.all_eq_true.mp hc.2 q1 q2
        subst q3
        cases z : q1.2 with
        | inl j => rw [z] at this; exact of_decide_eq_true this
        | inr i => rw [z] at this; exact of_decide_eq_true this
    · cases h
  · cases h
theorem valsAt : ∀ {vs : List V} {us : List Value} (i : Nat) (h : i < vs.length) (h2 : i < us.length), Vals vs us → RelV vs[i] us[i]
  | _, _, 0, _, _, .cons a _ => a
  | _, _, i + 1, h, h2, .cons _ b => valsAt i (Nat.lt_of_succ_lt_succ h) (Nat.lt_of_succ_lt_succ h2) b
theorem bd_of {us : List Value} {its : List Value} {dvs : List V} {dds : List D} (rT : Vals dvs its) (hr : dvs.length = dds.length) (hd : ∀ (i : Nat) (v : V) (d : D), dvs[i]? = some v → dds[i]? = some d → ∀ W st H, Sim Λ W st H → Rel Λ W v d) : ∀ cs : List (Nat ⊕ Nat), (∀ c ∈ cs, match c with
        | .inl j => j < us.length
        | .inr i => i < dvs.length) → BdV Λ us (cs.map (codeD dds)) (cs.map (pk us its))
  | [], _ => .nil
  | .inl j :: cs, h => by
    have h0 : j < us.length := h _ List.mem_cons_self
    refine .arg ?_ (bd_of rT hr hd cs fun c hc => h c (List.mem_cons_of_mem _ hc))
    show us[j]? = some (us.getD j .none)
    rw [List.getD_eq_getElem?_getD, List.getElem?_eq_getElem h0]
    rfl
  | .inr i :: cs, h => by
    have h0 : i < dvs.length := h _ List.mem_cons_self
    have hi : i < its.length := by rw [← rT.length]; exact h0
    have hd0 : i < dds.length := by rw [← hr]; exact h0
    show BdV Λ us (.inr (dds.getD i .non) :: _) _
    refine .dflt (v := dvs[i]) ?_ ?_ (bd_of rT hr hd cs fun c hc => h c (List.mem_cons_of_mem _ hc))
    · show RelV dvs[i] (its.getD i .none)
      rw [List.getD_eq_getElem?_getD, List.getElem?_eq_getElem hi]
      exact valsAt i h0 hi rT
    · rw [List.getD_eq_getElem?_getD, List.getElem?_eq_getElem hd0]
      exact hd i _ _ (List.getElem?_eq_getElem h0) (List.getElem?_eq_getElem hd0)
theorem bnd_ok {x qual : Str} {params : Arguments} {body : List Stmt} {scope : Scope} {dvs : List V} {dds : List D} {f : Addr} {fd : FuncData} (F : FunD Λ.K x qual params body scope dvs [] f fd)
    (h1 : params.posonlyargs = []) (h2 : params.vararg = none) (h3 : params.kwonlyargs = []) (h4 : params.kwarg = none) {np : Nat} {ks : List Str} {cs : List (Nat ⊕ Nat)} (hr : dvs.length = dds.length) (hd : ∀ (i : Nat) (v : V) (d : D), dvs[i]? = some v → dds[i]? = some d → ∀ W st H, Sim Λ W st H → Rel Λ W v d)
    (h : shape (params.args.map (·.arg)) dds.length np ks = some cs) : BndOk Λ (params.args.map (·.arg)) fd np ks (cs.map (codeD dds)) := by
  rw [← hr] at h
  obtain ⟨its, rT, go⟩ := bnd_run F h1 h2 h3 h4 h
  intro s us ws X hu hw
  obtain ⟨b, c⟩ := go s us ws X hu hw
  refine ⟨_, b, bd_of rT hr hd cs fun q hq => ?_⟩
  have := c q hq
  cases q with
  | inl j => show j < (us ++ ws).length; rw [List.length_append, hu, hw]; exact this
  | inr i => exact this
end
end Mir

set_option Elab.async false
set_option linter.all false
set_option maxRecDepth 100000
/-! Mir12: a whole program: its table, what the head must show of it, and every def's promise at every depth. -/
namespace Mir
open PySem L2
/-- where a def stands -/
inductive Loc where
  | glo (x : Str) | mth (c m : Str) | prp (c m : Str) | stm (c m : Str)
def recHead (K : PySem.W.Frag) (p : Addr) (t : String) : Addr := match PySem.W.recIn K p t with
  | some (.ref g :: _) => g
  | _ => 0
def stAt (K : PySem.W.Frag) (C : Addr) (m : Str) : Addr := match PySem.W.findCls K (.ref C) (.type "type") m with
  | some (.get _ (.ref p) _ _) => p
  | _ => 0
def Loc.ad (K : PySem.W.Frag) : Loc → Addr
  | .glo x => He.ga K x
  | .mth c m => He.ma K (He.ga K c) m
  | .prp c m => recHead K (He.ma K (He.ga K c) m) "property"
  | .stm c m => recHead K (stAt K (He.ga K c) m) "staticmethod"
/-- a def of the program -/
structure Un where
  loc : Loc
  name : Str
  qual : Str
  params : Arguments
  body : List Stmt
  scope : Scope
  /-- its slots, parameters first -/
  N : List Str
  dfl : List D := []
  leaks : Bool := false
def Un.ps (u : Un) : List Str := u.params.args.map (·.arg)
structure ClsS where
  name : Str
  flds : List Nat
  props : List (Nat × Nat)
  mths : List (Nat × Nat)
  init : Option Nat
inductive GV where
  | int (i : Int) | tup (is : List Int)
def GV.d : GV → D
  | .int i => .int i
  | .tup is => .tup (is.map .int)
structure Pr where
  us : List Un
  bds : List (List S)
  cl : List ClsS
  nm : List Str
  shs : List (Nat × List Str)
  gl : List (Str × GK)
  gv : List GV
  opn : List Pos
  stat : List ((Nat × Str) × Nat)
section
variable (P : Pr)
def Pr.nmx (i : Nat) : Option Str := P.nm[i]?
/-- default values: ints, texts, truths, None -/
def dvD : D → V
  | .int i => .int i
  | .str s => .str s
  | .bl b => .bl b
  | _ => .non
def dflOk : D → Bool
  | .int _ => true
  | .str _ => true
  | .bl _ => true
  | .non => true
  | _ => false
def withIx {α : Type} : Nat → List α → List (α × Nat)
  | _, [] => []
  | i, x :: r => (x, i) :: withIx (i + 1) r
def Pr.tc (u : Un) : Tc where
  N := u.N
  nk := u.scope.names
  gl := P.gl
  nm := withIx 0 P.nm
  sh := withIx 0 P.shs
  opn := fun p => P.opn.contains p
  has := fun c => decide (c < P.cl.length)
  stat := P.stat
def Pr.shp (f i : Nat) : Option (List (Nat ⊕ D)) := match P.us[f]?, P.shs[i]? with
  | some u, some (np, ks) => (shape u.ps u.dfl.length np ks).map (·.map (codeD u.dfl))
  | _, _ => none
def Pr.T : Tab where
  fn := fun f => match P.us[f]?, P.bds[f]? with
    | some u, some b => some ⟨u.ps.length, u.N.length, u.leaks, b⟩
    | _, _ => none
  gl := fun g => (P.gv[g]?).map GV.d
  has := fun c => decide (c < P.cl.length)
  prop := fun c f => (P.cl[c]?).bind fun s => s.props.lookup f
  fld := fun c f => (P.cl[c]?).any fun s => s.flds.contains f
  mth := fun c m => (P.cl[c]?).bind fun s => s.mths.lookup m
  init := fun c => (P.cl[c]?).bind fun s => s.init
  exc := fun _ => none
  shp := P.shp
def Pr.fa (K : PySem.W.Frag) (f : Nat) : Addr := match P.us[f]? with
  | some u => u.loc.ad K
  | none => 0
def Pr.ca (K : PySem.W.Frag) (c : Nat) : Addr := match P.cl[c]? with
  | some s => He.ga K s.name
  | none => 0
def Pr.ps (f : Nat) : List Str := match P.us[f]? with
  | some u => u.ps
  | none => []
/-! ### what is asked of the text alone -/
def fsOk (u : Un) : Bool := (u.scope.kind == .function) && (u.scope.isCoroutine == false) && (u.scope.isGenerator == false) && decide u.N.Nodup && decide (u.N.take u.ps.length = u.ps) &&
  (u.ps.all fun x => u.scope.names.lookup x == some .local || u.scope.names.lookup x == some .cell) && (u.scope.names.all fun y => !(y.2 == .free)) &&
  u.params.posonlyargs.isEmpty && u.params.vararg.isNone && u.params.kwonlyargs.isEmpty && u.params.kwarg.isNone && u.dfl.all dflOk &&
  (match shape u.ps u.dfl.length u.ps.length [] with
    | some cs => decide (cs = (List.range u.ps.length).map .inl)
    | none => false)
def Pr.txt : Bool := (P.us.all fsOk) && decide P.nm.Nodup && decide (P.us.length = P.bds.length) &&
  decide (P.nm[1]? = some (PySem.dunder "add") ∧ P.nm[2]? = some (PySem.dunder "sub") ∧ P.nm[3]? = some (PySem.dunder "mul") ∧ P.nm[4]? = some (PySem.dunder "pow") ∧ P.nm[11]? = some (PySem.dunderR "add") ∧ P.nm[12]? = some (PySem.dunderR "sub") ∧ P.nm[13]? = some (PySem.dunderR "mul")) &&
  decide (P.nm[20]? = some ("__neg__" : Str) ∧ P.nm[21]? = some ("__eq__" : Str) ∧ P.nm[22]? = some ("__bool__" : Str)) &&
  (P.cl.all fun s => (s.mths.all fun q => !(q.1 == 0) && decide (q.2 < P.us.length) && decide (q.1 < P.nm.length)) && (s.props.all fun q => decide (q.1 < P.nm.length)) && (s.flds.all fun q => decide (q < P.nm.length)) && (match s.init with
    | some f => decide (f < P.us.length)
    | none => true)) &&
  (P.gl.all fun q => match q.2 with
    | .fn i => decide (i < P.us.length)
    | .cls c => decide (c < P.cl.length)
    | .val g => decide (g < P.gv.length)
    | .kit => true) && (P.stat.all fun q => decide (q.1.1 < P.cl.length) && decide (q.2 < P.us.length))
/-! ### what the head must show -/
def vEq (a b : Option (Option Value)) : Bool := decide (a = b)
def bEq (a : Option Bool) (b : Bool) : Bool := a == some b
def clsOk (K : PySem.W.Frag) (s : ClsS) : Bool :=
  let C := He.ga K s.name
  (He.Fa.cls s.name).ok K && PySem.W.selfFirst K C &&
  (s.flds.all fun f => vEq (PySem.W.findIn K (.ref C) (P.nm.getD f "")) (some none)) &&
  (s.props.all fun q => let p := He.ma K C (P.nm.getD q.1 "")
    vEq (PySem.W.findIn K (.ref C) (P.nm.getD q.1 "")) (some (some (.ref p))) && vEq (PySem.W.specialIn K (.ref p) "__get__") (some (some (.builtin "property.__get__"))) && bEq (PySem.W.takesIn K (.ref p)) true &&
    (match PySem.W.recIn K p "property" with
      | some (.ref g :: _) => decide (g = P.fa K q.2)
      | _ => false)) &&
  (s.mths.all fun q => vEq (PySem.W.findIn K (.ref C) (P.nm.getD q.1 "")) (some (some (.ref (P.fa K q.2))))) &&
  (match s.init with
    | some f => PySem.W.makesIn K C && vEq (PySem.W.findIn K (.ref C) "__init__") (some (some (.ref (P.fa K f)))) && PySem.W.isFn K (.ref (P.fa K f)) && PySem.W.keepIn K (.ref C)
    | none => true) &&
  ([Operator.Add, .Sub, .Mult, .Pow].all fun op => match PySem.W.findIn K (.ref C) (PySem.dunderR op.info.2) with
    | some none => true
    | some (some (.ref _)) => true
    | _ => false) &&
  bEq (PySem.W.subIn K (.ref C) (.type "int")) false && bEq (PySem.W.subIn K (.ref C) (.type "object")) true &&
  vEq (PySem.W.findIn K (.ref C) "__ne__") (some (some (.builtin "object.__ne__"))) && vEq (PySem.W.findIn K (.ref C) "__class__") (some (some (.builtin "object.__class__"))) && bEq (PySem.W.mroIn K C (.type "object")) true &&
  ((s.mths.lookup dBool).isSome || (vEq (PySem.W.findIn K (.ref C) "__bool__") (some none) && vEq (PySem.W.findIn K (.ref C) "__len__") (some none))) &&
  (["NoneType", "bool", "int", "str", "tuple", "list"].all fun t => bEq (PySem.W.kitOne K (.type t) (.ref C)) false) &&
  (["bool", "int", "str", "tuple", "list"].all fun t => bEq (PySem.W.kitOne K (.ref C) (.type t)) false) &&
  PySem.W.notFirst K C (.ref C) && PySem.W.notFirst K C (.type "int") && decide (C ≠ 0)
def pairsOk (K : PySem.W.Frag) : Bool := (List.range P.cl.length).all fun c => (List.range P.cl.length).all fun d => bEq (PySem.W.kitOne K (.ref (P.ca K c)) (.ref (P.ca K d))) (decide (c = d)) && (decide (c = d) || decide (P.ca K c ≠ P.ca K d))
def glOk (K : PySem.W.Frag) (q : Str × GK) : Bool := match q.2 with
  | .fn i => vEq (PySem.W.nsIn K mainGlobals q.1) (some (some (.ref (P.fa K i)))) && PySem.W.keepIn K (.ref (P.fa K i))
  | .cls c => vEq (PySem.W.nsIn K mainGlobals q.1) (some (some (.ref (P.ca K c)))) && PySem.W.keepIn K (.ref (P.ca K c))
  | .val g => (match P.gv[g]? with
    | some (.int i) => (He.Fa.int q.1 i).ok K
    | some (.tup is) => (He.Fa.glo q.1).ok K && He.tupB K q.1 (is.map .int)
    | none => false)
  | .kit => vEq (PySem.W.nsIn K mainGlobals q.1) (some none)
def statOk (K : PySem.W.Frag) (q : (Nat × Str) × Nat) : Bool :=
  let C := P.ca K q.1.1
  vEq (PySem.W.specialIn K (.ref C) "__getattribute__") (some (some (.builtin "type.__getattribute__"))) && PySem.W.readsIn K C (.type "type") &&
  (match PySem.W.findCls K (.ref C) (.type "type") q.1.2 with
    | some (.get g (.ref p) o t) => decide (g = .builtin "staticmethod.__get__") && decide (o = .none) && decide (t = .ref C) && (match PySem.W.recIn K p "staticmethod" with
      | some (.ref f :: _) => decide (f = P.fa K q.2)
      | _ => false)
    | _ => false) && PySem.W.keepIn K (.ref (P.fa K q.2))
def unOk (K : PySem.W.Frag) (u : Un) : Bool := PySem.W.keepIn K (.ref (u.loc.ad K)) && PySem.W.isFn K (.ref (u.loc.ad K)) && (match K.lookup (u.loc.ad K) with
  | some ⟨_, _, .func fd, _⟩ => PySem.W.codeIn K fd.code u.qual && He.dflB K fd.defaults (u.dfl.map dvD)
  | _ => false)
def Pr.facts (K : PySem.W.Frag) : Bool := (P.us.all (unOk K)) && (P.cl.all (clsOk P K)) && pairsOk P K && (P.gl.all (glOk P K)) && (P.stat.all (statOk P K))
abbrev FnT : Type := Option (Str × Str × Arguments × FuncBody × Scope × Addr × List (Str × Addr) × Addr)
def fnAt (K : PySem.W.Frag) (a : Addr) : FnT := match K.lookup a with
  | some ⟨_, _, .func fd, _⟩ => some (fd.name, fd.qualname, fd.params, fd.body, fd.scope, fd.globals, fd.closure, fd.builtins)
  | _ => none
def Un.val (u : Un) : FnT := some (u.name, u.qual, u.params, .stmts u.body, u.scope, mainGlobals, [], builtinsNs)
abbrev ObT : Type := Bool × List FnT
def Pr.obs (K : PySem.W.Frag) : ObT := (P.facts K, P.us.map fun u => fnAt K (u.loc.ad K))
def Pr.want : ObT := (true, P.us.map Un.val)
def Pr.obG (n : Nat) (g : Addr → Option Obj) : ObT := P.obs (He.frG g (cStatics :: He.asD g n))
def Pr.hook (n : Nat) : PySem.W.Hook where
  α := ObT
  obs := fun s => P.obG n s.heap.get?
  val := fun _ => P.want
  says := fun _ h => ∃ K : PySem.W.Frag, K.In h ∧ P.obs K = P.want
  of := fun _ _ e => ⟨_, He.frG_in, e⟩
  keeps := fun _ _ _ ⟨K, hK, c⟩ k => ⟨K, PySem.W.Frag.In.keeps hK k, c⟩
theorem Pr.obG_eq {n : Nat} {g : Addr → Option Obj} {s : Shared} (h : ∀ a, g a = s.heap.get? a) : P.obG n g = (P.hook n).obs s := by
  rw [show g = s.heap.get? from funext h]
  rfl
def Pr.Λ (K : PySem.W.Frag) (h : P.nm.Nodup) : Lk where
  K := K
  ca := P.ca K
  nm := P.nmx
  sh := fun i => P.shs.getD i (0, [])
  inj := fun i j x hi hj => by
    unfold Pr.nmx at hi hj
    obtain ⟨a, ea⟩ := List.getElem?_eq_some_iff.mp hi
    obtain ⟨b, eb⟩ := List.getElem?_eq_some_iff.mp hj
    have q := List.pairwise_iff_getElem.mp h
    rcases Nat.lt_trichotomy i j with c | c | c
    · exact absurd (ea.trans eb.symm) (q i j a b c)
    · exact c
    · exact absurd (eb.trans ea.symm) (q j i b a c)
end
end Mir

set_option Elab.async false
set_option linter.all false
set_option maxRecDepth 100000
/-! Mir13: what the head shows, in Mir's words. -/
namespace Mir
open PySem L2
section
variable {P : Pr} {K : PySem.W.Frag}
theorem and_t {a b : Bool} (h : (a && b) = true) : a = true ∧ b = true := Bool.and_eq_true_iff.mp h
theorem vEq_ok {a b : Option (Option Value)} (h : vEq a b = true) : a = b := of_decide_eq_true h
theorem bEq_ok {a : Option Bool} {b : Bool} (h : bEq a b = true) : a = some b := eq_of_beq h
structure TxtS (P : Pr) : Prop where
  us : ∀ u ∈ P.us, fsOk u = true
  nd : P.nm.Nodup
  len : P.us.length = P.bds.length
  ops : P.nm[1]? = some (PySem.dunder "add") ∧ P.nm[2]? = some (PySem.dunder "sub") ∧ P.nm[3]? = some (PySem.dunder "mul") ∧ P.nm[4]? = some (PySem.dunder "pow") ∧ P.nm[11]? = some (PySem.dunderR "add") ∧ P.nm[12]? = some (PySem.dunderR "sub") ∧ P.nm[13]? = some (PySem.dunderR "mul")
  un : P.nm[20]? = some ("__neg__" : Str) ∧ P.nm[21]? = some ("__eq__" : Str) ∧ P.nm[22]? = some ("__bool__" : Str)
  mths : ∀ s ∈ P.cl, ∀ q ∈ s.mths, q.1 ≠ 0 ∧ q.2 < P.us.length ∧ q.1 < P.nm.length
  props : ∀ s ∈ P.cl, ∀ q ∈ s.props, q.1 < P.nm.length
  flds : ∀ s ∈ P.cl, ∀ q ∈ s.flds, q < P.nm.length
  gl : ∀ q ∈ P.gl, match q.2 with
    | .fn i => i < P.us.length
    | .cls c => c < P.cl.length
    | .val g => g < P.gv.length
    | .kit => True
  stat : ∀ q ∈ P.stat, q.1.1 < P.cl.length ∧ q.2 < P.us.length
theorem TxtS.of (h : P.txt = true) : TxtS P := by
  unfold Pr.txt at h
  obtain ⟨h, z1⟩ := and_t h
  obtain ⟨h, z2⟩ := and_t h
  obtain ⟨h, z3⟩ := and_t h
  obtain ⟨h, z4⟩ := and_t h
  obtain ⟨h, z5⟩ := and_t h
  obtain ⟨h, z6⟩ := and_t h
  obtain ⟨z8, z7⟩ := and_t h
  have cl : ∀ s ∈ P.cl, _ := List.all_eq_true.mp z3
  refine ⟨List.all_eq_true.mp z8, of_decide_eq_true z7, of_decide_eq_true z6, of_decide_eq_true z5, of_decide_eq_true z4, fun s hs q hq => ?_, fun s hs q hq => ?_, fun s hs q hq => ?_, fun q hq => ?_, fun q hq => ?_⟩
  · have := (and_t (and_t (and_t (cl s hs)).1).1).1
    have := List.all_eq_true.mp this q hq
    obtain ⟨a, b⟩ := and_t this
    obtain ⟨c, d⟩ := and_t a
    exact ⟨by simpa using c, of_decide_eq_true d, of_decide_eq_true b⟩
  · exact of_decide_eq_true (List.all_eq_true.mp (and_t (and_t (and_t (cl s hs)).1).1).2 q hq)
  · exact of_decide_eq_true (List.all_eq_true.mp (and_t (and_t (cl s hs)).1).2 q hq)
  · have := List.all_eq_true.mp z2 q hq
    obtain ⟨x, g⟩ := q
    cases g <;> first | exact of_decide_eq_true this | trivial
  · obtain ⟨a, b⟩ := and_t (List.all_eq_true.mp z1 q hq)
    exact ⟨of_decide_eq_true a, of_decide_eq_true b⟩
structure FacS (P : Pr) (K : PySem.W.Frag) : Prop where
  us : ∀ u ∈ P.us, unOk K u = true
  cl : ∀ s ∈ P.cl, clsOk P K s = true
  prs : pairsOk P K = true
  gl : ∀ q ∈ P.gl, glOk P K q = true
  stat : ∀ q ∈ P.stat, statOk P K q = true
  at_ : ∀ u ∈ P.us, fnAt K (u.loc.ad K) = u.val
theorem map_eq_mem {α β : Type} {f g : α → β} : ∀ {l : List α}, l.map f = l.map g → ∀ x ∈ l, f x = g x
  | [], _, _, h => nomatch h
  | y :: l, e, x, h => by
    simp only [List.map_cons, List.cons.injEq] at e
    rcases List.mem_cons.mp h with q | q
    · rw [q]; exact e.1
    · exact map_eq_mem e.2 x q
theorem FacS.of (h : P.obs K = P.want) : FacS P K := by
  have h1 : P.facts K = true := congrArg (fun z : ObT => z.1) h
  have h2 : P.us.map (fun u => fnAt K (u.loc.ad K)) = P.us.map Un.val := congrArg (fun z : ObT => z.2) h
  unfold Pr.facts at h1
  obtain ⟨h1, z1⟩ := and_t h1
  obtain ⟨h1, z2⟩ := and_t h1
  obtain ⟨h1, z3⟩ := and_t h1
  obtain ⟨z5, z4⟩ := and_t h1
  exact ⟨List.all_eq_true.mp z5, List.all_eq_true.mp z4, z3, List.all_eq_true.mp z2, List.all_eq_true.mp z1, map_eq_mem h2⟩
end
section
variable {P : Pr} {K : PySem.W.Frag} (tx : TxtS P) (fc : FacS P K)
include tx fc
theorem has_cl {c : Nat} (h : (P.T).has c = true) : ∃ s, P.cl[c]? = some s ∧ s ∈ P.cl := by
  have l : c < P.cl.length := of_decide_eq_true h
  exact ⟨_, List.getElem?_eq_getElem l, List.getElem_mem l⟩
theorem cl_has {c : Nat} {s : ClsS} (h : P.cl[c]? = some s) : (P.T).has c = true := decide_eq_true (List.getElem?_eq_some_iff.mp h).1
theorem T_mth {c m f : Nat} (h : (P.T).mth c m = some f) : ∃ s, P.cl[c]? = some s ∧ s ∈ P.cl ∧ (m, f) ∈ s.mths := by
  obtain ⟨s, h1, h2⟩ := Option.bind_eq_some_iff.mp (show (P.cl[c]?).bind _ = _ from h)
  exact ⟨s, h1, List.mem_of_getElem? h1, look_mem2 h2⟩
where look_mem2 : ∀ {l : List (Nat × Nat)} {m f : Nat}, l.lookup m = some f → (m, f) ∈ l
  | [], _, _, h => by cases h
  | (a, b) :: l, m, f, h => by
    rw [List.lookup_cons] at h
    by_cases q : m = a
    · subst q
      simp at h
      subst h
      exact List.mem_cons_self
    · have q2 : (m == a) = false := by simpa using q
      rw [q2] at h
      exact List.mem_cons_of_mem _ (look_mem2 h)
theorem T_prop {c m f : Nat} (h : (P.T).prop c m = some f) : ∃ s, P.cl[c]? = some s ∧ s ∈ P.cl ∧ (m, f) ∈ s.props := by
  obtain ⟨s, h1, h2⟩ := Option.bind_eq_some_iff.mp (show (P.cl[c]?).bind _ = _ from h)
  exact ⟨s, h1, List.mem_of_getElem? h1, T_mth.look_mem2 h2⟩
theorem T_fld {c f : Nat} (h : (P.T).fld c f = true) : ∃ s, P.cl[c]? = some s ∧ s ∈ P.cl ∧ f ∈ s.flds := by
  have h' : (P.cl[c]?).any (fun s => s.flds.contains f) = true := h
  cases e : P.cl[c]? with
  | none => rw [e] at h'; cases h'
  | some s =>
    rw [e] at h'
    exact ⟨s, rfl, List.mem_of_getElem? e, by simpa using h'⟩
theorem nm_get {i : Nat} (h : i < P.nm.length) : (P.Λ K tx.nd).nm i = some (P.nm.getD i "") := by
  show P.nm[i]? = _
  rw [List.getD_eq_getElem?_getD, List.getElem?_eq_getElem h]
  rfl
theorem ca_of {c : Nat} {s : ClsS} (h : P.cl[c]? = some s) : (P.Λ K tx.nd).ca c = He.ga K s.name := by
  show P.ca K c = _
  unfold Pr.ca
  rw [h]
/-- what is told of one class -/
structure ClsF (P : Pr) (K : PySem.W.Frag) (s : ClsS) : Prop where
  c1 : (He.Fa.cls s.name).ok K = true
  c2 : PySem.W.selfFirst K (He.ga K s.name) = true
  c3 : ∀ f ∈ s.flds, PySem.W.findIn K (.ref (He.ga K s.name)) (P.nm.getD f "") = some none
  c4 : ∀ q ∈ s.props, PropOf K (He.ga K s.name) (P.nm.getD q.1 "") (He.ma K (He.ga K s.name) (P.nm.getD q.1 "")) (P.fa K q.2)
  c5 : ∀ q ∈ s.mths, PySem.W.findIn K (.ref (He.ga K s.name)) (P.nm.getD q.1 "") = some (some (.ref (P.fa K q.2)))
  c6 : ∀ f, s.init = some f → Mk K (He.ga K s.name) (P.fa K f)
  c7 : ∀ op ∈ [Operator.Add, .Sub, .Mult, .Pow], ∃ rc, PySem.W.findIn K (.ref (He.ga K s.name)) (PySem.dunderR op.info.2) = some rc ∧ (rc = none ∨ ∃ g : Addr, rc = some (.ref g))
  c8 : PySem.W.subIn K (.ref (He.ga K s.name)) (.type "int") = some false
  c9 : PySem.W.subIn K (.ref (He.ga K s.name)) (.type "object") = some true
  c10 : PySem.W.findIn K (.ref (He.ga K s.name)) "__ne__" = some (some (.builtin "object.__ne__"))
  c11 : PySem.W.findIn K (.ref (He.ga K s.name)) "__class__" = some (some (.builtin "object.__class__"))
  c12 : PySem.W.mroIn K (He.ga K s.name) (.type "object") = some true
  c13 : s.mths.lookup dBool = none → PySem.W.findIn K (.ref (He.ga K s.name)) "__bool__" = some none ∧ PySem.W.findIn K (.ref (He.ga K s.name)) "__len__" = some none
  c14 : ∀ t ∈ ["NoneType", "bool", "int", "str", "tuple", "list"], PySem.W.kitOne K (.type t) (.ref (He.ga K s.name)) = some false
  c15 : ∀ t ∈ ["bool", "int", "str", "tuple", "list"], PySem.W.kitOne K (.ref (He.ga K s.name)) (.type t) = some false
  c16 : PySem.W.notFirst K (He.ga K s.name) (.ref (He.ga K s.name)) = true
  c17 : PySem.W.notFirst K (He.ga K s.name) (.type "int") = true
  c18 : He.ga K s.name ≠ 0
omit tx in
theorem clsF {s : ClsS} (hs : s ∈ P.cl) : ClsF P K s := by
  have h := fc.cl s hs
  unfold clsOk at h
  obtain ⟨h, z18⟩ := and_t h
  obtain ⟨h, z17⟩ := and_t h
  obtain ⟨h, z16⟩ := and_t h
  obtain ⟨h, z15⟩ := and_t h
  obtain ⟨h, z14⟩ := and_t h
  obtain ⟨h, z13⟩ := and_t h
  obtain ⟨h, z12⟩ := and_t h
  obtain ⟨h, z11⟩ := and_t h
  obtain ⟨h, z10⟩ := and_t h
  obtain ⟨h, z9⟩ := and_t h
  obtain ⟨h, z8⟩ := and_t h
  obtain ⟨h, z7⟩ := and_t h
  obtain ⟨h, z6⟩ := and_t h
  obtain ⟨h, z5⟩ := and_t h
  obtain ⟨h, z4⟩ := and_t h
  obtain ⟨h, z3⟩ := and_t h
  obtain ⟨z1, z2⟩ := and_t h
  refine ⟨z1, z2, fun f hf => vEq_ok (List.all_eq_true.mp z3 f hf), fun q hq => ?_, fun q hq => vEq_ok (List.all_eq_true.mp z5 q hq), fun f hf => ?_, fun op hop => ?_, bEq_ok z8, bEq_ok z9, vEq_ok z10, vEq_ok z11, bEq_ok z12, fun hb => ?_, fun t ht => bEq_ok (List.all_eq_true.mp z14 t ht), fun t ht => bEq_ok (List.all_eq_true.mp z15 t ht), z16, z17, of_decide_eq_true z18⟩
  · have y := List.all_eq_true.mp z4 q hq
    obtain ⟨y, y4⟩ := and_t y
    obtain ⟨y, y3⟩ := and_t y
    obtain ⟨y1, y2⟩ := and_t y
    refine ⟨vEq_ok y1, vEq_ok y2, bEq_ok y3, ?_⟩
    split at y4
    · rename_i g rest e
      have eg := of_decide_eq_true y4
      subst eg
      exact ⟨rest, e⟩
    · cases y4
  · rw [hf] at z6
    obtain ⟨y, y4⟩ := and_t z6
    obtain ⟨y, y3⟩ := and_t y
    obtain ⟨y1, y2⟩ := and_t y
    exact ⟨y1, vEq_ok y2, y3, y4⟩
  · have y := List.all_eq_true.mp z7 op hop
    split at y
    · rename_i e
      exact ⟨none, e, .inl rfl⟩
    · rename_i a e
      exact ⟨_, e, .inr ⟨a, rfl⟩⟩
    · cases y
  · rw [hb] at z13
    obtain ⟨y1, y2⟩ := and_t (show (_ && _) = true from z13)
    exact ⟨vEq_ok y1, vEq_ok y2⟩
theorem pairs_ok {c d : Nat} (hc : c < P.cl.length) (hd : d < P.cl.length) : PySem.W.kitOne K (.ref (P.ca K c)) (.ref (P.ca K d)) = some (decide (c = d)) ∧ (c = d ∨ P.ca K c ≠ P.ca K d) := by
  have h := fc.prs
  unfold pairsOk at h
  have y := List.all_eq_true.mp (List.all_eq_true.mp h c (List.mem_range.mpr hc)) d (List.mem_range.mpr hd)
  obtain ⟨y1, y2⟩ := and_t y
  refine ⟨bEq_ok y1, ?_⟩
  rcases Bool.or_eq_true_iff.mp y2 with q | q
  · exact .inl (of_decide_eq_true q)
  · exact .inr (of_decide_eq_true q)
theorem ca_inj {c d : Nat} (hc : c < P.cl.length) (h : P.ca K d = P.ca K c) : d = c := by
  by_cases hd : d < P.cl.length
  · rcases (pairs_ok tx fc hd hc).2 with q | q
    · exact q
    · exact absurd h q
  · exfalso
    have e : P.ca K d = 0 := by
      unfold Pr.ca
      rw [List.getElem?_eq_none (by omega)]
    have e2 : P.ca K c = He.ga K P.cl[c].name := by
      unfold Pr.ca
      rw [List.getElem?_eq_getElem hc]
    exact (clsF fc (List.getElem_mem hc)).c18 (by rw [← e2, ← h, e])
theorem cls_K {c : Nat} (hc : (P.T).has c = true) : ClsK (P.Λ K tx.nd) P.T (P.fa K) c := by
  obtain ⟨s, hs, hm⟩ := has_cl tx fc hc
  have F := clsF fc hm
  have ec := ca_of tx fc hs
  have same : ∀ {s' : ClsS}, P.cl[c]? = some s' → s' = s := fun e => Option.some.inj (e.symm.trans hs)
  refine ⟨by rw [ec]; exact He.cls_ok F.c1, by rw [ec]; exact F.c2, fun f x hx hf => ?_, fun f g hp => ?_, fun m f hp => ?_, fun f hf => ?_, fun op hop => ?_, by rw [ec]; exact F.c8, by rw [ec]; exact F.c9, by rw [ec]; exact F.c10, by rw [ec]; exact ⟨F.c11, F.c12⟩, fun hb => ?_, fun d hd => ca_inj tx fc (of_decide_eq_true hc) hd⟩
  · obtain ⟨s', h1, h2, h3⟩ := T_fld tx fc hf
    cases same h1
    have hx2 := nm_get tx fc (tx.flds s hm f h3)
    rw [hx] at hx2
    cases hx2
    rw [ec]
    exact F.c3 f h3
  · obtain ⟨s', h1, h2, h3⟩ := T_prop tx fc hp
    cases same h1
    exact ⟨_, _, nm_get tx fc (tx.props s hm _ h3), by rw [ec]; exact F.c4 _ h3⟩
  · obtain ⟨s', h1, h2, h3⟩ := T_mth tx fc hp
    cases same h1
    exact ⟨_, nm_get tx fc (tx.mths s hm _ h3).2.2, by rw [ec]; exact F.c5 _ h3⟩
  · have hf' : (P.cl[c]?).bind (fun s => s.init) = some f := hf
    rw [hs] at hf'
    rw [ec]
    exact F.c6 f hf'
  · rw [ec]
    refine F.c7 op ?_
    cases op <;> first | (exact absurd rfl hop) | simp
  · rw [ec]
    refine F.c13 ?_
    have hb' : (P.cl[c]?).bind (fun s => s.mths.lookup dBool) = none := hb
    rw [hs] at hb'
    exact hb'
theorem bk_of : Bk (P.Λ K tx.nd) P.T (P.fa K) := by
  have o := tx.ops
  refine ⟨⟨o.1, o.2.1, o.2.2.1, o.2.2.2.1, o.2.2.2.2.1, o.2.2.2.2.2.1, o.2.2.2.2.2.2, tx.un.1, tx.un.2.1, tx.un.2.2⟩, fun c => ?_, fun c m f h => ?_, fun c m f h => ?_, fun c f g h => ?_, fun c f h => ?_, fun c hc => cls_K tx fc hc, fun c hc t ht => ?_, fun c hc t ht => ?_, fun c d hc hd => ?_, fun c hc => ?_⟩
  · cases e : (P.T).mth c 0 with
    | none => rfl
    | some f =>
      obtain ⟨s, h1, h2, h3⟩ := T_mth tx fc e
      exact absurd rfl (tx.mths s h2 _ h3).1
  · obtain ⟨s, h1, h2, h3⟩ := T_mth tx fc h
    exact cl_has tx fc h1
  · obtain ⟨s, h1, h2, h3⟩ := T_mth tx fc h
    have l := (tx.mths s h2 _ h3).2.1
    show (match P.us[f]?, P.bds[f]? with
      | some u, some b => some (Fn.mk u.ps.length u.N.length u.leaks b)
      | _, _ => none).isSome = true
    rw [List.getElem?_eq_getElem l, List.getElem?_eq_getElem (by rw [← tx.len]; exact l)]
    rfl
  · obtain ⟨s, h1, h2, h3⟩ := T_prop tx fc h
    exact cl_has tx fc h1
  · obtain ⟨s, h1, h2, h3⟩ := T_fld tx fc h
    exact cl_has tx fc h1
  · obtain ⟨s, hs, hm⟩ := has_cl tx fc hc
    rw [ca_of tx fc hs]
    exact (clsF fc hm).c14 t ht
  · obtain ⟨s, hs, hm⟩ := has_cl tx fc hc
    rw [ca_of tx fc hs]
    exact (clsF fc hm).c15 t ht
  · exact (pairs_ok tx fc (of_decide_eq_true hc) (of_decide_eq_true hd)).1
  · obtain ⟨s, hs, hm⟩ := has_cl tx fc hc
    rw [ca_of tx fc hs]
    exact ⟨(clsF fc hm).c16, (clsF fc hm).c17⟩
end
end Mir

set_option Elab.async false
set_option linter.all false
set_option maxRecDepth 100000
/-! Mir14: every def's promise, at every depth. -/
namespace Mir
open PySem L2
section
variable {P : Pr} {K : PySem.W.Frag} (tx : TxtS P) (fc : FacS P K) {mg : Str → Option Value} {h0 : Heap} (X0 : K.In h0) (G0 : h0.Ns mainGlobals mg)
theorem withIx_get {α : Type} [BEq α] [LawfulBEq α] : ∀ (l : List α) (n : Nat) {x : α} {i : Nat}, (withIx n l).lookup x = some i → n ≤ i ∧ l[i - n]? = some x
  | [], n, x, i, h => by cases h
  | y :: l, n, x, i, h => by
    unfold withIx at h
    rw [List.lookup_cons] at h
    by_cases q : x = y
    · subst q
      simp at h
      subst h
      simp
    · have q2 : (x == y) = false := by simpa using q
      rw [q2] at h
      obtain ⟨a, b⟩ := withIx_get l (n + 1) h
      refine ⟨by omega, ?_⟩
      rw [show i - n = (i - (n + 1)) + 1 by omega]
      exact b
theorem lookMem : ∀ {l : List (Str × GK)} {x : Str} {g : GK}, l.lookup x = some g → (x, g) ∈ l := look_mem
theorem lookMem2 : ∀ {l : List ((Nat × Str) × Nat)} {x : Nat × Str} {g : Nat}, l.lookup x = some g → (x, g) ∈ l
  | [], _, _, h => by cases h
  | (y, c) :: l, x, b, h => by
    rw [List.lookup_cons] at h
    by_cases q : x = y
    · subst q
      simp at h
      subst h
      exact List.mem_cons_self
    · have q2 : (x == y) = false := by simpa using q
      rw [q2] at h
      exact List.mem_cons_of_mem _ (lookMem2 h)
include tx fc
theorem unD {u : Un} (hu : u ∈ P.us) : ∃ fd, FunD K u.name u.qual u.params u.body u.scope (u.dfl.map dvD) [] (u.loc.ad K) fd ∧ PySem.W.keepIn K (.ref (u.loc.ad K)) = true ∧ PySem.W.isFn K (.ref (u.loc.ad K)) = true := by
  have h := fc.us u hu
  have e := fc.at_ u hu
  unfold unOk at h
  obtain ⟨h, z3⟩ := and_t h
  obtain ⟨z1, z2⟩ := and_t h
  unfold fnAt at e
  cases q : K.lookup (u.loc.ad K) with
  | none => rw [q] at z3; cases z3
  | some o =>
    obtain ⟨oc, od, dt, osl⟩ := o
    rw [q] at z3 e
    cases dt with
    | func fd =>
      obtain ⟨n1, n2, n3, n4, n5, n6, n7, n8, n9, n10, n11, n12, n13, n14, n15⟩ := fd
      have e2 : (some (n1, n2, n3, n4, n5, n6, n7, n15) : FnT) = u.val := e
      unfold Un.val at e2
      simp only [Option.some.injEq, Prod.mk.injEq] at e2
      obtain ⟨q1, q2, q3, q4, q5, q6, q7, q8⟩ := e2
      subst q1 q2 q3 q4 q5 q6 q7 q8
      obtain ⟨k1, k2⟩ := and_t (show (PySem.W.codeIn K n13 u.qual && He.dflB K n8 (u.dfl.map dvD)) = true from z3)
      exact ⟨_, ⟨⟨oc, od, n8, n9, n10, n11, n12, n13, n14, osl, rfl, q, k1, He.dflB_ok k2, .inl rfl⟩, z1⟩, z1, z2⟩
    | _ => cases z3
include X0 G0
theorem glS {x : Str} {g : GK} (h : P.gl.lookup x = some g) : glOk P K (x, g) = true := fc.gl _ (lookMem h)
theorem relInts (W : Wd) (Λ : Lk) : ∀ is : List Int, RelL Λ W (is.map V.int) (is.map D.int)
  | [] => .nil
  | i :: is => .cons (.int i) (relInts W Λ is)
theorem tok_of {u : Un} (hu : u ∈ P.us) {Pg : Program} {w : World} {base : Heap} {f : Addr} {cdv : Value} {A : Around} {outer : List Env} {s : Shared} {H : Hp} {E : XK} :
    Tok (P.Λ K tx.nd) P.T (P.fa K) (P.tc u) (cxOf (L2.CX Pg w) Pg w K mg base u.N u.qual u.scope f cdv A outer s H E) := by
  have t := tx.us u hu
  unfold fsOk at t
  obtain ⟨t, z13⟩ := and_t t
  obtain ⟨t, z12⟩ := and_t t
  obtain ⟨t, z11⟩ := and_t t
  obtain ⟨t, z10⟩ := and_t t
  obtain ⟨t, z9⟩ := and_t t
  obtain ⟨t, z8⟩ := and_t t
  obtain ⟨t, z7⟩ := and_t t
  obtain ⟨t, z6⟩ := and_t t
  obtain ⟨t, z5⟩ := and_t t
  obtain ⟨t, z4⟩ := and_t t
  obtain ⟨t, z3⟩ := and_t t
  obtain ⟨z1, z2⟩ := and_t t
  refine ⟨rfl, of_decide_eq_true z4, fun x h => h, fun x h => h, fun x h => .inr h, fun x h => h, fun x i h => ?_, fun x i h => ?_, fun x g h => ?_, fun x h => ?_, fun x g h => ?_, fun np ks i h => ?_, fun i => rfl, fun i x g h => ?_, ?_⟩
  · have q := glS tx fc X0 G0 h
    obtain ⟨q1, q2⟩ := and_t (show (_ && _) = true from q)
    exact ⟨PySem.W.mg_of X0 G0 (vEq_ok q1), q2⟩
  · have q := glS tx fc X0 G0 h
    obtain ⟨q1, q2⟩ := and_t (show (_ && _) = true from q)
    exact ⟨decide_eq_true (tx.gl _ (lookMem h)), PySem.W.mg_of X0 G0 (vEq_ok q1), q2⟩
  · have q := glS tx fc X0 G0 h
    unfold glOk at q
    dsimp only at q
    split at q
    · rename_i i e
      obtain ⟨tk, q2⟩ := He.int_ok X0 G0 q
      exact ⟨_, .int i, .int i, q2, ⟨tk, rfl⟩, by show (P.gv[g]?).map GV.d = _; rw [e]; rfl, fun _ _ _ _ => .int i⟩
    · rename_i is e
      obtain ⟨q1, q2⟩ := and_t q
      refine ⟨_, .ref (He.ga K x), .tup (is.map .int), He.glo_ok X0 G0 q1, rfl, by show (P.gv[g]?).map GV.d = _; rw [e]; rfl, fun W st H _ => ?_⟩
      have r := He.tupB_ok q2 W.G
      rw [List.map_map] at r
      exact .tup r (relInts tx fc X0 G0 W _ is)
    · cases q
  · have q := glS tx fc X0 G0 h
    exact PySem.W.mg_none_of X0 G0 (vEq_ok q)
  · exact (withIx_get P.nm 0 h).2
  · have q := (withIx_get P.shs 0 h).2
    show P.shs.getD i (0, []) = _
    rw [List.getD_eq_getElem?_getD, show P.shs[i]? = some (np, ks) from q]
    rfl
  · have q := fc.stat _ (lookMem2 h)
    unfold statOk at q
    obtain ⟨q, q4⟩ := and_t q
    obtain ⟨q, q3⟩ := and_t q
    obtain ⟨q1, q2⟩ := and_t q
    dsimp only at q1 q2 q3 q4
    split at q3
    · rename_i g' p o t' e
      obtain ⟨q3, q5⟩ := and_t q3
      obtain ⟨q3, q6⟩ := and_t q3
      obtain ⟨q7, q8⟩ := and_t q3
      have e1 := of_decide_eq_true q7
      have e2 := of_decide_eq_true q8
      have e3 := of_decide_eq_true q6
      subst e1 e2 e3
      split at q5
      · rename_i f' rest e4
        have e5 := of_decide_eq_true q5
        subst e5
        exact ⟨_, _, _, vEq_ok q1, q2, e, e4, q4⟩
      · cases q5
    · cases q3
  · have e := eq_of_beq z1
    show (if u.scope.kind.isAnnotationScope then ScopeKind.function else u.scope.kind) = _
    rw [e]
    rfl
/-- the bodies are the written ones -/
def Pr.Trd (P : Pr) (m n : Nat) : Prop := P.us.map (fun u => trSs (trS m n (P.tc u)) u.body) = P.bds.map some
omit fc X0 G0 in
theorem fsc {u : Un} (hu : u ∈ P.us) : FnScope u.N u.ps u.scope ∧ u.params.posonlyargs = [] ∧ u.params.vararg = none ∧ u.params.kwonlyargs = [] ∧ u.params.kwarg = none ∧ (∀ d ∈ u.dfl, dflOk d = true) ∧ shape u.ps u.dfl.length u.ps.length [] = some ((List.range u.ps.length).map .inl) := by
  have t := tx.us u hu
  unfold fsOk at t
  obtain ⟨t, z13⟩ := and_t t
  obtain ⟨t, z12⟩ := and_t t
  obtain ⟨t, z11⟩ := and_t t
  obtain ⟨t, z10⟩ := and_t t
  obtain ⟨t, z9⟩ := and_t t
  obtain ⟨t, z8⟩ := and_t t
  obtain ⟨t, z7⟩ := and_t t
  obtain ⟨t, z6⟩ := and_t t
  obtain ⟨t, z5⟩ := and_t t
  obtain ⟨t, z4⟩ := and_t t
  obtain ⟨t, z3⟩ := and_t t
  obtain ⟨z1, z2⟩ := and_t t
  refine ⟨⟨eq_of_beq z1, eq_of_beq z2, eq_of_beq z3, of_decide_eq_true z4, of_decide_eq_true z5, fun x hx => ?_, fun y hy => ?_⟩, by simpa using z8, by simpa using z9, by simpa using z10, by simpa using z11, List.all_eq_true.mp z12, ?_⟩
  · rcases Bool.or_eq_true_iff.mp (List.all_eq_true.mp z6 x hx) with q | q
    · exact .inl (by simpa using q)
    · exact .inr (by simpa using q)
  · have := List.all_eq_true.mp z7 y hy
    intro e
    rw [e] at this
    cases this
  · split at z13
    · rename_i cs e
      rw [e, of_decide_eq_true z13]
    · cases z13
omit tx fc X0 G0 in
theorem dfl_rel {dfl : List D} (h : ∀ d ∈ dfl, dflOk d = true) (Λ : Lk) (i : Nat) (v : V) (d : D) (hv : (dfl.map dvD)[i]? = some v) (hd : dfl[i]? = some d) (W : Wd) (st : Sto) (H : Hp) (S : Sim Λ W st H) : Rel Λ W v d := by
  rw [List.getElem?_map, hd] at hv
  cases hv
  have := h d (List.mem_of_getElem? hd)
  cases d <;> first | (cases this; done) | exact .non | exact .int _ | exact .str _ | exact .bl _
omit tx fc X0 G0 in
theorem shape_len {names : List Str} {nd np : Nat} {ks : List Str} {cs : List (Nat ⊕ Nat)} (h : shape names nd np ks = some cs) : cs.length = names.length := by
  unfold shape at h
  split at h
  · split at h
    · rename_i hc
      cases h
      rw [← hc.1, List.length_map, List.length_map]
    · cases h
  · cases h
omit fc X0 G0 in
theorem fn_at {f : Nat} {fn : Fn} (h : (P.T).fn f = some fn) : ∃ u b, P.us[f]? = some u ∧ u ∈ P.us ∧ P.bds[f]? = some b ∧ fn = ⟨u.ps.length, u.N.length, u.leaks, b⟩ := by
  have h' : (match P.us[f]?, P.bds[f]? with
    | some u, some b => some (Fn.mk u.ps.length u.N.length u.leaks b)
    | _, _ => none) = some fn := h
  split at h'
  · rename_i u b e1 e2
    cases h'
    exact ⟨u, b, e1, List.mem_of_getElem? e1, e2, rfl⟩
  · cases h'
theorem kn_all {m n : Nat} (tr : P.Trd m n) {Pg : Program} {w : World} {base : Heap} : ∀ j, Kn (P.Λ K tx.nd) P.T (run P.T j) (3 * j) (P.fa K) P.ps Pg w mg base := by
  have main : ∀ j, (∀ f u b, P.us[f]? = some u → P.bds[f]? = some b → u ∈ P.us → ∀ fd, FunD K u.name u.qual u.params u.body u.scope (u.dfl.map dvD) [] (u.loc.ad K) fd → FnG Pg w K mg base (3 * j) (u.loc.ad K) fd u.ps (spD (P.Λ K tx.nd) (run P.T j f))) →
      Kn (P.Λ K tx.nd) P.T (run P.T j) (3 * j) (P.fa K) P.ps Pg w mg base := by
    intro j hF
    refine ⟨fun f fn hT => ?_, fun f ds st h => ?_, fun f fn ds st h hl => ?_⟩
    · obtain ⟨u, b, e1, hu, e2, rfl⟩ := fn_at tx hT
      have eps : P.ps f = u.ps := by unfold Pr.ps; rw [e1]
      have efa : P.fa K f = u.loc.ad K := by unfold Pr.fa; rw [e1]
      obtain ⟨fd, FD, k1, k2⟩ := unD tx fc hu
      obtain ⟨S, p1, p2, p3, p4, dok, hsh⟩ := fsc tx hu
      rw [eps, efa]
      refine ⟨rfl, fd, hF f u b e1 e2 hu fd FD, fun s us hK hl => ?_, k1, k2, fun i bd hbd => ?_⟩
      · have hd : shape (u.params.args.map (·.arg)) (u.dfl.map dvD).length u.ps.length [] = some ((List.range u.ps.length).map .inl) := by rw [List.length_map]; exact hsh
        obtain ⟨its, rT, go⟩ := bnd_run FD p1 p2 p3 p4 hd
        obtain ⟨q, _⟩ := go s us [] hK hl rfl
        rw [List.map_map] at q
        have e : (List.range u.ps.length).map (pk (us ++ []) its ∘ Sum.inl) = us := by
          rw [← hl]
          exact (list_codes us [] its (pk (us ++ []) its) (fun _ => rfl) (fun _ => rfl)).1
        rw [e] at q
        exact q
      · have hb' : (match P.us[f]?, P.shs[i]? with
          | some u, some (np, ks) => (shape u.ps u.dfl.length np ks).map (·.map (codeD u.dfl))
          | _, _ => none) = some bd := hbd
        rw [e1] at hb'
        split at hb'
        · rename_i u' np ks eu es
          cases eu
          obtain ⟨cs, hcs, rfl⟩ := Option.map_eq_some_iff.mp hb'
          refine ⟨by rw [List.length_map]; exact shape_len hcs, ?_⟩
          have ei : (P.Λ K tx.nd).sh i = (np, ks) := by
            show P.shs.getD i (0, []) = _
            rw [List.getD_eq_getElem?_getD, es]
            rfl
          rw [ei]
          exact bnd_ok (Λ := P.Λ K tx.nd) FD p1 p2 p3 p4 (by rw [List.length_map]) (dfl_rel dok _) hcs
        · cases hb'
    · cases j with
      | zero => rfl
      | succ j => simp only [run, h]
    · cases j with
      | zero => rfl
      | succ j => simp only [run, h, if_neg hl]
  intro j
  induction j with
  | zero =>
    refine main 0 fun f u b e1 e2 hu fd FD => ⟨fun A out s H args us vs Q E g e0 hb hl r sp => ?_⟩
    obtain ⟨W, st, ds, S, rl, p⟩ := sp
    exact p.elim
  | succ j ih =>
    refine main (j + 1) fun f u b e1 e2 hu fd FD => ?_
    obtain ⟨oc, od, dV, kV, doc, pm, an, cdv, ct, osl, rfl, lk, hcd, _, _⟩ := FD.ex
    obtain ⟨S, p1, p2, p3, p4, dok, hsh⟩ := fsc tx hu
    refine fnG_of (k := 3 * j + 2) lk hcd S fun A outer s H vs Q E hg hl hsp => ?_
    have hT : (P.T).fn f = some ⟨u.ps.length, u.N.length, u.leaks, b⟩ := by
      show (match P.us[f]?, P.bds[f]? with
        | some u, some b => some (Fn.mk u.ps.length u.N.length u.leaks b)
        | _, _ => none) = _
      rw [e1, e2]
    have hb : trSs (trS m n (P.tc u)) u.body = some b := by
      have q := congrArg (fun l => l[f]?) tr
      rw [List.getElem?_map, List.getElem?_map, e1, e2] at q
      exact Option.some.inj q
    have ev : Ev (P.Λ K tx.nd) P.T (run P.T j) (3 * j) (P.fa K) P.ps (cxOf (L2.CX Pg w) Pg w K mg base u.N u.qual u.scope (u.loc.ad K) cdv A outer s H E) E :=
      ⟨ih, bk_of tx fc, rfl, hg, takes_of rfl rfl rfl rfl, rfl⟩
    exact ⟨_, trSs_ok (trS_ok ev (tok_of tx fc X0 G0 hu) (passes_of rfl) m n) hb, body_P hT rfl hsp⟩
end
end Mir

set_option Elab.async false
set_option linter.all false
set_option maxRecDepth 100000
/-! Mir15: the end: a law holds if the program of Mir says so. -/
namespace Mir
open PySem L2 PySem.Spec PyProof.Rows
/-- one list that others hold -/
def oneH (a : Addr) (vs : List Value) (ns : List Int) : Hp := fun c => if c = a then some (.frz { cls := .type "list", data := .seq vs.toArray } (.lst (ns.map V.int))) else none
theorem end_core {Pg : Program} {w : World} {K : PySem.W.Frag} {mg mb : Str → Option Value} {k : Nat} {fa a : Addr} {x : Str} {sp : Sp} {s1 : Shared} {vs : List Value}
    (KX : K.In s1.heap) (n1 : s1.heap.Ns mainGlobals mg) (n2 : s1.heap.Ns builtinsNs mb) (n3 : ∀ y : Str, y ≠ "__name__" → mb y = bootBuiltins y) (n4 : s1.heap.NoLimit) (hg : s1.gens = #[])
    (ha : s1.heap.get? a = some { cls := .type "list", data := .seq vs.toArray }) (rm : Good k callerA)
    (F : ∀ base : Heap, K.In base → base.Ns mainGlobals mg → ∃ fd, FnG Pg w K mg base k fa fd [x] sp ∧ BindsTo s1 fd ⟨[.ref a], []⟩ ([x].zip [.ref a]))
    {H : Hp} (only : ∀ c u, H c = some u → c = a ∧ ∃ xs, u = .frz { cls := .type "list", data := .seq vs.toArray } (.lst xs)) (ok : HOk Pg w H s1.heap) (ka : ∀ u, H a = some u → K.lookup a = none)
    (hsp : sp [.ref a] H (fun v _ => v = .bl true) fun _ _ _ => False) :
    codeAny (model Pg w) callerA (.call (.ref fa) ⟨[.ref a], []⟩) (fun r s' => r = .ok (.ret (.bool true)) ∧ OldK s1.heap s'.heap ∧ s'.os = s1.os ∧ AllBare s'.gens) s1 := by
  have free : ∀ {c : Addr} {o : Obj}, s1.heap.get? c = some o → (∀ xs, c = a → o ≠ { cls := .type "list", data := .seq xs }) → H c = none := fun {c o} e ne => by
    cases q : H c with
    | none => rfl
    | some u =>
      obtain ⟨rfl, _⟩ := only c u q
      rw [ha] at e
      exact absurd (Option.some.inj e).symm (ne _ rfl)
  have names : ∀ {c : Addr} {m : Str → Option Value}, s1.heap.Ns c m → (hidT s1.heap H).Ns c m := fun {c m} ⟨o, es, ep, e, d, r⟩ =>
    ⟨o, es, ep, hidT_get e (free e fun xs _ z => by subst z; cases d), d, r⟩
  have inK : K.In (hidT s1.heap H) := fun c o e => hidT_get (KX c o e) (by
    cases q : H c with
    | none => rfl
    | some u =>
      obtain ⟨rfl, _⟩ := only c u q
      rw [ka u q] at e
      cases e)
  have md : Mod K mg (hidT s1.heap H) := ⟨inK, names n1, ⟨mb, names n2, n3⟩, by
    obtain ⟨mc, h1, h2⟩ := n4
    exact ⟨mc, names h1, h2⟩⟩
  have e0 : Env0 Pg w K mg (hidT s1.heap H) callerA [] s1 H :=
    ⟨rfl, md, fun c o e => of_hidT e, Nat.le_of_eq (hidT_size _ _), trivial, fun c hc => (by cases hc), ok, .of_eq hg⟩
  obtain ⟨fd, F1, hb⟩ := F _ inK (names n1)
  refine codeAny_mono (F1.run callerA [] s1 H ⟨[.ref a], []⟩ [.ref a] [.ref a] _ _ rm e0 hb rfl (.cons rfl .nil) hsp) fun r s' z => ?_
  cases r with
  | error e =>
    obtain ⟨_, _, _, _, _, _, _, _, _, _, _, _, y⟩ := z
    exact y.elim
  | ok fl =>
    cases fl <;> first | exact z.elim | skip
    obtain ⟨v, H', os, bare, un, ok', rv, q⟩ := z
    obtain rfl : v = .bl true := q
    obtain rfl := rv
    refine ⟨rfl, OldK.of_keep fun c o e => ?_, os, bare⟩
    cases q : H c with
    | none => exact un.keep c o e q (fun y => by cases y) (by simp)
    | some u =>
      obtain ⟨rfl, xs, rfl⟩ := only c u q
      obtain ⟨e1, _⟩ := ok c _ q
      obtain ⟨e2, _⟩ := ok' c _ (un.frzs c _ _ q)
      rw [e] at e1
      cases e1
      exact e2
/-- the heap at the start, in Mir's words -/
theorem start_sp {Λ : Lk} {g : List D → Sto → R D} {H : Hp} {a : Addr} {ns : List Int} (hS : SqL Λ.K H a (ns.map V.int)) (h : ∃ st, g [.scr (ns.map .int)] [] = .ok (.bl true) st) : spD Λ g [.ref a] H (fun v _ => v = .bl true) fun _ _ _ => False := by
  obtain ⟨st, h⟩ := h
  have ri : ∀ (W : Wd) (is : List Int), RelL Λ W (is.map V.int) (is.map D.int) := fun W is => by
    induction is with
    | nil => exact .nil
    | cons i is ih => exact .cons (.int i) ih
  refine ⟨⟨H, fun _ => none, 0, fun _ => none⟩, [], [.scr (ns.map .int)], ⟨rfl, Same.refl _, fun n c e => ?_, fun n m c e => ?_, fun c o e => ?_, fun c o e => ?_⟩, .cons (.scr hS (ri _ _)) .nil, ?_⟩
  · cases e
  · exact absurd e (Nat.not_lt_zero _)
  · cases e
  · cases e
  · rw [h]
    intro W' v H' le S' r
    cases r
    rfl
theorem room200 : Good 60 callerA := ⟨⟨rfl, by decide, by decide⟩, rfl⟩
section
variable {P : Pr} {l : PySem.W.OpenLaw} {m n j : Nat}
/-- the walk's goal: the head's facts, the bodies as written, and what the program of Mir does -/
theorem walk_mir {q : Program} {loose : List Str} {XP : (Str → Option Value) → Heap → Prop} {d : DefRec} {nn hn : Nat} {i : Nat} {x : Str} {u : Un} (tt : P.txt = true) (tr : P.Trd m n)
    (h1 : l.most = some nn) (h2 : nn ≤ sizeLine) (hdf : d.params.defaults = []) (hi : P.us[i]? = some u) (hx : u.ps = [x]) (hgl : P.gl.lookup d.name = some (.fn i)) (hj : 3 * j ≤ 60)
    (law : ∀ ns : List Int, ns.length ≤ nn → ∃ st, run P.T j i [.scr (ns.map .int)] [] = .ok (.bl true) st) :
    PySem.W.WalkO q loose XP (P.hook hn).says l.row.toRowW d [] (fun f vs => PySem.call f vs) := by
  refine Att.attach_call h1 hdf fun w s₀ s1 mg mb fa o pm cd doc a vs ns G Y ho hd hcd hmg hobj hints hlen hg => ?_
  obtain ⟨K, KX, c⟩ := Y
  have tx := TxtS.of tt
  have fc := FacS.of c
  have hm : u ∈ P.us := List.mem_of_getElem? hi
  have li := (List.getElem?_eq_some_iff.mp hi).1
  have hT : (P.T).fn i = some ⟨u.ps.length, u.N.length, u.leaks, P.bds[i]'(by rw [← tx.len]; exact li)⟩ := by
    show (match P.us[i]?, P.bds[i]? with
      | some u, some b => some (Fn.mk u.ps.length u.N.length u.leaks b)
      | _, _ => none) = _
    rw [hi, List.getElem?_eq_getElem (by rw [← tx.len]; exact li)]
  have efa : fa = P.fa K i := by
    obtain ⟨q1, _⟩ := and_t (show (_ && _) = true from glS tx fc KX G.T.g hgl)
    have := hmg.symm.trans (PySem.W.mg_of KX G.T.g (vEq_ok q1))
    cases this
    rfl
  subst efa
  have eps : P.ps i = [x] := by unfold Pr.ps; rw [hi]; exact hx
  have F : ∀ base : Heap, K.In base → base.Ns mainGlobals mg → ∃ fd, FnG l.prog w K mg base (3 * j) (P.fa K i) fd [x] (spD (P.Λ K tx.nd) (run P.T j i)) ∧ BindsTo s1 fd ⟨[.ref a], []⟩ ([x].zip [.ref a]) := by
    intro base X0 G0
    obtain ⟨_, fd, f1, f2, _⟩ := (kn_all tx fc X0 G0 tr (Pg := l.prog) (w := w) (base := base) j).fns i _ hT
    rw [eps] at f1 f2
    exact ⟨fd, f1, f2 s1 [.ref a] KX rfl⟩
  have fin : ∀ H : Hp, SqL K H a (ns.map V.int) → spD (P.Λ K tx.nd) (run P.T j i) [.ref a] H (fun v _ => v = .bl true) fun _ _ _ => False := fun H hS => start_sp (Λ := P.Λ K tx.nd) hS (law ns hlen)
  have rv := vals_ints hints
  have rm : Good (3 * j) callerA := room200.mono hj
  have hl2 : (ns.map V.int).length ≤ sizeLine := by rw [List.length_map]; omega
  cases hk : K.lookup a with
  | some o' =>
    have e := KX a o' hk
    rw [hobj] at e
    cases e
    refine end_core (H := fun _ => none) KX G.T.g G.T.b G.T.builtins G.T.nolimit hg hobj rm F (fun c u z => by cases z) (fun b u z => by cases z) (fun u z => by cases z) (fin _ (.inr ⟨_, vs.toArray, _, hk, rfl, rfl, rfl, ?_, by simpa using rv⟩))
    rw [List.size_toArray, hints.length]
    omega
  | none =>
    refine end_core (H := oneH a vs ns) KX G.T.g G.T.b G.T.builtins G.T.nolimit hg hobj rm F (fun c u z => ?_) (fun c u z => ?_) (fun _ _ => hk) (fin _ (.inl (.inr ⟨{ cls := .type "list", data := .seq vs.toArray }, if_pos rfl⟩)))
    · unfold oneH at z
      split at z
      · rename_i ec
        cases z
        exact ⟨ec, _, rfl⟩
      · cases z
    · unfold oneH at z
      split at z
      · rename_i ec
        cases z
        subst ec
        exact ⟨hobj, hl2, vs, _, rv, hobj⟩
      · cases z
end
end Mir

set_option Elab.async false
set_option linter.all false
/-! Mir16: how simp runs a program of Mir: what stands first is run first. -/
namespace Mir
open PySem
/-! what goes on behind is borne as an instance: simp does not enter it ahead of what stands first -/
class KR (α β : Type) where
  f : α → Sto → R β
class KO (α : Type) where
  f : α → Sto → O
class KS where
  f : Sl → Sto → O
class KF where
  ok : Sto → Prop
  tg : D → Sl → Sto → R Sl
  body : Sl → Sto → O
class KW where
  c : Sl → Sto → R Bool
  body : Sl → Sto → O
class KC where
  ok : Sto → Prop
  tg : D → Sl → Sto → R Sl
  ifs : Sl → Sto → R Bool
  elt : Sl → Sto → R D
def bindT {α β : Type} (r : R α) [k : KR α β] : R β := r.bind k.f
def toOT {α : Type} (r : R α) [k : KO α] : O := toO r k.f
def thenT (r : O) [k : KS] : O := r.then_ k.f
noncomputable def forDT [k : KF] (l : List D) (σ : Sl) (st : Sto) : O := forD k.ok k.tg k.body l σ st
def whlDT [k : KW] (n : Nat) (σ : Sl) (st : Sto) : O := whlD k.c k.body n σ st
noncomputable def compDT [k : KC] (l : List D) (σ : Sl) (st : Sto) : R (List D) := compD k.ok k.tg k.ifs k.elt l σ st
theorem bind_t {α β : Type} (r : R α) (f : α → Sto → R β) : r.bind f = @bindT α β r (KR.mk f) := rfl
theorem toO_t {α : Type} (r : R α) (f : α → Sto → O) : toO r f = @toOT α r (KO.mk f) := rfl
theorem then_t (r : O) (f : Sl → Sto → O) : r.then_ f = @thenT r (KS.mk f) := rfl
theorem forD_t (ok : Sto → Prop) (tg : D → Sl → Sto → R Sl) (body : Sl → Sto → O) (l : List D) (σ : Sl) (st : Sto) : forD ok tg body l σ st = @forDT (KF.mk ok tg body) l σ st := rfl
theorem whlD_t (c : Sl → Sto → R Bool) (body : Sl → Sto → O) (n : Nat) (σ : Sl) (st : Sto) : whlD c body n σ st = @whlDT (KW.mk c body) n σ st := rfl
theorem compD_t (ok : Sto → Prop) (tg : D → Sl → Sto → R Sl) (ifs : Sl → Sto → R Bool) (elt : Sl → Sto → R D) (l : List D) (σ : Sl) (st : Sto) : compD ok tg ifs elt l σ st = @compDT (KC.mk ok tg ifs elt) l σ st := rfl
theorem bindT_ok {α β : Type} (a : α) (st : Sto) (f : α → Sto → R β) : @bindT α β (R.ok a st) (KR.mk f) = f a st := rfl
theorem bindT_ex {α β : Type} (c : Nat) (fs : List (Nat × D)) (st : Sto) (k : KR α β) : @bindT α β (R.ex c fs st) k = .ex c fs st := rfl
theorem bindT_no {α β : Type} (k : KR α β) : @bindT α β .no k = .no := rfl
theorem toOT_ok {α : Type} (a : α) (st : Sto) (f : α → Sto → O) : @toOT α (R.ok a st) (KO.mk f) = f a st := rfl
theorem toOT_ex {α : Type} (c : Nat) (fs : List (Nat × D)) (st : Sto) (k : KO α) : @toOT α (R.ex c fs st) k = .ex c fs st := rfl
theorem thenT_nxt (σ : Sl) (st : Sto) (f : Sl → Sto → O) : @thenT (O.nxt σ st) (KS.mk f) = f σ st := rfl
theorem thenT_ret (d : D) (st : Sto) (k : KS) : @thenT (O.ret d st) k = .ret d st := rfl
theorem thenT_ex (c : Nat) (fs : List (Nat × D)) (st : Sto) (k : KS) : @thenT (O.ex c fs st) k = .ex c fs st := rfl
theorem thenT_brk (σ : Sl) (st : Sto) (k : KS) : @thenT (O.brk σ st) k = .brk σ st := rfl
theorem thenT_cnt (σ : Sl) (st : Sto) (k : KS) : @thenT (O.cnt σ st) k = .cnt σ st := rfl
theorem forDT_nil (ok : Sto → Prop) (tg : D → Sl → Sto → R Sl) (body : Sl → Sto → O) (σ : Sl) (st : Sto) (h : ok st) : @forDT (KF.mk ok tg body) [] σ st = .nxt σ st := by simp [forDT, forD, h]
theorem forDT_cons (ok : Sto → Prop) (tg : D → Sl → Sto → R Sl) (body : Sl → Sto → O) (d : D) (l : List D) (σ : Sl) (st : Sto) (h : ok st) : @forDT (KF.mk ok tg body) (d :: l) σ st = (toO (tg d σ st) fun σ1 st1 => match body σ1 st1 with
    | .nxt σ2 st2 => forD ok tg body l σ2 st2
    | .cnt σ2 st2 => forD ok tg body l σ2 st2
    | .brk σ2 st2 => .nxt σ2 st2
    | .ret d st2 => .ret d st2
    | .ex c fs st2 => .ex c fs st2
    | .no => .no) := by
  show forD ok tg body (d :: l) σ st = _
  rw [forD, if_pos h]
  all_goals rfl
theorem whlDT_step (c : Sl → Sto → R Bool) (body : Sl → Sto → O) (n : Nat) (σ : Sl) (st : Sto) : @whlDT (KW.mk c body) (n + 1) σ st = toO (c σ st) fun k st1 => if k = true then (match body σ st1 with
      | .nxt σ2 st2 => whlD c body n σ2 st2
      | .cnt σ2 st2 => whlD c body n σ2 st2
      | .brk σ2 st2 => .nxt σ2 st2
      | .ret d st2 => .ret d st2
      | .ex c fs st2 => .ex c fs st2
      | .no => .no) else .nxt σ st1 := rfl
theorem toO_ok {α : Type} (a : α) (st : Sto) (f : α → Sto → O) : toO (R.ok a st) f = f a st := rfl
theorem toO_ex {α : Type} (c : Nat) (fs : List (Nat × D)) (st : Sto) (f : α → Sto → O) : toO (R.ex c fs st : R α) f = .ex c fs st := rfl
theorem then_nxt (σ : Sl) (st : Sto) (f : Sl → Sto → O) : (O.nxt σ st).then_ f = f σ st := rfl
theorem then_ret (d : D) (st : Sto) (f : Sl → Sto → O) : (O.ret d st).then_ f = .ret d st := rfl
theorem then_ex (c : Nat) (fs : List (Nat × D)) (st : Sto) (f : Sl → Sto → O) : (O.ex c fs st).then_ f = .ex c fs st := rfl
theorem then_brk (σ : Sl) (st : Sto) (f : Sl → Sto → O) : (O.brk σ st).then_ f = .brk σ st := rfl
theorem then_cnt (σ : Sl) (st : Sto) (f : Sl → Sto → O) : (O.cnt σ st).then_ f = .cnt σ st := rfl
theorem then_ite {p : Prop} [Decidable p] {a b : O} (f : Sl → Sto → O) : (if p then a else b).then_ f = if p then a.then_ f else b.then_ f := by split <;> rfl
theorem guardO_pos {α : Type} {p : Prop} [Decidable p] {a : α} (h : p) : guardO p a = some a := if_pos h
/-- a def's body, behind it -/
noncomputable def outD (lk : Bool) (st : Sto) : O → R D
  | .ret d st1 => if lk = true then .ok d st1 else trim st (bel st.length d) d st1
  | .nxt _ st1 => trim st true .non st1
  | .ex c fs st1 => trimX st c fs st1
  | _ => .no
theorem run_succ (T : Tab) (k f : Nat) (ds : List D) (st : Sto) {fn : Fn} (h : T.fn f = some fn) (hl : ds.length = fn.n) : run T (k + 1) f ds st = outD fn.leaks st (exSs T (run T k) fn.body (startD fn.m ds) st) := by
  simp only [run, h, if_pos hl]
  cases exSs T (run T k) fn.body (startD fn.m ds) st <;> rfl
theorem out_ret {st st1 : Sto} {d : D} : outD true st (.ret d st1) = .ok d st1 := rfl
theorem out_ret0 {st st1 : Sto} {d : D} (h : st1.length = st.length) : outD false st (.ret d st1) = .ok d st1 := by
  simp only [outD, Bool.false_eq_true, if_false]
  exact trim_same h
theorem out_nxt0 {lk : Bool} {st st1 : Sto} {σ : Sl} (h : st1.length = st.length) : outD lk st (.nxt σ st1) = .ok .non st1 := trim_same h
theorem out_ite {lk : Bool} {st : Sto} {p : Prop} [Decidable p] {a b : O} : outD lk st (if p then a else b) = if p then outD lk st a else outD lk st b := by split <;> rfl
theorem intB_add (i j : Int) : intBin .Add i j = some (i + j) := rfl
theorem intB_sub (i j : Int) : intBin .Sub i j = some (i - j) := rfl
theorem intB_mul {i j : Int} (h : mulOk i j = true) : intBin .Mult i j = some (i * j) := if_pos h
theorem intB_fdiv {i j : Int} (h : 0 < j) (h2 : divOk j = true) : intBin .FloorDiv i j = some (i / j) := if_pos ⟨h, h2⟩
theorem intB_mod {i j : Int} (h : 0 < j) : intBin .Mod i j = some (i % j) := if_pos h
section
variable {T : Tab} {cd : Cd} {st : Sto}
theorem binD_ii (op : Operator) (i j : Int) : binD T cd op (.int i) (.int j) st = opt ((intBin op i j).map .int) st := rfl
theorem binD_oo (op : Operator) (c : Nat) (fs gs : List (Nat × D)) : binD T cd op (.obj c fs) (.obj c gs) st = ownM T cd c (dun op) [.obj c fs, .obj c gs] st := if_pos rfl
theorem binD_oi (op : Operator) (c : Nat) (fs : List (Nat × D)) (j : Int) : binD T cd op (.obj c fs) (.int j) st = ownM T cd c (dun op) [.obj c fs, .int j] st := rfl
theorem binD_io (op : Operator) (c : Nat) (fs : List (Nat × D)) (i : Int) (h : (T.mth c (dun op)).isSome = true) : binD T cd op (.int i) (.obj c fs) st = ownM T cd c (rdun op) [.obj c fs, .int i] st := if_pos h
theorem binD_ss {x y : Str} (h : x.length + y.length ≤ sz) : binD T cd .Add (.str x) (.str y) st = .ok (.str (x ++ y)) st := if_pos h
theorem binD_tt {x y : List D} (h : x.length + y.length ≤ sz) : binD T cd .Add (.tup x) (.tup y) st = .ok (.tup (x ++ y)) st := if_pos h
theorem binD_ll {x y : List D} (h : x.length + y.length ≤ sz) : binD T cd .Add (.lst x) (.lst y) st = .ok (.lst (x ++ y)) st := if_pos h
end
end Mir

set_option Elab.async false
set_option linter.all false
set_option maxRecDepth 1000000
set_option maxHeartbeats 0
namespace K02
open PySem L2 Mir
abbrev sx (x : String) : Str := PySem.Str.ofString x
def top (i : Nat) : Stmt := PySem.Challenge.pw_wallwalks_k02_goldens.main.body.getD i (.Pass ⟨0, 0, 0, 0⟩)
def inCls (i j : Nat) : Stmt := match top i with
  | .ClassDef _ _ _ b _ _ _ _ _ _ _ => b.getD j (.Pass ⟨0, 0, 0, 0⟩)
  | _ => .Pass ⟨0, 0, 0, 0⟩
def u0 : Un := ⟨.glo (sx "power_of"), (sx "power_of"), (sx "power_of"), defArgs (top 6), defBody (top 6), defScope (top 6), [(sx "one"), (sx "base"), (sx "exponent"), (sx "made")], [], false⟩
def u1 : Un := ⟨.glo (sx "is_whole"), (sx "is_whole"), (sx "is_whole"), defArgs (top 8), defBody (top 8), defScope (top 8), [(sx "value")], [], false⟩
def u2 : Un := ⟨.glo (sx "is_whole_within"), (sx "is_whole_within"), (sx "is_whole_within"), defArgs (top 9), defBody (top 9), defScope (top 9), [(sx "value"), (sx "least"), (sx "most")], [], false⟩
def u3 : Un := ⟨.glo (sx "is_whole_text"), (sx "is_whole_text"), (sx "is_whole_text"), defArgs (top 10), defBody (top 10), defScope (top 10), [(sx "text"), (sx "digits")], [], false⟩
def u4 : Un := ⟨.glo (sx "number_check"), (sx "number_check"), (sx "number_check"), defArgs (top 11), defBody (top 11), defScope (top 11), [(sx "value"), (sx "least"), (sx "most")], [], false⟩
def u5 : Un := ⟨.glo (sx "pair_sign"), (sx "pair_sign"), (sx "pair_sign"), defArgs (top 13), defBody (top 13), defScope (top 13), [(sx "whole"), (sx "gold"), (sx "twice"), (sx "decisive")], [], false⟩
def u6 : Un := ⟨.glo (sx "pair_product"), (sx "pair_product"), (sx "pair_product"), defArgs (top 14), defBody (top 14), defScope (top 14), [(sx "left"), (sx "right"), (sx "both"), (sx "whole"), (sx "gold"), (sx "other_whole"), (sx "other_gold")], [], false⟩
def u7 : Un := ⟨.glo (sx "parts_of_text"), (sx "parts_of_text"), (sx "parts_of_text"), defArgs (top 16), defBody (top 16), defScope (top 16), [(sx "text"), (sx "body"), (sx "cut"), (sx "whole"), (sx "size")], [], false⟩
def u8 : Un := ⟨.mth (sx "Golden") (sx "__init__"), (sx "__init__"), (sx "Golden.__init__"), defArgs (inCls 17 0), defBody (inCls 17 0), defScope (inCls 17 0), [(sx "self"), (sx "whole"), (sx "gold"), (sx "part")], [.int 0], false⟩
def u9 : Un := ⟨.prp (sx "Golden") (sx "whole"), (sx "whole"), (sx "Golden.whole"), defArgs (inCls 17 1), defBody (inCls 17 1), defScope (inCls 17 1), [(sx "self")], [], false⟩
def u10 : Un := ⟨.prp (sx "Golden") (sx "gold"), (sx "gold"), (sx "Golden.gold"), defArgs (inCls 17 2), defBody (inCls 17 2), defScope (inCls 17 2), [(sx "self")], [], false⟩
def u11 : Un := ⟨.prp (sx "Golden") (sx "sign"), (sx "sign"), (sx "Golden.sign"), defArgs (inCls 17 3), defBody (inCls 17 3), defScope (inCls 17 3), [(sx "self")], [], false⟩
def u12 : Un := ⟨.prp (sx "Golden") (sx "text"), (sx "text"), (sx "Golden.text"), defArgs (inCls 17 4), defBody (inCls 17 4), defScope (inCls 17 4), [(sx "self")], [], false⟩
def u13 : Un := ⟨.stm (sx "Golden") (sx "read"), (sx "read"), (sx "Golden.read"), defArgs (inCls 17 5), defBody (inCls 17 5), defScope (inCls 17 5), [(sx "text"), (sx "parts")], [], false⟩
def u14 : Un := ⟨.mth (sx "Golden") (sx "__eq__"), (sx "__eq__"), (sx "Golden.__eq__"), defArgs (inCls 17 6), defBody (inCls 17 6), defScope (inCls 17 6), [(sx "self"), (sx "other")], [], false⟩
def u15 : Un := ⟨.mth (sx "Golden") (sx "__bool__"), (sx "__bool__"), (sx "Golden.__bool__"), defArgs (inCls 17 7), defBody (inCls 17 7), defScope (inCls 17 7), [(sx "self")], [], false⟩
def u16 : Un := ⟨.mth (sx "Golden") (sx "__add__"), (sx "__add__"), (sx "Golden.__add__"), defArgs (inCls 17 8), defBody (inCls 17 8), defScope (inCls 17 8), [(sx "self"), (sx "other"), (sx "number")], [], false⟩
def u17 : Un := ⟨.mth (sx "Golden") (sx "__radd__"), (sx "__radd__"), (sx "Golden.__radd__"), defArgs (inCls 17 9), defBody (inCls 17 9), defScope (inCls 17 9), [(sx "self"), (sx "other")], [], false⟩
def u18 : Un := ⟨.mth (sx "Golden") (sx "__sub__"), (sx "__sub__"), (sx "Golden.__sub__"), defArgs (inCls 17 10), defBody (inCls 17 10), defScope (inCls 17 10), [(sx "self"), (sx "other"), (sx "number")], [], false⟩
def u19 : Un := ⟨.mth (sx "Golden") (sx "__rsub__"), (sx "__rsub__"), (sx "Golden.__rsub__"), defArgs (inCls 17 11), defBody (inCls 17 11), defScope (inCls 17 11), [(sx "self"), (sx "other")], [], false⟩
def u20 : Un := ⟨.mth (sx "Golden") (sx "__mul__"), (sx "__mul__"), (sx "Golden.__mul__"), defArgs (inCls 17 12), defBody (inCls 17 12), defScope (inCls 17 12), [(sx "self"), (sx "other"), (sx "number"), (sx "whole"), (sx "gold")], [], false⟩
def u21 : Un := ⟨.mth (sx "Golden") (sx "__rmul__"), (sx "__rmul__"), (sx "Golden.__rmul__"), defArgs (inCls 17 13), defBody (inCls 17 13), defScope (inCls 17 13), [(sx "self"), (sx "other")], [], false⟩
def u22 : Un := ⟨.mth (sx "Golden") (sx "__neg__"), (sx "__neg__"), (sx "Golden.__neg__"), defArgs (inCls 17 14), defBody (inCls 17 14), defScope (inCls 17 14), [(sx "self")], [], false⟩
def u23 : Un := ⟨.mth (sx "Golden") (sx "__pow__"), (sx "__pow__"), (sx "Golden.__pow__"), defArgs (inCls 17 15), defBody (inCls 17 15), defScope (inCls 17 15), [(sx "self"), (sx "other")], [], false⟩
def u24 : Un := ⟨.mth (sx "Golden") (sx "power"), (sx "power"), (sx "Golden.power"), defArgs (inCls 17 16), defBody (inCls 17 16), defScope (inCls 17 16), [(sx "self"), (sx "exponent")], [], false⟩
def u25 : Un := ⟨.mth (sx "Golden") (sx "is_below"), (sx "is_below"), (sx "Golden.is_below"), defArgs (inCls 17 17), defBody (inCls 17 17), defScope (inCls 17 17), [(sx "self"), (sx "other")], [], false⟩
def u26 : Un := ⟨.glo (sx "is_number"), (sx "is_number"), (sx "is_number"), defArgs (top 18), defBody (top 18), defScope (top 18), [(sx "value")], [], false⟩
def u27 : Un := ⟨.glo (sx "golden"), (sx "golden"), (sx "golden"), defArgs (top 19), defBody (top 19), defScope (top 19), [(sx "number")], [], false⟩
def u28 : Un := ⟨.glo (sx "_law_pot"), (sx "_law_pot"), (sx "_law_pot"), defArgs (top 21), defBody (top 21), defScope (top 21), [(sx "_law_script"), (sx "_law_spot"), (sx "_law_state"), (sx "_law_cell"), (sx "_law_own")], [], true⟩
def u29 : Un := ⟨.glo (sx "_law_take"), (sx "_law_take"), (sx "_law_take"), defArgs (top 22), defBody (top 22), defScope (top 22), [(sx "_law_pot_here"), (sx "_law_many"), (sx "_law_seed"), (sx "_law_digit")], [], false⟩
def u30 : Un := ⟨.glo (sx "_law_pick"), (sx "_law_pick"), (sx "_law_pick"), defArgs (top 23), defBody (top 23), defScope (top 23), [(sx "_law_pot_here"), (sx "_law_some")], [], false⟩
def u31 : Un := ⟨.glo (sx "_law_rounds"), (sx "_law_rounds"), (sx "_law_rounds"), defArgs (top 24), defBody (top 24), defScope (top 24), [(sx "_law_script")], [], false⟩
def u32 : Un := ⟨.glo (sx "_law_is_whole"), (sx "_law_is_whole"), (sx "_law_is_whole"), defArgs (top 25), defBody (top 25), defScope (top 25), [(sx "_law_thing")], [], false⟩
def u33 : Un := ⟨.glo (sx "_law_plus"), (sx "_law_plus"), (sx "_law_plus"), defArgs (top 26), defBody (top 26), defScope (top 26), [(sx "_law_one"), (sx "_law_two")], [], false⟩
def u34 : Un := ⟨.glo (sx "_law_less"), (sx "_law_less"), (sx "_law_less"), defArgs (top 27), defBody (top 27), defScope (top 27), [(sx "_law_one"), (sx "_law_two")], [], false⟩
def u35 : Un := ⟨.glo (sx "_law_times"), (sx "_law_times"), (sx "_law_times"), defArgs (top 28), defBody (top 28), defScope (top 28), [(sx "_law_one"), (sx "_law_two"), (sx "_law_both")], [], false⟩
def u36 : Un := ⟨.glo (sx "_law_sign"), (sx "_law_sign"), (sx "_law_sign"), defArgs (top 29), defBody (top 29), defScope (top 29), [(sx "_law_one"), (sx "_law_far"), (sx "_law_a"), (sx "_law_b")], [], false⟩
def u37 : Un := ⟨.glo (sx "_law_spelled"), (sx "_law_spelled"), (sx "_law_spelled"), defArgs (top 30), defBody (top 30), defScope (top 30), [(sx "_law_one"), (sx "_law_a"), (sx "_law_b")], [], false⟩
def u38 : Un := ⟨.glo (sx "_law_part"), (sx "_law_part"), (sx "_law_part"), defArgs (top 31), defBody (top 31), defScope (top 31), [(sx "_law_pot_here"), (sx "_law_most"), (sx "_law_found"), (sx "_law_turn")], [], false⟩
def u39 : Un := ⟨.glo (sx "_law_drawn"), (sx "_law_drawn"), (sx "_law_drawn"), defArgs (top 32), defBody (top 32), defScope (top 32), [(sx "_law_pot_here"), (sx "_law_most")], [], false⟩
def u40 : Un := ⟨.glo (sx "_law_is"), (sx "_law_is"), (sx "_law_is"), defArgs (top 33), defBody (top 33), defScope (top 33), [(sx "_law_told"), (sx "_law_due")], [], false⟩
def u41 : Un := ⟨.glo (sx "_law_raised"), (sx "_law_raised"), (sx "_law_raised"), defArgs (top 34), defBody (top 34), defScope (top 34), [(sx "_law_one"), (sx "_law_many"), (sx "_law_found"), (sx "_law_turn")], [], false⟩
def u42 : Un := ⟨.glo (sx "_law_reckoned"), (sx "_law_reckoned"), (sx "_law_reckoned"), defArgs (top 35), defBody (top 35), defScope (top 35), [(sx "_law_one"), (sx "_law_two"), (sx "_law_other"), (sx "_law_left"), (sx "_law_right_here"), (sx "_law_plain")], [], false⟩
def u43 : Un := ⟨.glo (sx "_law_asked"), (sx "_law_asked"), (sx "_law_asked"), defArgs (top 36), defBody (top 36), defScope (top 36), [(sx "_law_one"), (sx "_law_two"), (sx "_law_other"), (sx "_law_due"), (sx "_law_same"), (sx "_law_left"), (sx "_law_right_here")], [], false⟩
def u44 : Un := ⟨.glo (sx "_law_by_sign"), (sx "_law_by_sign"), (sx "_law_by_sign"), defArgs (top 37), defBody (top 37), defScope (top 37), [(sx "_law_left"), (sx "_law_many")], [], false⟩
def u45 : Un := ⟨.glo (sx "_law_right"), (sx "_law_right"), (sx "_law_right"), defArgs (top 38), defBody (top 38), defScope (top 38), [(sx "_law_pot_here"), (sx "_law_one"), (sx "_law_two"), (sx "_law_other"), (sx "_law_many"), (sx "_law_left"), (sx "_law_due")], [], false⟩
def u46 : Un := ⟨.glo (sx "law"), (sx "law"), (sx "law"), defArgs (top 39), defBody (top 39), defScope (top 39), [(sx "_law_script"), (sx "_law_spot")], [], false⟩
def b0 : List S := [(.asg (.name 3) (.var 0)), (.whl (.cmp .Gt (.var 2) (.lit (.int 0))) [(.ifs (.bin .BitAnd (.var 2) (.lit (.int 1))) [(.asg (.name 3) (.bin .Mult (.var 3) (.var 1)))] []), (.asg (.name 2) (.bin .RShift (.var 2) (.lit (.int 1)))), (.ifs (.cmp .Gt (.var 2) (.lit (.int 0))) [(.asg (.name 1) (.bin .Mult (.var 1) (.var 1)))] [])]), (.ret (.var 3))]
def b1 : List S := [(.ret (.andE [(.isi (.var 0) .int), (.notE (.isi (.var 0) .bool))]))]
def b2 : List S := [(.ret (.andE [(.call 1 [(.var 0)] 0), (.cmp2 .LtE .LtE (.var 1) (.var 0) (.var 2))]))]
def b3 : List S := [(.asg (.name 1) (.ife (.smeth (.var 0) 101 [(.lit (.str (PySem.Str.ofString "-")))]) (.slc (.var 0) (some (.lit (.int 1))) none) (.var 0))), (.ifs (.notE (.andE [(.smeth (.var 1) 104 []), (.smeth (.var 1) 105 [])])) [(.ret (.lit (.bl false)))] []), (.ret (.orE [(.cmp .Eq (.var 0) (.lit (.str (PySem.Str.ofString "0")))), (.notE (.smeth (.var 1) 101 [(.lit (.str (PySem.Str.ofString "0")))]))]))]
def b4 : List S := [(.ifs (.notE (.call 2 [(.var 0), (.var 1), (.var 2)] 2)) [.never] [])]
def b5 : List S := [(.asg (.name 2) (.bin .Add (.bin .Mult (.lit (.int 2)) (.var 0)) (.var 1))), (.ifs (.orE [(.cmp .Eq (.var 1) (.lit (.int 0))), (.cmp .GtE (.bin .Mult (.var 2) (.var 2)) (.bin .Mult (.bin .Mult (.lit (.int 5)) (.var 1)) (.var 1)))]) [(.asg (.name 3) (.var 2))] [(.asg (.name 3) (.var 1))]), (.ifs (.cmp .Eq (.var 3) (.lit (.int 0))) [(.ret (.lit (.int 0)))] []), (.ret (.ife (.cmp .Gt (.var 3) (.lit (.int 0))) (.lit (.int 1)) (.neg (.lit (.int 1)))))]
def b6 : List S := [(.asg (.tup [(.name 3), (.name 4)]) (.var 0)), (.asg (.tup [(.name 5), (.name 6)]) (.var 1)), (.asg (.name 2) (.bin .Mult (.var 4) (.var 6))), (.ret (.tup [(.bin .Add (.bin .Mult (.var 3) (.var 5)) (.var 2)), (.bin .Add (.bin .Add (.bin .Mult (.var 3) (.var 6)) (.bin .Mult (.var 4) (.var 5))) (.var 2))]))]
def b7 : List S := [(.ifs (.notE (.isi (.var 0) .str)) [(.ret (.lit .non))] []), (.ifs (.notE (.smeth (.var 0) 102 [(.lit (.str (PySem.Str.ofString "g")))])) [(.ret (.ife (.call 3 [(.var 0)] 0) (.tup [(.bi .int [(.var 0)]), (.lit (.int 0))]) (.lit .non)))] []), (.asg (.name 1) (.slc (.var 0) none (some (.neg (.lit (.int 1)))))), (.asg (.name 2) (.bi .max [(.smeth (.var 1) 103 [(.lit (.str (PySem.Str.ofString "+")))]), (.smeth (.var 1) 103 [(.lit (.str (PySem.Str.ofString "-")))])])), (.ifs (.cmp .Lt (.var 2) (.lit (.int 0))) [(.ret (.lit .non))] []), (.par [3, 4] [(.slc (.var 1) none (some (.var 2))), (.slc (.var 1) (some (.bin .Add (.var 2) (.lit (.int 1)))) none)]), (.ifs (.orE [(.notE (.call 3 [(.var 3)] 0)), (.notE (.call 3 [(.var 4)] 0)), (.cmp .Eq (.var 4) (.lit (.str (PySem.Str.ofString "0"))))]) [(.ret (.lit .non))] []), (.ret (.tup [(.bi .int [(.var 3)]), (.ife (.cmp .Eq (.idx (.var 1) (.var 2)) (.lit (.str (PySem.Str.ofString "+")))) (.bi .int [(.var 4)]) (.neg (.bi .int [(.var 4)])))]))]
def b8 : List S := [(.for_ (.name 3) (.val (.tup [(.var 1), (.var 2)])) [(.ifs (.notE (.call 1 [(.var 3)] 0)) [.never] [])]), (.asg (.attr (.var 0) 23) (.var 1)), (.asg (.attr (.var 0) 24) (.var 2))]
def b9 : List S := [(.ret (.attr (.var 0) 23))]
def b10 : List S := [(.ret (.attr (.var 0) 24))]
def b11 : List S := [(.ret (.call 5 [(.attr (.var 0) 23), (.attr (.var 0) 24)] 1))]
def b12 : List S := [(.ifs (.cmp .Eq (.attr (.var 0) 24) (.lit (.int 0))) [(.ret (.bi .str [(.attr (.var 0) 23)]))] []), (.ret (.fstr [(.fplain (.attr (.var 0) 23)), (.fplus (.attr (.var 0) 24)), (.lit (.str (PySem.Str.ofString "g")))]))]
def b13 : List S := [(.asg (.name 1) (.call 7 [(.var 0)] 0)), (.ifs (.cmp .Is (.var 1) (.lit .non)) [.never] []), (.ret (.make 0 [(.idx (.var 1) (.lit (.int 0))), (.idx (.var 1) (.lit (.int 1)))] 2))]
def b14 : List S := [(.ret (.andE [(.isi (.var 1) (.own 0)), (.cmp .Eq (.attr (.var 0) 23) (.attr (.var 1) 23)), (.cmp .Eq (.attr (.var 0) 24) (.attr (.var 1) 24))]))]
def b15 : List S := [(.ret (.orE [(.bi .bool [(.attr (.var 0) 23)]), (.bi .bool [(.attr (.var 0) 24)])]))]
def b16 : List S := [(.ifs (.notE (.call 26 [(.var 1)] 0)) [.never] []), (.asg (.name 2) (.call 27 [(.var 1)] 0)), (.ret (.make 0 [(.bin .Add (.attr (.var 0) 23) (.attr (.var 2) 25)), (.bin .Add (.attr (.var 0) 24) (.attr (.var 2) 26))] 2))]
def b17 : List S := [(.ifs (.notE (.call 26 [(.var 1)] 0)) [.never] []), (.ret (.bin .Add (.call 27 [(.var 1)] 0) (.var 0)))]
def b18 : List S := [(.ifs (.notE (.call 26 [(.var 1)] 0)) [.never] []), (.asg (.name 2) (.call 27 [(.var 1)] 0)), (.ret (.make 0 [(.bin .Sub (.attr (.var 0) 23) (.attr (.var 2) 25)), (.bin .Sub (.attr (.var 0) 24) (.attr (.var 2) 26))] 2))]
def b19 : List S := [(.ifs (.notE (.call 26 [(.var 1)] 0)) [.never] []), (.ret (.bin .Sub (.call 27 [(.var 1)] 0) (.var 0)))]
def b20 : List S := [(.ifs (.notE (.call 26 [(.var 1)] 0)) [.never] []), (.asg (.name 2) (.call 27 [(.var 1)] 0)), (.asg (.tup [(.name 3), (.name 4)]) (.call 6 [(.tup [(.attr (.var 0) 23), (.attr (.var 0) 24)]), (.tup [(.attr (.var 2) 25), (.attr (.var 2) 26)])] 1)), (.ret (.make 0 [(.var 3), (.var 4)] 2))]
def b21 : List S := [(.ifs (.notE (.call 26 [(.var 1)] 0)) [.never] []), (.ret (.bin .Mult (.call 27 [(.var 1)] 0) (.var 0)))]
def b22 : List S := [(.ret (.make 0 [(.neg (.attr (.var 0) 23)), (.neg (.attr (.var 0) 24))] 2))]
def b23 : List S := [(.ret (.meth (.var 0) 29 [(.var 1)] 1))]
def b24 : List S := [(.ex (.call 4 [(.var 1), (.lit (.int 0)), (.glob 0)] 2)), (.ret (.call 0 [(.make 0 [(.lit (.int 1))] 1), (.var 0), (.var 1)] 2))]
def b25 : List S := [(.ret (.cmp .Lt (.attr (.bin .Sub (.var 0) (.call 27 [(.var 1)] 0)) 27) (.lit (.int 0))))]
def b26 : List S := [(.ret (.orE [(.isi (.var 0) (.own 0)), (.call 1 [(.var 0)] 0)]))]
def b27 : List S := [(.ifs (.isi (.var 0) (.own 0)) [(.ret (.var 0))] []), (.ret (.make 0 [(.var 0)] 1))]
def b28 : List S := [(.asg (.name 2) (.bin .Add (.lit (.int 50021)) (.bin .Mult (.lit (.int 919)) (.var 1)))), (.for_ (.name 3) (.val (.slc (.var 0) none (some (.lit (.int 12))))) [(.asg (.name 2) (.bin .Mod (.bi .int [(.bin .Add (.bin .Add (.bin .Mult (.var 2) (.lit (.int 52361))) (.bi .int [(.var 3)])) (.lit (.int 17)))]) (.lit (.int 2147483579))))]), (.asg (.name 4) (.ife (.cmp .Lt (.var 1) (.bi .len [(.var 0)])) (.bi .abs [(.bi .int [(.idx (.var 0) (.var 1))])]) (.lit (.int 0)))), (.ret (.lstO [(.ife (.cmp .GtE (.var 4) (.bin .Pow (.lit (.int 10)) (.lit (.int 18)))) (.var 4) (.lit (.int 0))), (.bin .Mod (.bi .int [(.bin .Add (.bin .Mult (.var 2) (.lit (.int 31))) (.bin .Mult (.bin .Mod (.bi .int [(.var 4)]) (.lit (.int 2147483549))) (.lit (.int 7919))))]) (.lit (.int 2147483579))), (.lit (.int 0))]))]
def b29 : List S := [(.ifs (.cmp .Gt (.idx (.var 0) (.lit (.int 0))) (.lit (.int 0))) [(.asg (.tup [(.idx (.var 0) (.lit (.int 0))), (.name 3)]) (.bi .divmod [(.idx (.var 0) (.lit (.int 0))), (.var 1)])), (.ret (.var 3))] []), (.asg (.idx (.var 0) (.lit (.int 2))) (.bin .Add (.idx (.var 0) (.lit (.int 2))) (.lit (.int 1)))), (.asg (.name 2) (.bin .Mod (.bi .int [(.bin .Add (.idx (.var 0) (.lit (.int 1))) (.bin .Mult (.lit (.int 104729)) (.idx (.var 0) (.lit (.int 2)))))]) (.lit (.int 2147483579)))), (.asg (.idx (.var 0) (.lit (.int 1))) (.bin .Mod (.bi .int [(.bin .Add (.bin .Mult (.var 2) (.bin .Add (.bin .Mod (.bi .int [(.var 2)]) (.lit (.int 8191))) (.lit (.int 30011)))) (.bin .Mult (.lit (.int 13)) (.idx (.var 0) (.lit (.int 2)))))]) (.lit (.int 2147483579)))), (.ret (.bin .Mod (.bi .int [(.bin .FloorDiv (.idx (.var 0) (.lit (.int 1))) (.lit (.int 512)))]) (.var 1)))]
def b30 : List S := [(.ret (.idx (.var 1) (.call 29 [(.var 0), (.bi .len [(.var 1)])] 1)))]
def b31 : List S := [(.ret (.bi .max [(.lit (.int 2)), (.bi .min [(.bi .len [(.var 0)]), (.lit (.int 3))])]))]
def b32 : List S := [(.ret (.andE [(.isi (.var 0) .int), (.notE (.isi (.var 0) .bool))]))]
def b33 : List S := [(.ret (.tup [(.bin .Add (.idx (.var 0) (.lit (.int 0))) (.idx (.var 1) (.lit (.int 0)))), (.bin .Add (.idx (.var 0) (.lit (.int 1))) (.idx (.var 1) (.lit (.int 1))))]))]
def b34 : List S := [(.ret (.tup [(.bin .Sub (.idx (.var 0) (.lit (.int 0))) (.idx (.var 1) (.lit (.int 0)))), (.bin .Sub (.idx (.var 0) (.lit (.int 1))) (.idx (.var 1) (.lit (.int 1))))]))]
def b35 : List S := [(.asg (.name 2) (.bin .Mult (.idx (.var 0) (.lit (.int 1))) (.idx (.var 1) (.lit (.int 1))))), (.ret (.tup [(.bin .Add (.bin .Mult (.idx (.var 0) (.lit (.int 0))) (.idx (.var 1) (.lit (.int 0)))) (.var 2)), (.bin .Add (.bin .Add (.bin .Mult (.idx (.var 0) (.lit (.int 0))) (.idx (.var 1) (.lit (.int 1)))) (.bin .Mult (.idx (.var 0) (.lit (.int 1))) (.idx (.var 1) (.lit (.int 0))))) (.var 2))]))]
def b36 : List S := [(.asg (.tup [(.name 2), (.name 3)]) (.var 0)), (.ifs (.andE [(.cmp .GtE (.var 2) (.lit (.int 0))), (.cmp .GtE (.var 3) (.lit (.int 0)))]) [(.ret (.bi .int [(.cmp .Gt (.bin .Add (.var 2) (.var 3)) (.lit (.int 0)))]))] []), (.ifs (.andE [(.cmp .LtE (.var 2) (.lit (.int 0))), (.cmp .LtE (.var 3) (.lit (.int 0)))]) [(.ret (.neg (.lit (.int 1))))] []), (.asg (.name 1) (.bin .Sub (.bin .Add (.bin .Mult (.var 2) (.var 2)) (.bin .Mult (.var 2) (.var 3))) (.bin .Mult (.var 3) (.var 3)))), (.ret (.ife (.cmp .Eq (.cmp .Gt (.var 1) (.lit (.int 0))) (.cmp .Gt (.var 2) (.lit (.int 0)))) (.lit (.int 1)) (.neg (.lit (.int 1)))))]
def b37 : List S := [(.asg (.tup [(.name 1), (.name 2)]) (.var 0)), (.ifs (.cmp .Eq (.var 2) (.lit (.int 0))) [(.ret (.bi .str [(.var 1)]))] []), (.ret (.bin .Add (.bin .Add (.bin .Add (.bi .str [(.var 1)]) (.ife (.cmp .Gt (.var 2) (.lit (.int 0))) (.lit (.str (PySem.Str.ofString "+"))) (.lit (.str (PySem.Str.ofString "-"))))) (.bi .str [(.bi .abs [(.var 2)])])) (.lit (.str (PySem.Str.ofString "g")))))]
def b38 : List S := [(.ifs (.cmp .Gt (.var 1) (.lit (.int 0))) [(.ret (.bin .Sub (.call 29 [(.var 0), (.bin .Add (.bin .Mult (.lit (.int 2)) (.var 1)) (.lit (.int 1)))] 1) (.var 1)))] []), (.asg (.name 2) (.lit (.int 0))), (.for_ (.name 3) (.rng1 (.lit (.int 4))) [(.asg (.name 2) (.bin .Add (.bin .Mult (.var 2) (.bin .Pow (.lit (.int 10)) (.lit (.int 6)))) (.call 29 [(.var 0), (.bin .Pow (.lit (.int 10)) (.lit (.int 6)))] 1)))]), (.ret (.ife (.cmp .Eq (.call 29 [(.var 0), (.lit (.int 2))] 1) (.lit (.int 0))) (.var 2) (.bin .Sub (.lit (.int 0)) (.var 2))))]
def b39 : List S := [(.asg (.name 1) (.call 30 [(.var 0), (.tup [(.lit (.int 2)), (.lit (.int 9)), (.lit (.int 30)), (.lit (.int 1000)), (.lit (.int 0))])] 1)), (.ret (.tup [(.call 38 [(.var 0), (.var 1)] 1), (.call 38 [(.var 0), (.var 1)] 1)]))]
def b40 : List S := [(.ifs (.orE [(.notE (.isi (.var 0) (.own 0))), (.notE (.call 32 [(.attr (.var 0) 25)] 0)), (.notE (.call 32 [(.attr (.var 0) 26)] 0))]) [(.ret (.lit (.bl false)))] []), (.ret (.cmp .Eq (.tup [(.attr (.var 0) 25), (.attr (.var 0) 26)]) (.var 1)))]
def b41 : List S := [(.asg (.name 2) (.tup [(.lit (.int 1)), (.lit (.int 0))])), (.for_ (.name 3) (.rng1 (.var 1)) [(.asg (.name 2) (.call 35 [(.var 2), (.var 0)] 1))]), (.ret (.var 2))]
def b42 : List S := [(.par [3, 4, 5] [(.make 0 [(.idx (.var 0) (.lit (.int 0))), (.idx (.var 0) (.lit (.int 1)))] 2), (.make 0 [(.idx (.var 1) (.lit (.int 0))), (.idx (.var 1) (.lit (.int 1)))] 3), (.tup [(.var 2), (.lit (.int 0))])]), (.ifs (.orE [(.notE (.call 40 [(.bin .Add (.var 3) (.var 4)), (.call 33 [(.var 0), (.var 1)] 1)] 1)), (.notE (.call 40 [(.bin .Sub (.var 3) (.var 4)), (.call 34 [(.var 0), (.var 1)] 1)] 1))]) [(.ret (.lit (.bl false)))] []), (.ifs (.orE [(.notE (.call 40 [(.bin .Mult (.var 3) (.var 4)), (.call 35 [(.var 0), (.var 1)] 1)] 1)), (.notE (.call 40 [(.neg (.var 3)), (.call 34 [(.tup [(.lit (.int 0)), (.lit (.int 0))]), (.var 0)] 1)] 1))]) [(.ret (.lit (.bl false)))] []), (.ifs (.orE [(.notE (.call 40 [(.bin .Add (.var 3) (.var 2)), (.call 33 [(.var 0), (.var 5)] 1)] 1)), (.notE (.call 40 [(.bin .Add (.var 2) (.var 3)), (.call 33 [(.var 5), (.var 0)] 1)] 1))]) [(.ret (.lit (.bl false)))] []), (.ifs (.orE [(.notE (.call 40 [(.bin .Sub (.var 3) (.var 2)), (.call 34 [(.var 0), (.var 5)] 1)] 1)), (.notE (.call 40 [(.bin .Sub (.var 2) (.var 3)), (.call 34 [(.var 5), (.var 0)] 1)] 1))]) [(.ret (.lit (.bl false)))] []), (.ret (.andE [(.call 40 [(.bin .Mult (.var 3) (.var 2)), (.call 35 [(.var 0), (.var 5)] 1)] 1), (.call 40 [(.bin .Mult (.var 2) (.var 3)), (.call 35 [(.var 5), (.var 0)] 1)] 1)]))]
def b43 : List S := [(.par [5, 6] [(.make 0 [(.idx (.var 0) (.lit (.int 0))), (.idx (.var 0) (.lit (.int 1)))] 2), (.make 0 [(.idx (.var 1) (.lit (.int 0))), (.idx (.var 1) (.lit (.int 1)))] 2)]), (.ifs (.orE [(.notE (.call 40 [(.var 5), (.var 0)] 1)), (.notE (.call 40 [(.make 0 [(.idx (.var 0) (.lit (.int 0)))] 1), (.tup [(.idx (.var 0) (.lit (.int 0))), (.lit (.int 0))])] 1)), (.cmp .NotEq (.bi .repr [(.attr (.var 5) 27)]) (.bi .repr [(.call 36 [(.var 0)] 0)]))]) [(.ret (.lit (.bl false)))] []), (.ifs (.orE [(.cmp .NotEq (.attr (.var 5) 28) (.call 37 [(.var 0)] 0)), (.notE (.call 40 [(.call 13 [(.call 37 [(.var 0)] 0)] 0), (.var 0)] 1))]) [(.ret (.lit (.bl false)))] []), (.ifs (.orE [(.notE (.call 40 [(.call 13 [(.call 37 [(.var 1)] 0)] 5), (.var 1)] 1)), (.notE (.call 40 [(.call 27 [(.var 2)] 0), (.tup [(.var 2), (.lit (.int 0))])] 1))]) [(.ret (.lit (.bl false)))] []), (.ifs (.orE [(.notE (.call 40 [(.call 27 [(.var 5)] 0), (.var 0)] 1)), (.notE (.call 40 [(.call 27 [(.var 6)] 6), (.var 1)] 1))]) [(.ret (.lit (.bl false)))] []), (.asg (.name 3) (.lstF [(.cmp .Lt (.call 36 [(.call 34 [(.var 0), (.var 1)] 1)] 0) (.lit (.int 0))), (.cmp .Lt (.call 36 [(.call 34 [(.var 0), (.tup [(.var 2), (.lit (.int 0))])] 1)] 0) (.lit (.int 0)))])), (.ifs (.cmp .NotEq (.bi .repr [(.lstF [(.meth (.var 5) 30 [(.var 6)] 1), (.meth (.var 5) 30 [(.var 2)] 7)])]) (.bi .repr [(.var 3)])) [(.ret (.lit (.bl false)))] []), (.asg (.name 4) (.lstF [(.cmp .Eq (.var 5) (.var 6)), (.cmp .NotEq (.var 5) (.var 6)), (.cmp .Eq (.var 5) (.make 0 [(.idx (.var 0) (.lit (.int 0))), (.idx (.var 0) (.lit (.int 1)))] 2)), (.cmp .Eq (.var 5) (.idx (.var 0) (.lit (.int 0)))), (.bi .bool [(.var 5)])])), (.ret (.cmp .Eq (.bi .repr [(.var 4)]) (.bi .repr [(.lstF [(.cmp .Eq (.var 0) (.var 1)), (.cmp .NotEq (.var 0) (.var 1)), (.lit (.bl true)), (.lit (.bl false)), (.cmp .NotEq (.var 0) (.tup [(.lit (.int 0)), (.lit (.int 0))]))])])))]
def b44 : List S := [(.ifs (.cmp .Lt (.var 1) (.lit (.int 3))) [(.ret (.idx (.lstF [(.bin .Pow (.var 0) (.lit (.int 0))), (.bin .Pow (.var 0) (.lit (.int 1))), (.bin .Pow (.var 0) (.lit (.int 2)))]) (.var 1)))] []), (.ifs (.cmp .Lt (.var 1) (.lit (.int 9))) [(.ret (.ife (.cmp .Eq (.var 1) (.lit (.int 3))) (.bin .Pow (.var 0) (.lit (.int 3))) (.bin .Pow (.var 0) (.lit (.int 5)))))] []), (.ret (.ife (.cmp .Eq (.var 1) (.lit (.int 9))) (.bin .Pow (.var 0) (.lit (.int 9))) (.bin .Pow (.var 0) (.lit (.int 64)))))]
def b45 : List S := [(.par [1, 2] [(.call 39 [(.var 0)] 0), (.call 39 [(.var 0)] 0)]), (.par [3, 4] [(.bin .Sub (.call 29 [(.var 0), (.lit (.int 41))] 1) (.lit (.int 20))), (.call 30 [(.var 0), (.tup [(.lit (.int 0)), (.lit (.int 1)), (.lit (.int 2)), (.lit (.int 3)), (.lit (.int 5)), (.lit (.int 9)), (.lit (.int 64))])] 1)]), (.ifs (.cmp .Eq (.call 29 [(.var 0), (.lit (.int 4))] 1) (.lit (.int 0))) [(.asg (.name 2) (.var 1))] []), (.ifs (.orE [(.notE (.call 42 [(.var 1), (.var 2), (.var 3)] 2)), (.notE (.call 43 [(.var 1), (.var 2), (.var 3)] 2))]) [(.ret (.lit (.bl false)))] []), (.ifs (.cmp .Eq (.var 4) (.lit (.int 64))) [(.asg (.name 1) (.tup [(.bin .Sub (.bin .Mod (.bi .int [(.idx (.var 1) (.lit (.int 0)))]) (.lit (.int 5))) (.lit (.int 2))), (.bin .Sub (.bin .Mod (.bi .int [(.idx (.var 1) (.lit (.int 1)))]) (.lit (.int 5))) (.lit (.int 2)))]))] []), (.par [5, 6] [(.make 0 [(.idx (.var 1) (.lit (.int 0))), (.idx (.var 1) (.lit (.int 1)))] 2), (.call 41 [(.var 1), (.var 4)] 1)]), (.ifs (.orE [(.notE (.call 40 [(.call 44 [(.var 5), (.var 4)] 1), (.var 6)] 1)), (.notE (.call 40 [(.meth (.var 5) 29 [(.var 4)] 1), (.var 6)] 1))]) [(.ret (.lit (.bl false)))] []), (.ret (.andE [(.call 40 [(.meth (.var 5) 29 [(.var 4)] 8), (.var 6)] 1), (.call 40 [(.var 5), (.var 1)] 1)]))]
def b46 : List S := [(.for_ (.name 1) (.rng1 (.call 31 [(.var 0)] 0)) [(.ifs (.notE (.call 45 [(.call 28 [(.var 0), (.var 1)] 1)] 0)) [(.ret (.lit (.bl false)))] [])]), (.ret (.lit (.bl true)))]
def P : Pr where
  us := [u0, u1, u2, u3, u4, u5, u6, u7, u8, u9, u10, u11, u12, u13, u14, u15, u16, u17, u18, u19, u20, u21, u22, u23, u24, u25, u26, u27, u28, u29, u30, u31, u32, u33, u34, u35, u36, u37, u38, u39, u40, u41, u42, u43, u44, u45, u46]
  bds := [b0, b1, b2, b3, b4, b5, b6, b7, b8, b9, b10, b11, b12, b13, b14, b15, b16, b17, b18, b19, b20, b21, b22, b23, b24, b25, b26, b27, b28, b29, b30, b31, b32, b33, b34, b35, b36, b37, b38, b39, b40, b41, b42, b43, b44, b45, b46]
  cl := [⟨(sx "Golden"), [23, 24], [(25, 9), (26, 10), (27, 11), (28, 12)], [(21, 14), (22, 15), (1, 16), (11, 17), (2, 18), (12, 19), (3, 20), (13, 21), (20, 22), (4, 23), (29, 24), (30, 25)], some 8⟩]
  nm := [(sx "?0"), (sx "__add__"), (sx "__sub__"), (sx "__mul__"), (sx "__pow__"), (sx "?5"), (sx "?6"), (sx "?7"), (sx "?8"), (sx "?9"), (sx "?10"), (sx "__radd__"), (sx "__rsub__"), (sx "__rmul__"), (sx "?14"), (sx "?15"), (sx "?16"), (sx "?17"), (sx "?18"), (sx "?19"), (sx "__neg__"), (sx "__eq__"), (sx "__bool__"), (sx "_whole"), (sx "_gold"), (sx "whole"), (sx "gold"), (sx "sign"), (sx "text"), (sx "power"), (sx "is_below")]
  shs := [(1, []), (2, []), (3, []), (1, [(sx "whole"), (sx "gold")]), (1, [(sx "text")]), (0, [(sx "text")]), (0, [(sx "number")]), (1, [(sx "other")]), (1, [(sx "exponent")])]
  gl := [((sx "isinstance"), GK.kit), ((sx "int"), GK.kit), ((sx "bool"), GK.kit), ((sx "is_whole"), GK.fn 1), ((sx "is_whole_within"), GK.fn 2), ((sx "max"), GK.kit), ((sx "str"), GK.kit), ((sx "is_whole_text"), GK.fn 3), ((sx "pair_sign"), GK.fn 5), ((sx "parts_of_text"), GK.fn 7), ((sx "Golden"), GK.cls 0), ((sx "golden"), GK.fn 27), ((sx "is_number"), GK.fn 26), ((sx "pair_product"), GK.fn 6), ((sx "number_check"), GK.fn 4), ((sx "MOST_POWER"), GK.val 0), ((sx "power_of"), GK.fn 0), ((sx "abs"), GK.kit), ((sx "len"), GK.kit), ((sx "divmod"), GK.kit), ((sx "_law_take"), GK.fn 29), ((sx "min"), GK.kit), ((sx "range"), GK.kit), ((sx "_law_pick"), GK.fn 30), ((sx "_law_part"), GK.fn 38), ((sx "_law_is_whole"), GK.fn 32), ((sx "_law_times"), GK.fn 35), ((sx "_law_is"), GK.fn 40), ((sx "_law_plus"), GK.fn 33), ((sx "_law_less"), GK.fn 34), ((sx "repr"), GK.kit), ((sx "_law_spelled"), GK.fn 37), ((sx "_law_sign"), GK.fn 36), ((sx "_law_drawn"), GK.fn 39), ((sx "_law_raised"), GK.fn 41), ((sx "_law_reckoned"), GK.fn 42), ((sx "_law_asked"), GK.fn 43), ((sx "_law_by_sign"), GK.fn 44), ((sx "_law_rounds"), GK.fn 31), ((sx "_law_right"), GK.fn 45), ((sx "_law_pot"), GK.fn 28), ((sx "law"), GK.fn 46)]
  gv := [.int 64]
  opn := [⟨163, 11, 163, 126⟩]
  stat := [((0, (sx "read")), 13)]
theorem txt : P.txt = true := by kernel_rfl
theorem trd : P.Trd 60 60 := by
  unfold Pr.Trd
  kernel_rfl
end K02

set_option Elab.async false
set_option linter.all false
set_option maxRecDepth 1000000
set_option maxHeartbeats 0
namespace K02H
open PySem L2 Mir K02
def lo0 : List Str := [(sx "WrongValue"), (sx "InvalidNumber"), (sx "InvalidText"), (sx "MOST_POWER"), (sx "power_of"), (sx "is_whole"), (sx "is_whole_within"), (sx "is_whole_text"), (sx "number_check"), (sx "pair_sign"), (sx "pair_product"), (sx "parts_of_text"), (sx "Golden"), (sx "is_number"), (sx "golden"), (sx "_law_pot"), (sx "_law_take"), (sx "_law_pick"), (sx "_law_rounds"), (sx "_law_is_whole"), (sx "_law_plus"), (sx "_law_less"), (sx "_law_times"), (sx "_law_sign"), (sx "_law_spelled"), (sx "_law_part"), (sx "_law_drawn"), (sx "_law_is"), (sx "_law_raised"), (sx "_law_reckoned")]
def lo1 : List Str := [(sx "_law_asked"), (sx "_law_by_sign"), (sx "_law_right")]
abbrev loose : List Str := lo0 ++ lo1
abbrev R : PySem.W.OpenRow := PySem.W.OpenLaw.row PySem.Challenge.rw_wallwalks_k02_goldens
abbrev hk : PySem.W.Hook := P.hook 7
def ob (s : PySem.W.SharedT) : ObT := P.obG 7 (HandSHeadRun.getT s)
theorem ob_eq (s : PySem.W.SharedT) : ob s = hk.obs s.abs := P.obG_eq (HandSHeadRun.getT_eq s)
theorem runEq (w : World) : HandSHeadRun.RunEq R (PySem.W.view R.prog [39]) hk ob 20000 loose w := by
  intro os
  kernel_rfl
end K02H

set_option Elab.async false
set_option linter.all false
set_option maxRecDepth 1000000
set_option maxHeartbeats 4000000
namespace K02
open PySem Mir
theorem fn_0 : P.T.fn 0 = some ⟨3, 4, false, b0⟩ := by kernel_rfl
theorem fn_1 : P.T.fn 1 = some ⟨1, 1, false, b1⟩ := by kernel_rfl
theorem fn_2 : P.T.fn 2 = some ⟨3, 3, false, b2⟩ := by kernel_rfl
theorem fn_3 : P.T.fn 3 = some ⟨1, 2, false, b3⟩ := by kernel_rfl
theorem fn_4 : P.T.fn 4 = some ⟨3, 3, false, b4⟩ := by kernel_rfl
theorem fn_5 : P.T.fn 5 = some ⟨2, 4, false, b5⟩ := by kernel_rfl
theorem fn_6 : P.T.fn 6 = some ⟨2, 7, false, b6⟩ := by kernel_rfl
theorem fn_7 : P.T.fn 7 = some ⟨1, 5, false, b7⟩ := by kernel_rfl
theorem fn_8 : P.T.fn 8 = some ⟨3, 4, false, b8⟩ := by kernel_rfl
theorem fn_9 : P.T.fn 9 = some ⟨1, 1, false, b9⟩ := by kernel_rfl
theorem fn_10 : P.T.fn 10 = some ⟨1, 1, false, b10⟩ := by kernel_rfl
theorem fn_11 : P.T.fn 11 = some ⟨1, 1, false, b11⟩ := by kernel_rfl
theorem fn_12 : P.T.fn 12 = some ⟨1, 1, false, b12⟩ := by kernel_rfl
theorem fn_13 : P.T.fn 13 = some ⟨1, 2, false, b13⟩ := by kernel_rfl
theorem fn_14 : P.T.fn 14 = some ⟨2, 2, false, b14⟩ := by kernel_rfl
theorem fn_15 : P.T.fn 15 = some ⟨1, 1, false, b15⟩ := by kernel_rfl
theorem fn_16 : P.T.fn 16 = some ⟨2, 3, false, b16⟩ := by kernel_rfl
theorem fn_17 : P.T.fn 17 = some ⟨2, 2, false, b17⟩ := by kernel_rfl
theorem fn_18 : P.T.fn 18 = some ⟨2, 3, false, b18⟩ := by kernel_rfl
theorem fn_19 : P.T.fn 19 = some ⟨2, 2, false, b19⟩ := by kernel_rfl
theorem fn_20 : P.T.fn 20 = some ⟨2, 5, false, b20⟩ := by kernel_rfl
theorem fn_21 : P.T.fn 21 = some ⟨2, 2, false, b21⟩ := by kernel_rfl
theorem fn_22 : P.T.fn 22 = some ⟨1, 1, false, b22⟩ := by kernel_rfl
theorem fn_23 : P.T.fn 23 = some ⟨2, 2, false, b23⟩ := by kernel_rfl
theorem fn_24 : P.T.fn 24 = some ⟨2, 2, false, b24⟩ := by kernel_rfl
theorem fn_25 : P.T.fn 25 = some ⟨2, 2, false, b25⟩ := by kernel_rfl
theorem fn_26 : P.T.fn 26 = some ⟨1, 1, false, b26⟩ := by kernel_rfl
theorem fn_27 : P.T.fn 27 = some ⟨1, 1, false, b27⟩ := by kernel_rfl
theorem fn_28 : P.T.fn 28 = some ⟨2, 5, true, b28⟩ := by kernel_rfl
theorem fn_29 : P.T.fn 29 = some ⟨2, 4, false, b29⟩ := by kernel_rfl
theorem fn_30 : P.T.fn 30 = some ⟨2, 2, false, b30⟩ := by kernel_rfl
theorem fn_31 : P.T.fn 31 = some ⟨1, 1, false, b31⟩ := by kernel_rfl
theorem fn_32 : P.T.fn 32 = some ⟨1, 1, false, b32⟩ := by kernel_rfl
theorem fn_33 : P.T.fn 33 = some ⟨2, 2, false, b33⟩ := by kernel_rfl
theorem fn_34 : P.T.fn 34 = some ⟨2, 2, false, b34⟩ := by kernel_rfl
theorem fn_35 : P.T.fn 35 = some ⟨2, 3, false, b35⟩ := by kernel_rfl
theorem fn_36 : P.T.fn 36 = some ⟨1, 4, false, b36⟩ := by kernel_rfl
theorem fn_37 : P.T.fn 37 = some ⟨1, 3, false, b37⟩ := by kernel_rfl
theorem fn_38 : P.T.fn 38 = some ⟨2, 4, false, b38⟩ := by kernel_rfl
theorem fn_39 : P.T.fn 39 = some ⟨1, 2, false, b39⟩ := by kernel_rfl
theorem fn_40 : P.T.fn 40 = some ⟨2, 2, false, b40⟩ := by kernel_rfl
theorem fn_41 : P.T.fn 41 = some ⟨2, 4, false, b41⟩ := by kernel_rfl
theorem fn_42 : P.T.fn 42 = some ⟨3, 6, false, b42⟩ := by kernel_rfl
theorem fn_43 : P.T.fn 43 = some ⟨3, 7, false, b43⟩ := by kernel_rfl
theorem fn_44 : P.T.fn 44 = some ⟨2, 2, false, b44⟩ := by kernel_rfl
theorem fn_45 : P.T.fn 45 = some ⟨1, 7, false, b45⟩ := by kernel_rfl
theorem fn_46 : P.T.fn 46 = some ⟨1, 2, false, b46⟩ := by kernel_rfl
theorem has_0 : P.T.has 0 = true := by kernel_rfl
theorem fld_0_23 : P.T.fld 0 23 = true := by kernel_rfl
theorem prop_0_23 : P.T.prop 0 23 = none := by kernel_rfl
theorem fld_0_24 : P.T.fld 0 24 = true := by kernel_rfl
theorem prop_0_24 : P.T.prop 0 24 = none := by kernel_rfl
theorem prop_0_25 : P.T.prop 0 25 = some 9 := by kernel_rfl
theorem prop_0_26 : P.T.prop 0 26 = some 10 := by kernel_rfl
theorem prop_0_27 : P.T.prop 0 27 = some 11 := by kernel_rfl
theorem prop_0_28 : P.T.prop 0 28 = some 12 := by kernel_rfl
theorem mth_0_21 : P.T.mth 0 21 = some 14 := by kernel_rfl
theorem mth_0_22 : P.T.mth 0 22 = some 15 := by kernel_rfl
theorem mth_0_1 : P.T.mth 0 1 = some 16 := by kernel_rfl
theorem mth_0_11 : P.T.mth 0 11 = some 17 := by kernel_rfl
theorem mth_0_2 : P.T.mth 0 2 = some 18 := by kernel_rfl
theorem mth_0_12 : P.T.mth 0 12 = some 19 := by kernel_rfl
theorem mth_0_3 : P.T.mth 0 3 = some 20 := by kernel_rfl
theorem mth_0_13 : P.T.mth 0 13 = some 21 := by kernel_rfl
theorem mth_0_20 : P.T.mth 0 20 = some 22 := by kernel_rfl
theorem mth_0_4 : P.T.mth 0 4 = some 23 := by kernel_rfl
theorem mth_0_29 : P.T.mth 0 29 = some 24 := by kernel_rfl
theorem mth_0_30 : P.T.mth 0 30 = some 25 := by kernel_rfl
theorem init_0 : P.T.init 0 = some 8 := by kernel_rfl
theorem shp_0_2 : P.T.shp 0 2 = some [.inl 0, .inl 1, .inl 2] := by kernel_rfl
theorem shp_1_0 : P.T.shp 1 0 = some [.inl 0] := by kernel_rfl
theorem shp_2_2 : P.T.shp 2 2 = some [.inl 0, .inl 1, .inl 2] := by kernel_rfl
theorem shp_3_0 : P.T.shp 3 0 = some [.inl 0] := by kernel_rfl
theorem shp_3_5 : P.T.shp 3 5 = some [.inl 0] := by kernel_rfl
theorem shp_4_2 : P.T.shp 4 2 = some [.inl 0, .inl 1, .inl 2] := by kernel_rfl
theorem shp_5_1 : P.T.shp 5 1 = some [.inl 0, .inl 1] := by kernel_rfl
theorem shp_6_1 : P.T.shp 6 1 = some [.inl 0, .inl 1] := by kernel_rfl
theorem shp_7_0 : P.T.shp 7 0 = some [.inl 0] := by kernel_rfl
theorem shp_7_5 : P.T.shp 7 5 = some [.inl 0] := by kernel_rfl
theorem shp_8_1 : P.T.shp 8 1 = some [.inl 0, .inl 1, .inr (.int 0)] := by kernel_rfl
theorem shp_8_2 : P.T.shp 8 2 = some [.inl 0, .inl 1, .inl 2] := by kernel_rfl
theorem shp_8_3 : P.T.shp 8 3 = some [.inl 0, .inl 1, .inl 2] := by kernel_rfl
theorem shp_9_0 : P.T.shp 9 0 = some [.inl 0] := by kernel_rfl
theorem shp_10_0 : P.T.shp 10 0 = some [.inl 0] := by kernel_rfl
theorem shp_11_0 : P.T.shp 11 0 = some [.inl 0] := by kernel_rfl
theorem shp_12_0 : P.T.shp 12 0 = some [.inl 0] := by kernel_rfl
theorem shp_13_0 : P.T.shp 13 0 = some [.inl 0] := by kernel_rfl
theorem shp_13_5 : P.T.shp 13 5 = some [.inl 0] := by kernel_rfl
theorem shp_14_1 : P.T.shp 14 1 = some [.inl 0, .inl 1] := by kernel_rfl
theorem shp_14_7 : P.T.shp 14 7 = some [.inl 0, .inl 1] := by kernel_rfl
theorem shp_15_0 : P.T.shp 15 0 = some [.inl 0] := by kernel_rfl
theorem shp_16_1 : P.T.shp 16 1 = some [.inl 0, .inl 1] := by kernel_rfl
theorem shp_16_7 : P.T.shp 16 7 = some [.inl 0, .inl 1] := by kernel_rfl
theorem shp_17_1 : P.T.shp 17 1 = some [.inl 0, .inl 1] := by kernel_rfl
theorem shp_17_7 : P.T.shp 17 7 = some [.inl 0, .inl 1] := by kernel_rfl
theorem shp_18_1 : P.T.shp 18 1 = some [.inl 0, .inl 1] := by kernel_rfl
theorem shp_18_7 : P.T.shp 18 7 = some [.inl 0, .inl 1] := by kernel_rfl
theorem shp_19_1 : P.T.shp 19 1 = some [.inl 0, .inl 1] := by kernel_rfl
theorem shp_19_7 : P.T.shp 19 7 = some [.inl 0, .inl 1] := by kernel_rfl
theorem shp_20_1 : P.T.shp 20 1 = some [.inl 0, .inl 1] := by kernel_rfl
theorem shp_20_7 : P.T.shp 20 7 = some [.inl 0, .inl 1] := by kernel_rfl
theorem shp_21_1 : P.T.shp 21 1 = some [.inl 0, .inl 1] := by kernel_rfl
theorem shp_21_7 : P.T.shp 21 7 = some [.inl 0, .inl 1] := by kernel_rfl
theorem shp_22_0 : P.T.shp 22 0 = some [.inl 0] := by kernel_rfl
theorem shp_23_1 : P.T.shp 23 1 = some [.inl 0, .inl 1] := by kernel_rfl
theorem shp_23_7 : P.T.shp 23 7 = some [.inl 0, .inl 1] := by kernel_rfl
theorem shp_24_1 : P.T.shp 24 1 = some [.inl 0, .inl 1] := by kernel_rfl
theorem shp_24_8 : P.T.shp 24 8 = some [.inl 0, .inl 1] := by kernel_rfl
theorem shp_25_1 : P.T.shp 25 1 = some [.inl 0, .inl 1] := by kernel_rfl
theorem shp_25_7 : P.T.shp 25 7 = some [.inl 0, .inl 1] := by kernel_rfl
theorem shp_26_0 : P.T.shp 26 0 = some [.inl 0] := by kernel_rfl
theorem shp_27_0 : P.T.shp 27 0 = some [.inl 0] := by kernel_rfl
theorem shp_27_6 : P.T.shp 27 6 = some [.inl 0] := by kernel_rfl
theorem shp_28_1 : P.T.shp 28 1 = some [.inl 0, .inl 1] := by kernel_rfl
theorem shp_29_1 : P.T.shp 29 1 = some [.inl 0, .inl 1] := by kernel_rfl
theorem shp_30_1 : P.T.shp 30 1 = some [.inl 0, .inl 1] := by kernel_rfl
theorem shp_31_0 : P.T.shp 31 0 = some [.inl 0] := by kernel_rfl
theorem shp_32_0 : P.T.shp 32 0 = some [.inl 0] := by kernel_rfl
theorem shp_33_1 : P.T.shp 33 1 = some [.inl 0, .inl 1] := by kernel_rfl
theorem shp_34_1 : P.T.shp 34 1 = some [.inl 0, .inl 1] := by kernel_rfl
theorem shp_35_1 : P.T.shp 35 1 = some [.inl 0, .inl 1] := by kernel_rfl
theorem shp_36_0 : P.T.shp 36 0 = some [.inl 0] := by kernel_rfl
theorem shp_37_0 : P.T.shp 37 0 = some [.inl 0] := by kernel_rfl
theorem shp_38_1 : P.T.shp 38 1 = some [.inl 0, .inl 1] := by kernel_rfl
theorem shp_39_0 : P.T.shp 39 0 = some [.inl 0] := by kernel_rfl
theorem shp_40_1 : P.T.shp 40 1 = some [.inl 0, .inl 1] := by kernel_rfl
theorem shp_41_1 : P.T.shp 41 1 = some [.inl 0, .inl 1] := by kernel_rfl
theorem shp_42_2 : P.T.shp 42 2 = some [.inl 0, .inl 1, .inl 2] := by kernel_rfl
theorem shp_43_2 : P.T.shp 43 2 = some [.inl 0, .inl 1, .inl 2] := by kernel_rfl
theorem shp_44_1 : P.T.shp 44 1 = some [.inl 0, .inl 1] := by kernel_rfl
theorem shp_45_0 : P.T.shp 45 0 = some [.inl 0] := by kernel_rfl
theorem shp_46_0 : P.T.shp 46 0 = some [.inl 0] := by kernel_rfl
end K02

set_option Elab.async false
set_option linter.all false
set_option maxRecDepth 1000000
set_option maxHeartbeats 4000000
set_option exponentiation.threshold 2000
namespace K02
open PySem Mir
/-- a pot: three numbers -/
def Pot (st : Sto) (p : Nat) (c : Int) : Prop := ∃ a b n : Int, st[p]? = some (.lst [.int a, .int b, .int n]) ∧ 0 ≤ a ∧ 0 ≤ b ∧ b < 2147483579 ∧ 0 ≤ n ∧ n ≤ c
theorem mulOk_of {i j : Int} (h1 : i.natAbs < 2 ^ 1000) (h2 : j.natAbs < 2 ^ 1000) : mulOk i j = true := by
  unfold mulOk
  refine decide_eq_true ?_
  have a : i.natAbs.log2 < 1001 := by
    by_cases c : i.natAbs = 0
    · rw [c]; decide
    · exact Nat.lt_of_lt_of_le ((Nat.log2_lt c).mpr h1) (by decide)
  have b : j.natAbs.log2 < 1001 := by
    by_cases c : j.natAbs = 0
    · rw [c]; decide
    · exact Nat.lt_of_lt_of_le ((Nat.log2_lt c).mpr h2) (by decide)
  omega
theorem take0 (k : Nat) (st : Sto) (p : Nat) {a b n m : Int} (h : st[p]? = some (.lst [.int a, .int b, .int n])) (ha : 0 < a) (hm : 0 < m) (hm2 : divOk m = true) :
    run P.T (k + 1) 29 [.mref p, .int m] st = .ok (.int (a % m)) (st.set p (.lst [.int (a / m), .int b, .int n])) := by
  have hl : p < st.length := (List.getElem?_eq_some_iff.mp h).1
  rw [run_succ _ _ _ _ _ fn_29 rfl]
  simp (config := {}) [b29, exSs, exS, evE, evEs, evO, evAnd, evOr, evT, evTA, evTO, evIfs, evIt, evTg, evTgs, evStr, ↓bind_t, ↓toO_t, ↓then_t, ↓forD_t, ↓whlD_t, ↓compD_t, bindT_ok, bindT_ex, toOT_ok, toOT_ex, thenT_nxt, thenT_ret, thenT_ex, thenT_brk, thenT_cnt, R.calm, opt_some, opt_none, binD, negD, tstD, cmpV, blD, biV, attrD, callD, bindD, methF, ownM, intB_add, intB_sub, intB_mul, intB_fdiv, intB_mod, dun, rdun, dNeg, dEq, dBool, startD, idxD, slcD, Mir.atI, Mir.ixN, items, biD, truD, isD, kdD, isK, cmpD, cmpInt, eqD, flat2, setI, setAt, putA, parD, List.lookup_cons, List.lookup_nil, strD, mlstD, appD, fits, sz, walkD, walkL, out_ret, out_ret0, out_nxt0, guardO_pos, h, ha, hm, hm2]
def sd (b n : Int) : Int := (b + 104729 * (n + 1)) % 2147483579
def nb (b n : Int) : Int := (sd b n * (sd b n % 8191 + 30011) + 13 * (n + 1)) % 2147483579
theorem sd_b (b n : Int) : 0 ≤ sd b n ∧ sd b n < 2147483579 := ⟨Int.emod_nonneg _ (by decide), Int.emod_lt_of_pos _ (by decide)⟩
theorem nb_b (b n : Int) : 0 ≤ nb b n ∧ nb b n < 2147483579 := ⟨Int.emod_nonneg _ (by decide), Int.emod_lt_of_pos _ (by decide)⟩
theorem big1000 {i : Int} (h1 : -(2 ^ 100) < i) (h2 : i < 2 ^ 100) : i.natAbs < 2 ^ 1000 := by
  have : (2 : Nat) ^ 100 ≤ 2 ^ 1000 := Nat.pow_le_pow_right (by decide) (by decide)
  have e : ((2 ^ 100 : Nat) : Int) = 2 ^ 100 := by decide
  omega
theorem take1 (k : Nat) (st : Sto) (p : Nat) {a b n m : Int} (h : st[p]? = some (.lst [.int a, .int b, .int n])) (ha : ¬ 0 < a) (hm : 0 < m) (hn : 0 ≤ n) (hn2 : n < 10000) :
    run P.T (k + 1) 29 [.mref p, .int m] st = .ok (.int (nb b n / 512 % m)) (st.set p (.lst [.int a, .int (nb b n), .int (n + 1)])) := by
  have hl : p < st.length := (List.getElem?_eq_some_iff.mp h).1
  have m1 : mulOk 104729 (n + 1) = true := mulOk_of (by decide) (big1000 (by omega) (by omega))
  have m2 : mulOk 13 (n + 1) = true := mulOk_of (by decide) (big1000 (by omega) (by omega))
  have s0 := sd_b b n
  have m3 : mulOk (sd b n) (sd b n % 8191 + 30011) = true := mulOk_of (big1000 (by omega) (by omega)) (big1000 (by omega) (by omega))
  unfold sd at m3
  have d5 : divOk 512 = true := by decide
  rw [run_succ _ _ _ _ _ fn_29 rfl]
  have hs : ∀ x, (st.set p x)[p]? = some x := fun x => List.getElem?_set_self hl
  simp [b29, exSs, exS, evE, evEs, evO, evAnd, evOr, evT, evTA, evTO, evIfs, evIt, evTg, evTgs, evStr, ↓bind_t, ↓toO_t, ↓then_t, ↓forD_t, ↓whlD_t, ↓compD_t, bindT_ok, bindT_ex, toOT_ok, toOT_ex, thenT_nxt, thenT_ret, thenT_ex, thenT_brk, thenT_cnt, R.calm, opt_some, opt_none, binD, negD, tstD, cmpV, blD, biV, attrD, callD, bindD, methF, ownM, intB_add, intB_sub, intB_mul, intB_fdiv, intB_mod, dun, rdun, dNeg, dEq, dBool, startD, idxD, slcD, Mir.atI, Mir.ixN, items, biD, truD, isD, kdD, isK, cmpD, cmpInt, eqD, flat2, setI, setAt, putA, parD, List.lookup_cons, List.lookup_nil, strD, mlstD, appD, fits, sz, walkD, walkL, out_ret, out_ret0, out_nxt0, guardO_pos, h, hs, ha, hm, m1, m2, m3, d5, nb, sd]
theorem emod_b {a m : Int} (hm : 0 < m) : 0 ≤ a % m ∧ a % m < m := ⟨Int.emod_nonneg _ (by omega), Int.emod_lt_of_pos _ hm⟩
theorem take (k : Nat) {st : Sto} {p : Nat} {c m : Int} (h : Pot st p c) (hm : 0 < m) (hm2 : divOk m = true) (hc : c < 9000) :
    ∃ v st', run P.T (k + 1) 29 [.mref p, .int m] st = .ok (.int v) st' ∧ 0 ≤ v ∧ v < m ∧ Pot st' p (c + 1) ∧ st'.length = st.length := by
  obtain ⟨a, b, n, e, h1, h2, h3, h4, h5⟩ := h
  have hl : p < st.length := (List.getElem?_eq_some_iff.mp e).1
  by_cases ha : 0 < a
  · refine ⟨_, _, take0 k st p e ha hm hm2, (emod_b hm).1, (emod_b hm).2, ⟨a / m, b, n, List.getElem?_set_self hl, Int.ediv_nonneg h1 (by omega), h2, h3, h4, by omega⟩, List.length_set⟩
  · refine ⟨_, _, take1 k st p e ha hm h4 (by omega), (emod_b hm).1, (emod_b hm).2, ⟨a, _, n + 1, List.getElem?_set_self hl, h1, (nb_b b n).1, (nb_b b n).2, by omega, by omega⟩, List.length_set⟩
theorem pick (k : Nat) {st : Sto} {p : Nat} {c : Int} {ds : List D} (h : Pot st p c) (h0 : 0 < ds.length) (hm2 : divOk ds.length = true) (hc : c < 9000) :
    ∃ d st', run P.T (k + 2) 30 [.mref p, .tup ds] st = .ok d st' ∧ d ∈ ds ∧ Pot st' p (c + 1) ∧ st'.length = st.length := by
  obtain ⟨v, st', e, v0, v1, h', l⟩ := take k h (m := (ds.length : Int)) (by omega) hm2 hc
  have hv : v.toNat < ds.length := by omega
  refine ⟨ds[v.toNat], st', ?_, List.getElem_mem _, h', l⟩
  rw [run_succ _ _ _ _ _ fn_30 rfl]
  have n1 : ¬ v < 0 := by omega
  have n2 : v < (ds.length : Int) := v1
  simp [b30, exSs, exS, evE, evEs, evO, evAnd, evOr, evT, evTA, evTO, evIfs, evIt, evTg, evTgs, evStr, ↓bind_t, ↓toO_t, ↓then_t, ↓forD_t, ↓whlD_t, ↓compD_t, bindT_ok, bindT_ex, toOT_ok, toOT_ex, thenT_nxt, thenT_ret, thenT_ex, thenT_brk, thenT_cnt, R.calm, opt_some, opt_none, binD, negD, tstD, cmpV, blD, biV, attrD, callD, bindD, methF, ownM, intB_add, intB_sub, intB_mul, intB_fdiv, intB_mod, dun, rdun, dNeg, dEq, dBool, startD, idxD, slcD, Mir.atI, Mir.ixN, items, biD, truD, isD, kdD, isK, cmpD, cmpInt, eqD, flat2, setI, setAt, putA, parD, List.lookup_cons, List.lookup_nil, strD, mlstD, appD, fits, sz, walkD, walkL, out_ret, out_ret0, out_nxt0, guardO_pos, shp_29_1, e, v0, n2, hv, l]
end K02

set_option Elab.async false
set_option linter.all false
set_option maxRecDepth 1000000
set_option maxHeartbeats 4000000
set_option exponentiation.threshold 2000
namespace K02
open PySem Mir
theorem pow6 : intBin .Pow 10 6 = some 1000000 := by decide +kernel
theorem pow18 : intBin .Pow 10 18 = some 1000000000000000000 := by decide +kernel
theorem div2 : divOk 2 = true ∧ divOk 1000000 = true ∧ divOk 41 = true ∧ divOk 4 = true ∧ divOk 5 = true ∧ divOk 7 = true := by decide
theorem divS {m : Int} (h : 0 ≤ m) (h2 : m < 10000) : divOk m = true := by
  unfold divOk
  refine decide_eq_true ?_
  by_cases c : m.natAbs = 0
  · rw [c]; decide
  · have : m.natAbs < 2 ^ 14 := by omega
    have := (Nat.log2_lt c).mpr this
    omega
theorem m64 (i : Int) (h : -(2 ^ 100) < i) (h2 : i < 2 ^ 100) (j : Int) (h3 : -(2 ^ 100) < j) (h4 : j < 2 ^ 100) : mulOk i j = true := mulOk_of (big1000 h h2) (big1000 h3 h4)
theorem part1 (k : Nat) {st : Sto} {p : Nat} {c m : Int} (h : Pot st p c) (h0 : 0 < m) (h1 : m ≤ 1000) (hc : c < 9000) :
    ∃ v st', run P.T (k + 2) 38 [.mref p, .int m] st = .ok (.int v) st' ∧ -1001 < v ∧ v < 1001 ∧ Pot st' p (c + 1) ∧ st'.length = st.length := by
  obtain ⟨v, st', e, v0, v1, h', l⟩ := take k h (m := 2 * m + 1) (by omega) (divS (by omega) (by omega)) hc
  refine ⟨v - m, st', ?_, by omega, by omega, h', l⟩
  have m1 : mulOk 2 m = true := m64 _ (by decide) (by decide) _ (by omega) (by omega)
  rw [run_succ _ _ _ _ _ fn_38 rfl]
  simp [b38, exSs, exS, evE, evEs, evO, evAnd, evOr, evT, evTA, evTO, evIfs, evIt, evTg, evTgs, evStr, ↓bind_t, ↓toO_t, ↓then_t, ↓forD_t, ↓whlD_t, ↓compD_t, bindT_ok, bindT_ex, toOT_ok, toOT_ex, thenT_nxt, thenT_ret, thenT_ex, thenT_brk, thenT_cnt, R.calm, opt_some, opt_none, binD, negD, tstD, cmpV, blD, biV, attrD, callD, bindD, methF, ownM, intB_add, intB_sub, intB_mul, intB_fdiv, intB_mod, dun, rdun, dNeg, dEq, dBool, startD, idxD, slcD, Mir.atI, Mir.ixN, items, biD, truD, isD, kdD, isK, cmpD, cmpInt, eqD, flat2, setI, setAt, putA, parD, List.lookup_cons, List.lookup_nil, strD, mlstD, appD, fits, sz, walkD, walkL, out_ret, out_ret0, out_nxt0, guardO_pos, shp_29_1, e, h0, m1, l]
theorem part0 (k : Nat) {st : Sto} {p : Nat} {c : Int} (h : Pot st p c) (hc : c < 8000) :
    ∃ v st', run P.T (k + 2) 38 [.mref p, .int 0] st = .ok (.int v) st' ∧ -(10 ^ 24) < v ∧ v < 10 ^ 24 ∧ Pot st' p (c + 5) ∧ st'.length = st.length := by
  obtain ⟨v1, st1, e1, a1, b1, h1, l1⟩ := take k h (m := 1000000) (by omega) div2.2.1 (by omega)
  obtain ⟨v2, st2, e2, a2, b2, h2, l2⟩ := take k h1 (m := 1000000) (by omega) div2.2.1 (by omega)
  obtain ⟨v3, st3, e3, a3, b3, h3, l3⟩ := take k h2 (m := 1000000) (by omega) div2.2.1 (by omega)
  obtain ⟨v4, st4, e4, a4, b4, h4, l4⟩ := take k h3 (m := 1000000) (by omega) div2.2.1 (by omega)
  obtain ⟨v5, st5, e5, a5, b5, h5, l5⟩ := take k h4 (m := 2) (by omega) div2.1 (by omega)
  have m1 : mulOk v1 1000000 = true := m64 _ (by omega) (by omega) _ (by decide) (by decide)
  have m2 : mulOk (v1 * 1000000 + v2) 1000000 = true := m64 _ (by omega) (by omega) _ (by decide) (by decide)
  have m3 : mulOk ((v1 * 1000000 + v2) * 1000000 + v3) 1000000 = true := m64 _ (by omega) (by omega) _ (by decide) (by decide)
  have m0 : mulOk 0 1000000 = true := by decide
  by_cases z : v5 = 0
  · refine ⟨((v1 * 1000000 + v2) * 1000000 + v3) * 1000000 + v4, st5, ?_, by omega, by omega, ?_, by omega⟩
    · rw [run_succ _ _ _ _ _ fn_38 rfl]
      simp [b38, exSs, exS, evE, evEs, evO, evAnd, evOr, evT, evTA, evTO, evIfs, evIt, evTg, evTgs, evStr, ↓bind_t, ↓toO_t, ↓then_t, ↓forD_t, ↓whlD_t, ↓compD_t, bindT_ok, bindT_ex, toOT_ok, toOT_ex, thenT_nxt, thenT_ret, thenT_ex, thenT_brk, thenT_cnt, R.calm, opt_some, opt_none, binD, negD, tstD, cmpV, blD, biV, attrD, callD, bindD, methF, ownM, intB_add, intB_sub, intB_mul, intB_fdiv, intB_mod, dun, rdun, dNeg, dEq, dBool, startD, idxD, slcD, Mir.atI, Mir.ixN, items, biD, truD, isD, kdD, isK, cmpD, cmpInt, eqD, flat2, setI, setAt, putA, parD, List.lookup_cons, List.lookup_nil, strD, mlstD, appD, fits, sz, walkD, walkL, out_ret, out_ret0, out_nxt0, guardO_pos, shp_29_1, pow6, rngI, forDT_nil, forDT_cons, e1, e2, e3, e4, e5, m0, m1, m2, m3, z, l1, l2, l3, l4, l5]
    · obtain ⟨a, b, n, q⟩ := h5
      exact ⟨a, b, n, q.1, q.2.1, q.2.2.1, q.2.2.2.1, q.2.2.2.2.1, by omega⟩
  · refine ⟨0 - (((v1 * 1000000 + v2) * 1000000 + v3) * 1000000 + v4), st5, ?_, by omega, by omega, ?_, by omega⟩
    · rw [run_succ _ _ _ _ _ fn_38 rfl]
      simp [b38, exSs, exS, evE, evEs, evO, evAnd, evOr, evT, evTA, evTO, evIfs, evIt, evTg, evTgs, evStr, ↓bind_t, ↓toO_t, ↓then_t, ↓forD_t, ↓whlD_t, ↓compD_t, bindT_ok, bindT_ex, toOT_ok, toOT_ex, thenT_nxt, thenT_ret, thenT_ex, thenT_brk, thenT_cnt, R.calm, opt_some, opt_none, binD, negD, tstD, cmpV, blD, biV, attrD, callD, bindD, methF, ownM, intB_add, intB_sub, intB_mul, intB_fdiv, intB_mod, dun, rdun, dNeg, dEq, dBool, startD, idxD, slcD, Mir.atI, Mir.ixN, items, biD, truD, isD, kdD, isK, cmpD, cmpInt, eqD, flat2, setI, setAt, putA, parD, List.lookup_cons, List.lookup_nil, strD, mlstD, appD, fits, sz, walkD, walkL, out_ret, out_ret0, out_nxt0, guardO_pos, shp_29_1, pow6, rngI, forDT_nil, forDT_cons, e1, e2, e3, e4, e5, m0, m1, m2, m3, z, l1, l2, l3, l4, l5]
    · obtain ⟨a, b, n, q⟩ := h5
      exact ⟨a, b, n, q.1, q.2.1, q.2.2.1, q.2.2.2.1, q.2.2.2.2.1, by omega⟩
theorem Pot.mono {st : Sto} {p : Nat} {c d : Int} (h : Pot st p c) (hd : c ≤ d) : Pot st p d := by
  obtain ⟨a, b, n, q⟩ := h
  exact ⟨a, b, n, q.1, q.2.1, q.2.2.1, q.2.2.2.1, q.2.2.2.2.1, by omega⟩
theorem part (k : Nat) {st : Sto} {p : Nat} {c m : Int} (h : Pot st p c) (h0 : 0 ≤ m) (h1 : m ≤ 1000) (hc : c < 8000) :
    ∃ v st', run P.T (k + 2) 38 [.mref p, .int m] st = .ok (.int v) st' ∧ -(10 ^ 24) < v ∧ v < 10 ^ 24 ∧ Pot st' p (c + 5) ∧ st'.length = st.length := by
  by_cases z : m = 0
  · subst z
    exact part0 k h hc
  · obtain ⟨v, st', e, a, b, q, l⟩ := part1 k h (m := m) (by omega) h1 (by omega)
    exact ⟨v, st', e, by omega, by omega, q.mono (by omega), l⟩
theorem drawn (k : Nat) {st : Sto} {p : Nat} {c : Int} (h : Pot st p c) (hc : c < 7000) :
    ∃ a b st', run P.T (k + 3) 39 [.mref p] st = .ok (.tup [.int a, .int b]) st' ∧ -(10 ^ 24) < a ∧ a < 10 ^ 24 ∧ -(10 ^ 24) < b ∧ b < 10 ^ 24 ∧ Pot st' p (c + 11) ∧ st'.length = st.length := by
  obtain ⟨d, st1, e1, hd, h1, l1⟩ := pick k h (ds := [.int 2, .int 9, .int 30, .int 1000, .int 0]) (by decide) div2.2.2.2.2.1 (by omega)
  obtain ⟨m, rfl, m0, m1⟩ : ∃ m : Int, d = .int m ∧ 0 ≤ m ∧ m ≤ 1000 := by
    simp only [List.mem_cons, List.not_mem_nil, or_false] at hd
    rcases hd with h | h | h | h | h <;> exact ⟨_, h, by decide, by decide⟩
  obtain ⟨a, st2, e2, a1, a2, h2, l2⟩ := part k h1 m0 m1 (by omega)
  obtain ⟨b, st3, e3, b1, b2, h3, l3⟩ := part k h2 m0 m1 (by omega)
  refine ⟨a, b, st3, ?_, a1, a2, b1, b2, h3.mono (by omega), by omega⟩
  rw [run_succ _ _ _ _ _ fn_39 rfl]
  simp [b39, exSs, exS, evE, evEs, evO, evAnd, evOr, evT, evTA, evTO, evIfs, evIt, evTg, evTgs, evStr, ↓bind_t, ↓toO_t, ↓then_t, ↓forD_t, ↓whlD_t, ↓compD_t, bindT_ok, bindT_ex, toOT_ok, toOT_ex, thenT_nxt, thenT_ret, thenT_ex, thenT_brk, thenT_cnt, R.calm, opt_some, opt_none, binD, negD, tstD, cmpV, blD, biV, attrD, callD, bindD, methF, ownM, intB_add, intB_sub, intB_mul, intB_fdiv, intB_mod, dun, rdun, dNeg, dEq, dBool, startD, idxD, slcD, Mir.atI, Mir.ixN, items, biD, truD, isD, kdD, isK, cmpD, cmpInt, eqD, flat2, setI, setAt, putA, parD, List.lookup_cons, List.lookup_nil, strD, mlstD, appD, fits, sz, walkD, walkL, out_ret, out_ret0, out_nxt0, guardO_pos, shp_30_1, shp_38_1, e1, e2, e3, l1, l2, l3]
end K02

set_option Elab.async false
set_option linter.all false
set_option maxRecDepth 1000000
set_option maxHeartbeats 4000000
set_option exponentiation.threshold 2000
namespace K02
open PySem Mir
abbrev gO (a b : Int) : D := .obj 0 [(23, .int a), (24, .int b)]
theorem iw (k : Nat) (a : Int) (st : Sto) : run P.T (k + 1) 1 [.int a] st = .ok (.bl true) st := by
  rw [run_succ _ _ _ _ _ fn_1 rfl]
  simp [b1, exSs, exS, evE, evEs, evO, evAnd, evOr, evT, evTA, evTO, evIfs, evIt, evTg, evTgs, evStr, ↓bind_t, ↓toO_t, ↓then_t, ↓forD_t, ↓whlD_t, ↓compD_t, bindT_ok, bindT_ex, toOT_ok, toOT_ex, thenT_nxt, thenT_ret, thenT_ex, thenT_brk, thenT_cnt, R.calm, opt_some, opt_none, binD, negD, tstD, cmpV, blD, biV, attrD, callD, bindD, methF, ownM, intB_add, intB_sub, intB_mul, intB_fdiv, intB_mod, dun, rdun, dNeg, dEq, dBool, startD, idxD, slcD, Mir.atI, Mir.ixN, items, biD, truD, isD, kdD, isK, cmpD, cmpInt, eqD, flat2, setI, setAt, putA, parD, List.lookup_cons, List.lookup_nil, strD, mlstD, appD, fits, sz, walkD, walkL, out_ret, out_ret0, out_nxt0, guardO_pos]
theorem iw32 (k : Nat) (a : Int) (st : Sto) : run P.T (k + 1) 32 [.int a] st = .ok (.bl true) st := by
  rw [run_succ _ _ _ _ _ fn_32 rfl]
  simp [b32, exSs, exS, evE, evEs, evO, evAnd, evOr, evT, evTA, evTO, evIfs, evIt, evTg, evTgs, evStr, ↓bind_t, ↓toO_t, ↓then_t, ↓forD_t, ↓whlD_t, ↓compD_t, bindT_ok, bindT_ex, toOT_ok, toOT_ex, thenT_nxt, thenT_ret, thenT_ex, thenT_brk, thenT_cnt, R.calm, opt_some, opt_none, binD, negD, tstD, cmpV, blD, biV, attrD, callD, bindD, methF, ownM, intB_add, intB_sub, intB_mul, intB_fdiv, intB_mod, dun, rdun, dNeg, dEq, dBool, startD, idxD, slcD, Mir.atI, Mir.ixN, items, biD, truD, isD, kdD, isK, cmpD, cmpInt, eqD, flat2, setI, setAt, putA, parD, List.lookup_cons, List.lookup_nil, strD, mlstD, appD, fits, sz, walkD, walkL, out_ret, out_ret0, out_nxt0, guardO_pos]
theorem init8 (k : Nat) (a b : Int) (st : Sto) : run P.T (k + 2) 8 [.mref st.length, .int a, .int b] (st ++ [.ins 0 []]) = .ok .non (st ++ [.ins 0 [(23, .int a), (24, .int b)]]) := by
  have h1 : ∀ x : Cell, (st ++ [x])[st.length]? = some x := fun x => by simp
  have h2 : ∀ x y : Cell, (st ++ [x]).set st.length y = st ++ [y] := fun x y => by simp
  rw [run_succ _ _ _ _ _ fn_8 rfl]
  simp [b8, exSs, exS, evE, evEs, evO, evAnd, evOr, evT, evTA, evTO, evIfs, evIt, evTg, evTgs, evStr, ↓bind_t, ↓toO_t, ↓then_t, ↓forD_t, ↓whlD_t, ↓compD_t, bindT_ok, bindT_ex, toOT_ok, toOT_ex, thenT_nxt, thenT_ret, thenT_ex, thenT_brk, thenT_cnt, R.calm, opt_some, opt_none, binD, negD, tstD, cmpV, blD, biV, attrD, callD, bindD, methF, ownM, intB_add, intB_sub, intB_mul, intB_fdiv, intB_mod, dun, rdun, dNeg, dEq, dBool, startD, idxD, slcD, Mir.atI, Mir.ixN, items, biD, truD, isD, kdD, isK, cmpD, cmpInt, eqD, flat2, setI, setAt, putA, parD, List.lookup_cons, List.lookup_nil, strD, mlstD, appD, fits, sz, walkD, walkL, out_ret, out_ret0, out_nxt0, guardO_pos, forDT_nil, forDT_cons, shp_1_0, iw, h1, h2, fld_0_23, fld_0_24]
theorem mk_ (k : Nat) (a b : Int) (st : Sto) : (run P.T (k + 2) 8 [.mref st.length, .int a, .int b] (st ++ [.ins 0 []])).bind (madeD 0 st) = .ok (gO a b) st := by
  rw [init8, R.bind_ok]
  have h1 : ∀ x : Cell, (st ++ [x])[st.length]? = some x := fun x => by simp
  unfold madeD
  simp only [h1]
  exact trim_app _ [] rfl
theorem mk2 (k : Nat) (a b : Int) (st : Sto) : makeD P.T (run P.T (k + 2)) 0 [.int a, .int b] 2 st = .ok (gO a b) st := by
  have := mk_ k a b st
  simpa [makeD, init_0, callD, shp_8_2, bindD] using this
theorem mk3 (k : Nat) (a b : Int) (st : Sto) : makeD P.T (run P.T (k + 2)) 0 [.int a, .int b] 3 st = .ok (gO a b) st := by
  have := mk_ k a b st
  simpa [makeD, init_0, callD, shp_8_3, bindD] using this
theorem mk1 (k : Nat) (a : Int) (st : Sto) : makeD P.T (run P.T (k + 2)) 0 [.int a] 1 st = .ok (gO a 0) st := by
  have := mk_ k a 0 st
  simpa [makeD, init_0, callD, shp_8_1, bindD] using this
end K02

set_option Elab.async false
set_option linter.all false
set_option maxRecDepth 1000000
set_option maxHeartbeats 4000000
set_option exponentiation.threshold 2000
namespace K02
open PySem Mir
theorem gw (k : Nat) (a b : Int) (st : Sto) : run P.T (k + 1) 9 [gO a b] st = .ok (.int a) st := by
  rw [run_succ _ _ _ _ _ fn_9 rfl]
  simp [b9, exSs, exS, evE, evEs, evO, evAnd, evOr, evT, evTA, evTO, evIfs, evIt, evTg, evTgs, evStr, ↓bind_t, ↓toO_t, ↓then_t, ↓forD_t, ↓whlD_t, ↓compD_t, bindT_ok, bindT_ex, toOT_ok, toOT_ex, thenT_nxt, thenT_ret, thenT_ex, thenT_brk, thenT_cnt, R.calm, opt_some, opt_none, binD, negD, tstD, cmpV, blD, biV, attrD, callD, bindD, methF, ownM, intB_add, intB_sub, intB_mul, intB_fdiv, intB_mod, dun, rdun, dNeg, dEq, dBool, startD, idxD, slcD, Mir.atI, Mir.ixN, items, biD, truD, isD, kdD, isK, cmpD, cmpInt, eqD, flat2, setI, setAt, putA, parD, List.lookup_cons, List.lookup_nil, strD, mlstD, appD, fits, sz, walkD, walkL, out_ret, out_ret0, out_nxt0, guardO_pos, prop_0_23, fld_0_23]
theorem gg (k : Nat) (a b : Int) (st : Sto) : run P.T (k + 1) 10 [gO a b] st = .ok (.int b) st := by
  rw [run_succ _ _ _ _ _ fn_10 rfl]
  simp [b10, exSs, exS, evE, evEs, evO, evAnd, evOr, evT, evTA, evTO, evIfs, evIt, evTg, evTgs, evStr, ↓bind_t, ↓toO_t, ↓then_t, ↓forD_t, ↓whlD_t, ↓compD_t, bindT_ok, bindT_ex, toOT_ok, toOT_ex, thenT_nxt, thenT_ret, thenT_ex, thenT_brk, thenT_cnt, R.calm, opt_some, opt_none, binD, negD, tstD, cmpV, blD, biV, attrD, callD, bindD, methF, ownM, intB_add, intB_sub, intB_mul, intB_fdiv, intB_mod, dun, rdun, dNeg, dEq, dBool, startD, idxD, slcD, Mir.atI, Mir.ixN, items, biD, truD, isD, kdD, isK, cmpD, cmpInt, eqD, flat2, setI, setAt, putA, parD, List.lookup_cons, List.lookup_nil, strD, mlstD, appD, fits, sz, walkD, walkL, out_ret, out_ret0, out_nxt0, guardO_pos, prop_0_24, fld_0_24]
theorem inO (k : Nat) (a b : Int) (st : Sto) : run P.T (k + 1) 26 [gO a b] st = .ok (.bl true) st := by
  rw [run_succ _ _ _ _ _ fn_26 rfl]
  simp [b26, exSs, exS, evE, evEs, evO, evAnd, evOr, evT, evTA, evTO, evIfs, evIt, evTg, evTgs, evStr, ↓bind_t, ↓toO_t, ↓then_t, ↓forD_t, ↓whlD_t, ↓compD_t, bindT_ok, bindT_ex, toOT_ok, toOT_ex, thenT_nxt, thenT_ret, thenT_ex, thenT_brk, thenT_cnt, R.calm, opt_some, opt_none, binD, negD, tstD, cmpV, blD, biV, attrD, callD, bindD, methF, ownM, intB_add, intB_sub, intB_mul, intB_fdiv, intB_mod, dun, rdun, dNeg, dEq, dBool, startD, idxD, slcD, Mir.atI, Mir.ixN, items, biD, truD, isD, kdD, isK, cmpD, cmpInt, eqD, flat2, setI, setAt, putA, parD, List.lookup_cons, List.lookup_nil, strD, mlstD, appD, fits, sz, walkD, walkL, out_ret, out_ret0, out_nxt0, guardO_pos, has_0]
theorem inI (k : Nat) (a : Int) (st : Sto) : run P.T (k + 2) 26 [.int a] st = .ok (.bl true) st := by
  rw [run_succ _ _ _ _ _ fn_26 rfl]
  simp [b26, exSs, exS, evE, evEs, evO, evAnd, evOr, evT, evTA, evTO, evIfs, evIt, evTg, evTgs, evStr, ↓bind_t, ↓toO_t, ↓then_t, ↓forD_t, ↓whlD_t, ↓compD_t, bindT_ok, bindT_ex, toOT_ok, toOT_ex, thenT_nxt, thenT_ret, thenT_ex, thenT_brk, thenT_cnt, R.calm, opt_some, opt_none, binD, negD, tstD, cmpV, blD, biV, attrD, callD, bindD, methF, ownM, intB_add, intB_sub, intB_mul, intB_fdiv, intB_mod, dun, rdun, dNeg, dEq, dBool, startD, idxD, slcD, Mir.atI, Mir.ixN, items, biD, truD, isD, kdD, isK, cmpD, cmpInt, eqD, flat2, setI, setAt, putA, parD, List.lookup_cons, List.lookup_nil, strD, mlstD, appD, fits, sz, walkD, walkL, out_ret, out_ret0, out_nxt0, guardO_pos, has_0, shp_1_0, iw]
theorem goO (k : Nat) (a b : Int) (st : Sto) : run P.T (k + 1) 27 [gO a b] st = .ok (gO a b) st := by
  rw [run_succ _ _ _ _ _ fn_27 rfl]
  simp [b27, exSs, exS, evE, evEs, evO, evAnd, evOr, evT, evTA, evTO, evIfs, evIt, evTg, evTgs, evStr, ↓bind_t, ↓toO_t, ↓then_t, ↓forD_t, ↓whlD_t, ↓compD_t, bindT_ok, bindT_ex, toOT_ok, toOT_ex, thenT_nxt, thenT_ret, thenT_ex, thenT_brk, thenT_cnt, R.calm, opt_some, opt_none, binD, negD, tstD, cmpV, blD, biV, attrD, callD, bindD, methF, ownM, intB_add, intB_sub, intB_mul, intB_fdiv, intB_mod, dun, rdun, dNeg, dEq, dBool, startD, idxD, slcD, Mir.atI, Mir.ixN, items, biD, truD, isD, kdD, isK, cmpD, cmpInt, eqD, flat2, setI, setAt, putA, parD, List.lookup_cons, List.lookup_nil, strD, mlstD, appD, fits, sz, walkD, walkL, out_ret, out_ret0, out_nxt0, guardO_pos, has_0]
theorem goI (k : Nat) (a : Int) (st : Sto) : run P.T (k + 3) 27 [.int a] st = .ok (gO a 0) st := by
  rw [run_succ _ _ _ _ _ fn_27 rfl]
  simp [b27, exSs, exS, evE, evEs, evO, evAnd, evOr, evT, evTA, evTO, evIfs, evIt, evTg, evTgs, evStr, ↓bind_t, ↓toO_t, ↓then_t, ↓forD_t, ↓whlD_t, ↓compD_t, bindT_ok, bindT_ex, toOT_ok, toOT_ex, thenT_nxt, thenT_ret, thenT_ex, thenT_brk, thenT_cnt, R.calm, opt_some, opt_none, binD, negD, tstD, cmpV, blD, biV, attrD, callD, bindD, methF, ownM, intB_add, intB_sub, intB_mul, intB_fdiv, intB_mod, dun, rdun, dNeg, dEq, dBool, startD, idxD, slcD, Mir.atI, Mir.ixN, items, biD, truD, isD, kdD, isK, cmpD, cmpInt, eqD, flat2, setI, setAt, putA, parD, List.lookup_cons, List.lookup_nil, strD, mlstD, appD, fits, sz, walkD, walkL, out_ret, out_ret0, out_nxt0, guardO_pos, has_0, mk1]
theorem pp (k : Nat) (a b c d : Int) (st : Sto) (h1 : mulOk b d = true) (h2 : mulOk a c = true) (h3 : mulOk a d = true) (h4 : mulOk b c = true) :
    run P.T (k + 1) 6 [.tup [.int a, .int b], .tup [.int c, .int d]] st = .ok (.tup [.int (a * c + b * d), .int (a * d + b * c + b * d)]) st := by
  rw [run_succ _ _ _ _ _ fn_6 rfl]
  simp [b6, exSs, exS, evE, evEs, evO, evAnd, evOr, evT, evTA, evTO, evIfs, evIt, evTg, evTgs, evStr, ↓bind_t, ↓toO_t, ↓then_t, ↓forD_t, ↓whlD_t, ↓compD_t, bindT_ok, bindT_ex, toOT_ok, toOT_ex, thenT_nxt, thenT_ret, thenT_ex, thenT_brk, thenT_cnt, R.calm, opt_some, opt_none, binD, negD, tstD, cmpV, blD, biV, attrD, callD, bindD, methF, ownM, intB_add, intB_sub, intB_mul, intB_fdiv, intB_mod, dun, rdun, dNeg, dEq, dBool, startD, idxD, slcD, Mir.atI, Mir.ixN, items, biD, truD, isD, kdD, isK, cmpD, cmpInt, eqD, flat2, setI, setAt, putA, parD, List.lookup_cons, List.lookup_nil, strD, mlstD, appD, fits, sz, walkD, walkL, out_ret, out_ret0, out_nxt0, guardO_pos, h1, h2, h3, h4]
theorem addO (k : Nat) (a b c d : Int) (st : Sto) : run P.T (k + 3) 16 [gO a b, gO c d] st = .ok (gO (a + c) (b + d)) st := by
  rw [run_succ _ _ _ _ _ fn_16 rfl]
  simp [b16, exSs, exS, evE, evEs, evO, evAnd, evOr, evT, evTA, evTO, evIfs, evIt, evTg, evTgs, evStr, ↓bind_t, ↓toO_t, ↓then_t, ↓forD_t, ↓whlD_t, ↓compD_t, bindT_ok, bindT_ex, toOT_ok, toOT_ex, thenT_nxt, thenT_ret, thenT_ex, thenT_brk, thenT_cnt, R.calm, opt_some, opt_none, binD, negD, tstD, cmpV, blD, biV, attrD, callD, bindD, methF, ownM, intB_add, intB_sub, intB_mul, intB_fdiv, intB_mod, dun, rdun, dNeg, dEq, dBool, startD, idxD, slcD, Mir.atI, Mir.ixN, items, biD, truD, isD, kdD, isK, cmpD, cmpInt, eqD, flat2, setI, setAt, putA, parD, List.lookup_cons, List.lookup_nil, strD, mlstD, appD, fits, sz, walkD, walkL, out_ret, out_ret0, out_nxt0, guardO_pos, shp_26_0, shp_27_0, inO, goO, prop_0_23, prop_0_24, prop_0_25, prop_0_26, fld_0_23, fld_0_24, gw, gg, mk2]
theorem addI (k : Nat) (a b c : Int) (st : Sto) : run P.T (k + 4) 16 [gO a b, .int c] st = .ok (gO (a + c) (b + 0)) st := by
  rw [run_succ _ _ _ _ _ fn_16 rfl]
  simp [b16, exSs, exS, evE, evEs, evO, evAnd, evOr, evT, evTA, evTO, evIfs, evIt, evTg, evTgs, evStr, ↓bind_t, ↓toO_t, ↓then_t, ↓forD_t, ↓whlD_t, ↓compD_t, bindT_ok, bindT_ex, toOT_ok, toOT_ex, thenT_nxt, thenT_ret, thenT_ex, thenT_brk, thenT_cnt, R.calm, opt_some, opt_none, binD, negD, tstD, cmpV, blD, biV, attrD, callD, bindD, methF, ownM, intB_add, intB_sub, intB_mul, intB_fdiv, intB_mod, dun, rdun, dNeg, dEq, dBool, startD, idxD, slcD, Mir.atI, Mir.ixN, items, biD, truD, isD, kdD, isK, cmpD, cmpInt, eqD, flat2, setI, setAt, putA, parD, List.lookup_cons, List.lookup_nil, strD, mlstD, appD, fits, sz, walkD, walkL, out_ret, out_ret0, out_nxt0, guardO_pos, shp_26_0, shp_27_0, inI, goI, prop_0_23, prop_0_24, prop_0_25, prop_0_26, fld_0_23, fld_0_24, gw, gg, mk2]
theorem raddI (k : Nat) (a b c : Int) (st : Sto) : run P.T (k + 4) 17 [gO a b, .int c] st = .ok (gO (c + a) (0 + b)) st := by
  rw [run_succ _ _ _ _ _ fn_17 rfl]
  simp [b17, exSs, exS, evE, evEs, evO, evAnd, evOr, evT, evTA, evTO, evIfs, evIt, evTg, evTgs, evStr, ↓bind_t, ↓toO_t, ↓then_t, ↓forD_t, ↓whlD_t, ↓compD_t, bindT_ok, bindT_ex, toOT_ok, toOT_ex, thenT_nxt, thenT_ret, thenT_ex, thenT_brk, thenT_cnt, R.calm, opt_some, opt_none, binD, negD, tstD, cmpV, blD, biV, attrD, callD, bindD, methF, ownM, intB_add, intB_sub, intB_mul, intB_fdiv, intB_mod, dun, rdun, dNeg, dEq, dBool, startD, idxD, slcD, Mir.atI, Mir.ixN, items, biD, truD, isD, kdD, isK, cmpD, cmpInt, eqD, flat2, setI, setAt, putA, parD, List.lookup_cons, List.lookup_nil, strD, mlstD, appD, fits, sz, walkD, walkL, out_ret, out_ret0, out_nxt0, guardO_pos, shp_26_0, shp_27_0, inI, goI, mth_0_1, addO]
theorem subO (k : Nat) (a b c d : Int) (st : Sto) : run P.T (k + 3) 18 [gO a b, gO c d] st = .ok (gO (a - c) (b - d)) st := by
  rw [run_succ _ _ _ _ _ fn_18 rfl]
  simp [b18, exSs, exS, evE, evEs, evO, evAnd, evOr, evT, evTA, evTO, evIfs, evIt, evTg, evTgs, evStr, ↓bind_t, ↓toO_t, ↓then_t, ↓forD_t, ↓whlD_t, ↓compD_t, bindT_ok, bindT_ex, toOT_ok, toOT_ex, thenT_nxt, thenT_ret, thenT_ex, thenT_brk, thenT_cnt, R.calm, opt_some, opt_none, binD, negD, tstD, cmpV, blD, biV, attrD, callD, bindD, methF, ownM, intB_add, intB_sub, intB_mul, intB_fdiv, intB_mod, dun, rdun, dNeg, dEq, dBool, startD, idxD, slcD, Mir.atI, Mir.ixN, items, biD, truD, isD, kdD, isK, cmpD, cmpInt, eqD, flat2, setI, setAt, putA, parD, List.lookup_cons, List.lookup_nil, strD, mlstD, appD, fits, sz, walkD, walkL, out_ret, out_ret0, out_nxt0, guardO_pos, shp_26_0, shp_27_0, inO, goO, prop_0_23, prop_0_24, prop_0_25, prop_0_26, fld_0_23, fld_0_24, gw, gg, mk2]
theorem subI (k : Nat) (a b c : Int) (st : Sto) : run P.T (k + 4) 18 [gO a b, .int c] st = .ok (gO (a - c) (b - 0)) st := by
  rw [run_succ _ _ _ _ _ fn_18 rfl]
  simp [b18, exSs, exS, evE, evEs, evO, evAnd, evOr, evT, evTA, evTO, evIfs, evIt, evTg, evTgs, evStr, ↓bind_t, ↓toO_t, ↓then_t, ↓forD_t, ↓whlD_t, ↓compD_t, bindT_ok, bindT_ex, toOT_ok, toOT_ex, thenT_nxt, thenT_ret, thenT_ex, thenT_brk, thenT_cnt, R.calm, opt_some, opt_none, binD, negD, tstD, cmpV, blD, biV, attrD, callD, bindD, methF, ownM, intB_add, intB_sub, intB_mul, intB_fdiv, intB_mod, dun, rdun, dNeg, dEq, dBool, startD, idxD, slcD, Mir.atI, Mir.ixN, items, biD, truD, isD, kdD, isK, cmpD, cmpInt, eqD, flat2, setI, setAt, putA, parD, List.lookup_cons, List.lookup_nil, strD, mlstD, appD, fits, sz, walkD, walkL, out_ret, out_ret0, out_nxt0, guardO_pos, shp_26_0, shp_27_0, inI, goI, prop_0_23, prop_0_24, prop_0_25, prop_0_26, fld_0_23, fld_0_24, gw, gg, mk2]
theorem rsubI (k : Nat) (a b c : Int) (st : Sto) : run P.T (k + 4) 19 [gO a b, .int c] st = .ok (gO (c - a) (0 - b)) st := by
  rw [run_succ _ _ _ _ _ fn_19 rfl]
  simp [b19, exSs, exS, evE, evEs, evO, evAnd, evOr, evT, evTA, evTO, evIfs, evIt, evTg, evTgs, evStr, ↓bind_t, ↓toO_t, ↓then_t, ↓forD_t, ↓whlD_t, ↓compD_t, bindT_ok, bindT_ex, toOT_ok, toOT_ex, thenT_nxt, thenT_ret, thenT_ex, thenT_brk, thenT_cnt, R.calm, opt_some, opt_none, binD, negD, tstD, cmpV, blD, biV, attrD, callD, bindD, methF, ownM, intB_add, intB_sub, intB_mul, intB_fdiv, intB_mod, dun, rdun, dNeg, dEq, dBool, startD, idxD, slcD, Mir.atI, Mir.ixN, items, biD, truD, isD, kdD, isK, cmpD, cmpInt, eqD, flat2, setI, setAt, putA, parD, List.lookup_cons, List.lookup_nil, strD, mlstD, appD, fits, sz, walkD, walkL, out_ret, out_ret0, out_nxt0, guardO_pos, shp_26_0, shp_27_0, inI, goI, mth_0_2, subO]
theorem mulO (k : Nat) (a b c d : Int) (st : Sto) (h1 : mulOk b d = true) (h2 : mulOk a c = true) (h3 : mulOk a d = true) (h4 : mulOk b c = true) : run P.T (k + 3) 20 [gO a b, gO c d] st = .ok (gO (a * c + b * d) (a * d + b * c + b * d)) st := by
  rw [run_succ _ _ _ _ _ fn_20 rfl]
  simp [b20, exSs, exS, evE, evEs, evO, evAnd, evOr, evT, evTA, evTO, evIfs, evIt, evTg, evTgs, evStr, ↓bind_t, ↓toO_t, ↓then_t, ↓forD_t, ↓whlD_t, ↓compD_t, bindT_ok, bindT_ex, toOT_ok, toOT_ex, thenT_nxt, thenT_ret, thenT_ex, thenT_brk, thenT_cnt, R.calm, opt_some, opt_none, binD, negD, tstD, cmpV, blD, biV, attrD, callD, bindD, methF, ownM, intB_add, intB_sub, intB_mul, intB_fdiv, intB_mod, dun, rdun, dNeg, dEq, dBool, startD, idxD, slcD, Mir.atI, Mir.ixN, items, biD, truD, isD, kdD, isK, cmpD, cmpInt, eqD, flat2, setI, setAt, putA, parD, List.lookup_cons, List.lookup_nil, strD, mlstD, appD, fits, sz, walkD, walkL, out_ret, out_ret0, out_nxt0, guardO_pos, shp_26_0, shp_27_0, shp_6_1, inO, goO, prop_0_23, prop_0_24, prop_0_25, prop_0_26, fld_0_23, fld_0_24, gw, gg, mk2, pp, h1, h2, h3, h4]
theorem mul0 (b : Int) : mulOk b 0 = mulOk b 0 := rfl
theorem mulI (k : Nat) (a b c : Int) (st : Sto) (h1 : mulOk b 0 = true) (h2 : mulOk a c = true) (h3 : mulOk a 0 = true) (h4 : mulOk b c = true) : run P.T (k + 4) 20 [gO a b, .int c] st = .ok (gO (a * c + b * 0) (a * 0 + b * c + b * 0)) st := by
  rw [run_succ _ _ _ _ _ fn_20 rfl]
  simp [b20, exSs, exS, evE, evEs, evO, evAnd, evOr, evT, evTA, evTO, evIfs, evIt, evTg, evTgs, evStr, ↓bind_t, ↓toO_t, ↓then_t, ↓forD_t, ↓whlD_t, ↓compD_t, bindT_ok, bindT_ex, toOT_ok, toOT_ex, thenT_nxt, thenT_ret, thenT_ex, thenT_brk, thenT_cnt, R.calm, opt_some, opt_none, binD, negD, tstD, cmpV, blD, biV, attrD, callD, bindD, methF, ownM, intB_add, intB_sub, intB_mul, intB_fdiv, intB_mod, dun, rdun, dNeg, dEq, dBool, startD, idxD, slcD, Mir.atI, Mir.ixN, items, biD, truD, isD, kdD, isK, cmpD, cmpInt, eqD, flat2, setI, setAt, putA, parD, List.lookup_cons, List.lookup_nil, strD, mlstD, appD, fits, sz, walkD, walkL, out_ret, out_ret0, out_nxt0, guardO_pos, shp_26_0, shp_27_0, shp_6_1, inI, goI, prop_0_23, prop_0_24, prop_0_25, prop_0_26, fld_0_23, fld_0_24, gw, gg, mk2, pp, h1, h2, h3, h4]
theorem rmulI (k : Nat) (a b c : Int) (st : Sto) (h1 : mulOk 0 b = true) (h2 : mulOk c a = true) (h3 : mulOk c b = true) (h4 : mulOk 0 a = true) : run P.T (k + 4) 21 [gO a b, .int c] st = .ok (gO (c * a + 0 * b) (c * b + 0 * a + 0 * b)) st := by
  rw [run_succ _ _ _ _ _ fn_21 rfl]
  have := mulO k c 0 a b st h1 h2 h3 h4
  simp at this
  simp [b21, exSs, exS, evE, evEs, evO, evAnd, evOr, evT, evTA, evTO, evIfs, evIt, evTg, evTgs, evStr, ↓bind_t, ↓toO_t, ↓then_t, ↓forD_t, ↓whlD_t, ↓compD_t, bindT_ok, bindT_ex, toOT_ok, toOT_ex, thenT_nxt, thenT_ret, thenT_ex, thenT_brk, thenT_cnt, R.calm, opt_some, opt_none, binD, negD, tstD, cmpV, blD, biV, attrD, callD, bindD, methF, ownM, intB_add, intB_sub, intB_mul, intB_fdiv, intB_mod, dun, rdun, dNeg, dEq, dBool, startD, idxD, slcD, Mir.atI, Mir.ixN, items, biD, truD, isD, kdD, isK, cmpD, cmpInt, eqD, flat2, setI, setAt, putA, parD, List.lookup_cons, List.lookup_nil, strD, mlstD, appD, fits, sz, walkD, walkL, out_ret, out_ret0, out_nxt0, guardO_pos, shp_26_0, shp_27_0, inI, goI, mth_0_3, this]
theorem negO (k : Nat) (a b : Int) (st : Sto) : run P.T (k + 3) 22 [gO a b] st = .ok (gO (-a) (-b)) st := by
  rw [run_succ _ _ _ _ _ fn_22 rfl]
  simp [b22, exSs, exS, evE, evEs, evO, evAnd, evOr, evT, evTA, evTO, evIfs, evIt, evTg, evTgs, evStr, ↓bind_t, ↓toO_t, ↓then_t, ↓forD_t, ↓whlD_t, ↓compD_t, bindT_ok, bindT_ex, toOT_ok, toOT_ex, thenT_nxt, thenT_ret, thenT_ex, thenT_brk, thenT_cnt, R.calm, opt_some, opt_none, binD, negD, tstD, cmpV, blD, biV, attrD, callD, bindD, methF, ownM, intB_add, intB_sub, intB_mul, intB_fdiv, intB_mod, dun, rdun, dNeg, dEq, dBool, startD, idxD, slcD, Mir.atI, Mir.ixN, items, biD, truD, isD, kdD, isK, cmpD, cmpInt, eqD, flat2, setI, setAt, putA, parD, List.lookup_cons, List.lookup_nil, strD, mlstD, appD, fits, sz, walkD, walkL, out_ret, out_ret0, out_nxt0, guardO_pos, prop_0_23, prop_0_24, fld_0_23, fld_0_24, mk2]
theorem eqO (k : Nat) (a b c d : Int) (st : Sto) : run P.T (k + 1) 14 [gO a b, gO c d] st = .ok (.bl (decide (a = c) && decide (b = d))) st := by
  rw [run_succ _ _ _ _ _ fn_14 rfl]
  by_cases e1 : a = c <;> by_cases e2 : b = d <;> simp [b14, exSs, exS, evE, evEs, evO, evAnd, evOr, evT, evTA, evTO, evIfs, evIt, evTg, evTgs, evStr, ↓bind_t, ↓toO_t, ↓then_t, ↓forD_t, ↓whlD_t, ↓compD_t, bindT_ok, bindT_ex, toOT_ok, toOT_ex, thenT_nxt, thenT_ret, thenT_ex, thenT_brk, thenT_cnt, R.calm, opt_some, opt_none, binD, negD, tstD, cmpV, blD, biV, attrD, callD, bindD, methF, ownM, intB_add, intB_sub, intB_mul, intB_fdiv, intB_mod, dun, rdun, dNeg, dEq, dBool, startD, idxD, slcD, Mir.atI, Mir.ixN, items, biD, truD, isD, kdD, isK, cmpD, cmpInt, eqD, flat2, setI, setAt, putA, parD, List.lookup_cons, List.lookup_nil, strD, mlstD, appD, fits, sz, walkD, walkL, out_ret, out_ret0, out_nxt0, guardO_pos, has_0, prop_0_23, prop_0_24, fld_0_23, fld_0_24, e1, e2]
theorem eqI (k : Nat) (a b c : Int) (st : Sto) : run P.T (k + 1) 14 [gO a b, .int c] st = .ok (.bl false) st := by
  rw [run_succ _ _ _ _ _ fn_14 rfl]
  simp [b14, exSs, exS, evE, evEs, evO, evAnd, evOr, evT, evTA, evTO, evIfs, evIt, evTg, evTgs, evStr, ↓bind_t, ↓toO_t, ↓then_t, ↓forD_t, ↓whlD_t, ↓compD_t, bindT_ok, bindT_ex, toOT_ok, toOT_ex, thenT_nxt, thenT_ret, thenT_ex, thenT_brk, thenT_cnt, R.calm, opt_some, opt_none, binD, negD, tstD, cmpV, blD, biV, attrD, callD, bindD, methF, ownM, intB_add, intB_sub, intB_mul, intB_fdiv, intB_mod, dun, rdun, dNeg, dEq, dBool, startD, idxD, slcD, Mir.atI, Mir.ixN, items, biD, truD, isD, kdD, isK, cmpD, cmpInt, eqD, flat2, setI, setAt, putA, parD, List.lookup_cons, List.lookup_nil, strD, mlstD, appD, fits, sz, walkD, walkL, out_ret, out_ret0, out_nxt0, guardO_pos, has_0]
theorem boO (k : Nat) (a b : Int) (st : Sto) : run P.T (k + 1) 15 [gO a b] st = .ok (.bl (decide (a ≠ 0) || decide (b ≠ 0))) st := by
  rw [run_succ _ _ _ _ _ fn_15 rfl]
  by_cases e1 : a = 0 <;> by_cases e2 : b = 0 <;> simp [b15, exSs, exS, evE, evEs, evO, evAnd, evOr, evT, evTA, evTO, evIfs, evIt, evTg, evTgs, evStr, ↓bind_t, ↓toO_t, ↓then_t, ↓forD_t, ↓whlD_t, ↓compD_t, bindT_ok, bindT_ex, toOT_ok, toOT_ex, thenT_nxt, thenT_ret, thenT_ex, thenT_brk, thenT_cnt, R.calm, opt_some, opt_none, binD, negD, tstD, cmpV, blD, biV, attrD, callD, bindD, methF, ownM, intB_add, intB_sub, intB_mul, intB_fdiv, intB_mod, dun, rdun, dNeg, dEq, dBool, startD, idxD, slcD, Mir.atI, Mir.ixN, items, biD, truD, isD, kdD, isK, cmpD, cmpInt, eqD, flat2, setI, setAt, putA, parD, List.lookup_cons, List.lookup_nil, strD, mlstD, appD, fits, sz, walkD, walkL, out_ret, out_ret0, out_nxt0, guardO_pos, prop_0_23, prop_0_24, fld_0_23, fld_0_24, e1, e2]
/-! the law's own -/
theorem lplus (k : Nat) (a b c d : Int) (st : Sto) : run P.T (k + 1) 33 [.tup [.int a, .int b], .tup [.int c, .int d]] st = .ok (.tup [.int (a + c), .int (b + d)]) st := by
  rw [run_succ _ _ _ _ _ fn_33 rfl]
  simp [b33, exSs, exS, evE, evEs, evO, evAnd, evOr, evT, evTA, evTO, evIfs, evIt, evTg, evTgs, evStr, ↓bind_t, ↓toO_t, ↓then_t, ↓forD_t, ↓whlD_t, ↓compD_t, bindT_ok, bindT_ex, toOT_ok, toOT_ex, thenT_nxt, thenT_ret, thenT_ex, thenT_brk, thenT_cnt, R.calm, opt_some, opt_none, binD, negD, tstD, cmpV, blD, biV, attrD, callD, bindD, methF, ownM, intB_add, intB_sub, intB_mul, intB_fdiv, intB_mod, dun, rdun, dNeg, dEq, dBool, startD, idxD, slcD, Mir.atI, Mir.ixN, items, biD, truD, isD, kdD, isK, cmpD, cmpInt, eqD, flat2, setI, setAt, putA, parD, List.lookup_cons, List.lookup_nil, strD, mlstD, appD, fits, sz, walkD, walkL, out_ret, out_ret0, out_nxt0, guardO_pos]
theorem lless (k : Nat) (a b c d : Int) (st : Sto) : run P.T (k + 1) 34 [.tup [.int a, .int b], .tup [.int c, .int d]] st = .ok (.tup [.int (a - c), .int (b - d)]) st := by
  rw [run_succ _ _ _ _ _ fn_34 rfl]
  simp [b34, exSs, exS, evE, evEs, evO, evAnd, evOr, evT, evTA, evTO, evIfs, evIt, evTg, evTgs, evStr, ↓bind_t, ↓toO_t, ↓then_t, ↓forD_t, ↓whlD_t, ↓compD_t, bindT_ok, bindT_ex, toOT_ok, toOT_ex, thenT_nxt, thenT_ret, thenT_ex, thenT_brk, thenT_cnt, R.calm, opt_some, opt_none, binD, negD, tstD, cmpV, blD, biV, attrD, callD, bindD, methF, ownM, intB_add, intB_sub, intB_mul, intB_fdiv, intB_mod, dun, rdun, dNeg, dEq, dBool, startD, idxD, slcD, Mir.atI, Mir.ixN, items, biD, truD, isD, kdD, isK, cmpD, cmpInt, eqD, flat2, setI, setAt, putA, parD, List.lookup_cons, List.lookup_nil, strD, mlstD, appD, fits, sz, walkD, walkL, out_ret, out_ret0, out_nxt0, guardO_pos]
theorem ltimes (k : Nat) (a b c d : Int) (st : Sto) (h1 : mulOk b d = true) (h2 : mulOk a c = true) (h3 : mulOk a d = true) (h4 : mulOk b c = true) : run P.T (k + 1) 35 [.tup [.int a, .int b], .tup [.int c, .int d]] st = .ok (.tup [.int (a * c + b * d), .int (a * d + b * c + b * d)]) st := by
  rw [run_succ _ _ _ _ _ fn_35 rfl]
  simp [b35, exSs, exS, evE, evEs, evO, evAnd, evOr, evT, evTA, evTO, evIfs, evIt, evTg, evTgs, evStr, ↓bind_t, ↓toO_t, ↓then_t, ↓forD_t, ↓whlD_t, ↓compD_t, bindT_ok, bindT_ex, toOT_ok, toOT_ex, thenT_nxt, thenT_ret, thenT_ex, thenT_brk, thenT_cnt, R.calm, opt_some, opt_none, binD, negD, tstD, cmpV, blD, biV, attrD, callD, bindD, methF, ownM, intB_add, intB_sub, intB_mul, intB_fdiv, intB_mod, dun, rdun, dNeg, dEq, dBool, startD, idxD, slcD, Mir.atI, Mir.ixN, items, biD, truD, isD, kdD, isK, cmpD, cmpInt, eqD, flat2, setI, setAt, putA, parD, List.lookup_cons, List.lookup_nil, strD, mlstD, appD, fits, sz, walkD, walkL, out_ret, out_ret0, out_nxt0, guardO_pos, h1, h2, h3, h4]
theorem lis (k : Nat) (a b : Int) (st : Sto) : run P.T (k + 2) 40 [gO a b, .tup [.int a, .int b]] st = .ok (.bl true) st := by
  rw [run_succ _ _ _ _ _ fn_40 rfl]
  have ee : eqv (.tup [.int a, .int b]) (.tup [.int a, .int b]) = true := by simp [eqv, eqvs]
  have pp : pl 60 (.tup [.int a, .int b]) = true := by simp [pl, pls]
  simp [b40, exSs, exS, evE, evEs, evO, evAnd, evOr, evT, evTA, evTO, evIfs, evIt, evTg, evTgs, evStr, ↓bind_t, ↓toO_t, ↓then_t, ↓forD_t, ↓whlD_t, ↓compD_t, bindT_ok, bindT_ex, toOT_ok, toOT_ex, thenT_nxt, thenT_ret, thenT_ex, thenT_brk, thenT_cnt, R.calm, opt_some, opt_none, binD, negD, tstD, cmpV, blD, biV, attrD, callD, bindD, methF, ownM, intB_add, intB_sub, intB_mul, intB_fdiv, intB_mod, dun, rdun, dNeg, dEq, dBool, startD, idxD, slcD, Mir.atI, Mir.ixN, items, biD, truD, isD, kdD, isK, cmpD, cmpInt, eqD, flat2, setI, setAt, putA, parD, List.lookup_cons, List.lookup_nil, strD, mlstD, appD, fits, sz, walkD, walkL, out_ret, out_ret0, out_nxt0, guardO_pos, has_0, shp_32_0, iw32, prop_0_25, prop_0_26, gw, gg, ee, pp]
end K02

set_option Elab.async false
set_option linter.all false
set_option maxRecDepth 1000000
set_option maxHeartbeats 4000000
set_option exponentiation.threshold 2000
namespace K02
open PySem Mir
/-! texts of numbers -/
def S (l : List Nat) : Str := ⟨l.toArray⟩
def la (a : Int) : List Nat := if a < 0 then 45 :: dg a else dg a
theorem text_la (a : Int) : (toString a : Str) = S (la a) := text_int a
theorem S_app (x y : List Nat) : S x ++ S y = S (x ++ y) := by
  refine Str.ext' ?_
  rw [Str.cps_append]
  simp [S]
theorem S_len (x : List Nat) : (S x).length = x.length := by simp [S, PySem.Str.length]
theorem S_inj {x y : List Nat} : S x = S y ↔ x = y := by simp [S]
theorem dg_all (i : Int) : ∀ c ∈ dg i, 48 ≤ c ∧ c ≤ 57 := by
  intro c hc
  obtain ⟨ch, h, rfl⟩ := List.mem_map.mp hc
  have := Nat.isDigit_of_mem_toDigits (by decide) (by decide) h
  simp only [Char.isDigit, Bool.and_eq_true, decide_eq_true_eq] at this
  obtain ⟨h1, h2⟩ := this
  exact ⟨h1, h2⟩
theorem dg_val (i : Int) : NumText.digitsVal (dg i) = i.natAbs := PySem.W.KIN.val_back i.natAbs
theorem dg_len {i : Int} (h : -(10 ^ 24) < i) (h2 : i < 10 ^ 24) : (dg i).length ≤ 24 := by
  unfold dg
  rw [List.length_map]
  exact PyProof.Rows.digits10_le (by decide) (by omega)
theorem dg_pos (i : Int) : dg i ≠ [] := by
  intro e
  have := dg_ne i
  rw [e] at this
  cases this
theorem dg0 : dg 0 = [48] := by decide
theorem td_head : ∀ (n : Nat), 0 < n → (Nat.toDigits 10 n).head? ≠ some '0' := by
  intro n
  induction n using Nat.strongRecOn with
  | _ n ih =>
    intro h
    by_cases c : n < 10
    · rw [Nat.toDigits_of_lt_base c]
      have : ∀ m, m < 10 → 0 < m → ¬ [Nat.digitChar m].head? = some '0' := by decide
      exact this n c h
    · have hm : n % 10 < 10 := Nat.mod_lt n (by decide)
      have t : Nat.toDigits 10 (n / 10) ++ Nat.toDigits 10 (n % 10) = Nat.toDigits 10 (10 * (n / 10) + n % 10) := Nat.toDigits_append_toDigits (by decide) (by omega) hm
      rw [Nat.div_add_mod] at t
      rw [← t]
      have q := ih (n / 10) (by omega) (by omega)
      cases e : Nat.toDigits 10 (n / 10) with
      | nil =>
        have := PyProof.Rows.tDigits_len_ge 10 (n / 10)
        rw [e] at this
        cases this
      | cons x l =>
        rw [e] at q
        simpa using q
theorem dg_head {i : Int} (h : i ≠ 0) : (dg i)[0]? ≠ some 48 := by
  have := td_head i.natAbs (by omega)
  unfold dg
  rw [List.getElem?_map, ← List.head?_eq_getElem?]
  cases e : (Nat.toDigits 10 i.natAbs).head? with
  | none => simp
  | some x =>
    rw [e] at this
    simp only [Option.map_some, ne_eq, Option.some.injEq] at this ⊢
    intro hx
    apply this
    apply Char.toNat_inj.mp
    exact hx
theorem ascii_dg (i : Int) : Txt.isascii (S (dg i)) = true := by
  unfold Txt.isascii S
  simp only [List.all_toArray, List.all_eq_true, decide_eq_true_eq]
  intro c hc
  have := dg_all i c hc
  omega
theorem digit_dg (i : Int) : Txt.isdigit (S (dg i)) = true := by
  unfold Txt.isdigit
  have h1 : (S (dg i)).length > 0 := by
    rw [S_len]
    exact List.length_pos_iff.mpr (dg_pos i)
  rw [decide_eq_true h1, Bool.true_and]
  unfold S
  simp only [List.all_toArray, List.all_eq_true]
  intro c hc
  have h2 := dg_all i c hc
  have : ∀ d, d < 10 → Unicode.isDigit (48 + d) = true := by decide +kernel
  have := this (c - 48) (by omega)
  rwa [show 48 + (c - 48) = c by omega] at this
theorem starts (l : List Nat) (c : Nat) : Txt.startswith (S l) (S [c]) = decide (l[0]? = some c) := by
  have := StrLaws.subAt_one (S l) c 0
  unfold Txt.startswith
  have e : (S l).cps.toList = l := by simp [S]
  rw [e] at this
  by_cases h : l[0]? = some c
  · rw [decide_eq_true h]
    obtain ⟨a, b⟩ := this.mpr h
    show (decide (0 + (S [c]).length ≤ (S l).length) && _) = true
    exact Bool.and_eq_true_iff.mpr ⟨decide_eq_true a, b⟩
  · rw [decide_eq_false h]
    cases q : (decide (0 + (S [c]).length ≤ (S l).length) && Builtin.Str.subAt (S l) (S [c]) 0) with
    | false => rfl
    | true =>
      obtain ⟨a, b⟩ := Bool.and_eq_true_iff.mp q
      exact absurd (this.mp ⟨of_decide_eq_true a, b⟩) h
theorem rf (l : List Nat) (c : Nat) (i : Nat) (h : l[i]? = some c) (h2 : ∀ k : Nat, i < k → l[k]? ≠ some c) : Txt.rfind (S l) (S [c]) = i := by
  have e : (S l).cps.toList = l := by simp [S]
  have at_ : ∀ j, StrLaws.At (S l) (S [c]) (S l).length j ↔ l[j]? = some c := fun j => by
    have := StrLaws.subAt_one (S l) c j
    rwa [e] at this
  unfold Txt.rfind
  rcases StrLaws.last_spec (S l) (S [c]) with ⟨_, q⟩ | ⟨j, q1, q2, q3⟩
  · exact absurd ((at_ i).mpr h) (q i)
  · rw [q1]
    have : j = i := by
      rcases Nat.lt_trichotomy i j with z | z | z
      · exact absurd ((at_ j).mp q2) (h2 j z)
      · exact z.symm
      · exact absurd ((at_ i).mpr h) (q3 i z)
    rw [this]
theorem rf0 (l : List Nat) (c : Nat) (h2 : ∀ k : Nat, l[k]? ≠ some c) : Txt.rfind (S l) (S [c]) = -1 := by
  have e : (S l).cps.toList = l := by simp [S]
  have at_ : ∀ j, StrLaws.At (S l) (S [c]) (S l).length j ↔ l[j]? = some c := fun j => by
    have := StrLaws.subAt_one (S l) c j
    rwa [e] at this
  unfold Txt.rfind
  rcases StrLaws.last_spec (S l) (S [c]) with ⟨q1, q⟩ | ⟨j, q1, q2, q3⟩
  · rw [q1]
  · exact absurd ((at_ j).mp q2) (h2 j)
theorem read_la {a : Int} (h : -(10 ^ 24) < a) (h2 : a < 10 ^ 24) : intText? (S (la a)) = some a := by
  have hl := dg_len h h2
  have e : (S (la a)).cps.toList = la a := by simp [S]
  by_cases c : a < 0
  · have e2 : (S (la a)).cps.toList = 45 :: dg a := by rw [e]; unfold la; rw [if_pos c]
    have := intText_neg e2 (dg_all a) (dg_pos a) (by rw [S_len]; unfold la; rw [if_pos c]; simp; omega)
    rw [this, dg_val]
    congr 1
    omega
  · have e2 : la a = dg a := by unfold la; rw [if_neg c]
    have := intText_digits (x := S (la a)) (by rw [e, e2]; exact dg_all a) (by rw [e, e2]; exact dg_pos a) (by rw [S_len, e2]; omega)
    rw [this, e, e2, dg_val]
    congr 1
    omega
end K02

set_option Elab.async false
set_option linter.all false
set_option maxRecDepth 1000000
set_option maxHeartbeats 4000000
set_option exponentiation.threshold 2000
namespace K02
open PySem Mir
theorem s_plus : PySem.Str.ofString "+" = S [43] := by decide
theorem s_minus : PySem.Str.ofString "-" = S [45] := by decide
theorem s_g : PySem.Str.ofString "g" = S [103] := by decide
theorem s_0 : PySem.Str.ofString "0" = S [48] := by decide
def sgc (b : Int) : Nat := if b > 0 then 43 else 45
def spl (a b : Int) : List Nat := if b = 0 then la a else la a ++ (sgc b :: (dg b ++ [103]))
def In24 (a : Int) : Prop := -(10 ^ 24) < a ∧ a < 10 ^ 24
theorem la_len {a : Int} (h : In24 a) : (la a).length ≤ 25 := by
  have := dg_len h.1 h.2
  unfold la
  split <;> simp <;> omega
theorem log_b {a : Int} (h : In24 a) : a.natAbs.log2 < 1900 := by
  by_cases c : a.natAbs = 0
  · rw [c]; decide
  · have h1 := h.1
    have h2 := h.2
    have : a.natAbs < 2 ^ 80 := by omega
    have := (Nat.log2_lt c).mpr this
    omega
theorem strI {a : Int} (h : In24 a) : strOfInt a = some (.str (S (la a))) := by
  unfold strOfInt
  have := log_b h
  rw [guardO_pos (show a.natAbs.log2 < 1920 by omega), text_la]
theorem la_abs (b : Int) : la (if b < 0 then -b else b) = dg b := by
  unfold la
  split
  · rw [if_neg (by omega)]
    unfold dg
    congr 2
    omega
  · rfl
theorem in_abs {b : Int} (h : In24 b) : In24 (if b < 0 then -b else b) := by
  unfold In24 at *
  split <;> omega
theorem addS {st : Sto} {cd : Cd} {x y : List Nat} (h : x.length + y.length ≤ 1000) : binD P.T cd .Add (.str (S x)) (.str (S y)) st = .ok (.str (S (x ++ y))) st := by
  unfold binD
  dsimp only
  rw [S_len, S_len, if_pos (by show _ ≤ 16777216; omega), S_app]
theorem spelled (k : Nat) (a b : Int) (st : Sto) (ha : In24 a) (hb : In24 b) : run P.T (k + 1) 37 [.tup [.int a, .int b]] st = .ok (.str (S (spl a b))) st := by
  have l1 := la_len ha
  have l2 := dg_len hb.1 hb.2
  rw [run_succ _ _ _ _ _ fn_37 rfl]
  by_cases z : b = 0
  · subst z
    simp [b37, exSs, exS, evE, evEs, evO, evAnd, evOr, evT, evTA, evTO, evIfs, evIt, evTg, evTgs, evStr, ↓bind_t, ↓toO_t, ↓then_t, ↓forD_t, ↓whlD_t, ↓compD_t, bindT_ok, bindT_ex, toOT_ok, toOT_ex, thenT_nxt, thenT_ret, thenT_ex, thenT_brk, thenT_cnt, R.calm, opt_some, opt_none, binD, negD, tstD, cmpV, blD, biV, attrD, callD, bindD, methF, ownM, intB_add, intB_sub, intB_mul, intB_fdiv, intB_mod, dun, rdun, dNeg, dEq, dBool, startD, idxD, slcD, Mir.atI, Mir.ixN, items, biD, truD, isD, kdD, isK, cmpD, cmpInt, eqD, flat2, setI, setAt, putA, parD, List.lookup_cons, List.lookup_nil, strD, mlstD, appD, fits, sz, walkD, walkL, out_ret, out_ret0, out_nxt0, guardO_pos, strI ha, spl]
  · have a1 : ∀ cd c, binD P.T cd .Add (.str (S (la a))) (.str (S [c])) st = .ok (.str (S (la a ++ [c]))) st := fun cd c => addS (by simp; omega)
    have a2 : ∀ cd c, binD P.T cd .Add (.str (S (la a ++ [c]))) (.str (S (dg b))) st = .ok (.str (S (la a ++ c :: dg b))) st := fun cd c => by
      rw [addS (by simp; omega)]
      simp
    have a3 : ∀ cd c, binD P.T cd .Add (.str (S (la a ++ c :: dg b))) (.str (S [103])) st = .ok (.str (S (la a ++ c :: (dg b ++ [103])))) st := fun cd c => by
      rw [addS (by simp; omega)]
      simp
    by_cases p : 0 < b
    · simp [b37, exSs, exS, evE, evEs, evO, evAnd, evOr, evT, evTA, evTO, evIfs, evIt, evTg, evTgs, evStr, ↓bind_t, ↓toO_t, ↓then_t, ↓forD_t, ↓whlD_t, ↓compD_t, bindT_ok, bindT_ex, toOT_ok, toOT_ex, thenT_nxt, thenT_ret, thenT_ex, thenT_brk, thenT_cnt, R.calm, opt_some, opt_none, binD_ii, binD_oo, binD_oi, binD_io, negD, tstD, cmpV, blD, biV, attrD, callD, bindD, methF, ownM, intB_add, intB_sub, intB_mul, intB_fdiv, intB_mod, dun, rdun, dNeg, dEq, dBool, startD, idxD, slcD, Mir.atI, Mir.ixN, items, biD, truD, isD, kdD, isK, cmpD, cmpInt, eqD, flat2, setI, setAt, putA, parD, List.lookup_cons, List.lookup_nil, strD, mlstD, appD, fits, sz, walkD, walkL, out_ret, out_ret0, out_nxt0, guardO_pos, strI ha, strI (in_abs hb), la_abs, s_plus, s_minus, s_g, z, p, spl, sgc, a1, a2, a3]
    · simp [b37, exSs, exS, evE, evEs, evO, evAnd, evOr, evT, evTA, evTO, evIfs, evIt, evTg, evTgs, evStr, ↓bind_t, ↓toO_t, ↓then_t, ↓forD_t, ↓whlD_t, ↓compD_t, bindT_ok, bindT_ex, toOT_ok, toOT_ex, thenT_nxt, thenT_ret, thenT_ex, thenT_brk, thenT_cnt, R.calm, opt_some, opt_none, binD_ii, binD_oo, binD_oi, binD_io, negD, tstD, cmpV, blD, biV, attrD, callD, bindD, methF, ownM, intB_add, intB_sub, intB_mul, intB_fdiv, intB_mod, dun, rdun, dNeg, dEq, dBool, startD, idxD, slcD, Mir.atI, Mir.ixN, items, biD, truD, isD, kdD, isK, cmpD, cmpInt, eqD, flat2, setI, setAt, putA, parD, List.lookup_cons, List.lookup_nil, strD, mlstD, appD, fits, sz, walkD, walkL, out_ret, out_ret0, out_nxt0, guardO_pos, strI ha, strI (in_abs hb), la_abs, s_plus, s_minus, s_g, z, p, spl, sgc, a1, a2, a3]
theorem c43 : ({ cps := #[43] } : Str) = S [43] := rfl
theorem es0 : Str.empty = S [] := rfl
theorem textO (k : Nat) (a b : Int) (st : Sto) (ha : In24 a) (hb : In24 b) : run P.T (k + 1) 12 [gO a b] st = .ok (.str (S (spl a b))) st := by
  have l1 := la_len ha
  have l2 := dg_len hb.1 hb.2
  have lg := log_b hb
  have tb : Str.ofString b.repr = S (la b) := text_la b
  rw [run_succ _ _ _ _ _ fn_12 rfl]
  by_cases z : b = 0
  · subst z
    simp [b12, exSs, exS, evE, evEs, evO, evAnd, evOr, evT, evTA, evTO, evIfs, evIt, evTg, evTgs, evStr, ↓bind_t, ↓toO_t, ↓then_t, ↓forD_t, ↓whlD_t, ↓compD_t, bindT_ok, bindT_ex, toOT_ok, toOT_ex, thenT_nxt, thenT_ret, thenT_ex, thenT_brk, thenT_cnt, R.calm, opt_some, opt_none, binD_ii, binD_oo, binD_oi, binD_io, negD, tstD, cmpV, blD, biV, attrD, callD, bindD, methF, ownM, intB_add, intB_sub, intB_mul, intB_fdiv, intB_mod, dun, rdun, dNeg, dEq, dBool, startD, idxD, slcD, Mir.atI, Mir.ixN, items, biD, truD, isD, kdD, isK, cmpD, cmpInt, eqD, flat2, setI, setAt, putA, parD, List.lookup_cons, List.lookup_nil, strD, mlstD, appD, fits, sz, walkD, walkL, out_ret, out_ret0, out_nxt0, guardO_pos, prop_0_23, prop_0_24, fld_0_23, fld_0_24, strI ha, spl]
  · have f1 : (la a).length ≤ 16777216 := by omega
    have f2 : (la a).length + ((dg b).length + 1) ≤ 16777216 := by omega
    have f3 : (la a).length + ((dg b).length + 1 + 1) ≤ 16777216 := by omega
    have f4 : (dg b).length + 1 + 1 ≤ 16777216 - (la a).length := by omega
    by_cases p : 0 < b
    · have p0 : 0 ≤ b := by omega
      have p1 : la b = dg b := by unfold la; rw [if_neg (by omega)]
      simp [b12, exSs, exS, evE, evEs, evO, evAnd, evOr, evT, evTA, evTO, evIfs, evIt, evTg, evTgs, evStr, ↓bind_t, ↓toO_t, ↓then_t, ↓forD_t, ↓whlD_t, ↓compD_t, bindT_ok, bindT_ex, toOT_ok, toOT_ex, thenT_nxt, thenT_ret, thenT_ex, thenT_brk, thenT_cnt, R.calm, opt_some, opt_none, binD_ii, binD_oo, binD_oi, binD_io, negD, tstD, cmpV, blD, biV, attrD, callD, bindD, methF, ownM, intB_add, intB_sub, intB_mul, intB_fdiv, intB_mod, dun, rdun, dNeg, dEq, dBool, startD, idxD, slcD, Mir.atI, Mir.ixN, items, biD, truD, isD, kdD, isK, cmpD, cmpInt, eqD, flat2, setI, setAt, putA, parD, List.lookup_cons, List.lookup_nil, strD, mlstD, appD, fits, sz, walkD, walkL, out_ret, out_ret0, out_nxt0, guardO_pos, prop_0_23, prop_0_24, fld_0_23, fld_0_24, strI ha, s_g, z, p, p0, spl, sgc, es0, S_app, S_len, lg, tb, c43, p1, sz, f1, f2, f3, f4]
    · have p0 : ¬ 0 ≤ b := by omega
      have p1 : la b = 45 :: dg b := by unfold la; rw [if_pos (by omega)]
      simp [b12, exSs, exS, evE, evEs, evO, evAnd, evOr, evT, evTA, evTO, evIfs, evIt, evTg, evTgs, evStr, ↓bind_t, ↓toO_t, ↓then_t, ↓forD_t, ↓whlD_t, ↓compD_t, bindT_ok, bindT_ex, toOT_ok, toOT_ex, thenT_nxt, thenT_ret, thenT_ex, thenT_brk, thenT_cnt, R.calm, opt_some, opt_none, binD_ii, binD_oo, binD_oi, binD_io, negD, tstD, cmpV, blD, biV, attrD, callD, bindD, methF, ownM, intB_add, intB_sub, intB_mul, intB_fdiv, intB_mod, dun, rdun, dNeg, dEq, dBool, startD, idxD, slcD, Mir.atI, Mir.ixN, items, biD, truD, isD, kdD, isK, cmpD, cmpInt, eqD, flat2, setI, setAt, putA, parD, List.lookup_cons, List.lookup_nil, strD, mlstD, appD, fits, sz, walkD, walkL, out_ret, out_ret0, out_nxt0, guardO_pos, prop_0_23, prop_0_24, fld_0_23, fld_0_24, strI ha, s_g, z, p, p0, spl, sgc, es0, S_app, S_len, lg, tb, c43, p1, sz, f1, f2, f3, f4]
theorem starts2 (l : List Nat) (c : Nat) (d : Nat) : Txt.startswith (S (d :: l)) (S [c]) = decide (d = c) := by
  rw [starts]
  simp
theorem dg_shape (a : Int) : ∃ d l, dg a = d :: l ∧ 48 ≤ d ∧ d ≤ 57 ∧ (a ≠ 0 → d ≠ 48) := by
  cases e : dg a with
  | nil => exact absurd e (dg_pos a)
  | cons d l =>
    have h := dg_all a d (by rw [e]; exact List.mem_cons_self)
    refine ⟨d, l, rfl, h.1, h.2, fun ha hd => ?_⟩
    have := dg_head ha
    rw [e] at this
    exact this (by rw [hd]; rfl)
theorem cutS (l : List Nat) (lo hi : Option Int) : ({ cps := (cut (S l).cps.toList lo hi).toArray } : Str) = S (cut l lo hi) := by simp [S]
theorem cut_1 (x : Nat) (l : List Nat) : cut (x :: l) (some 1) none = l := by
  unfold cut sIx
  dsimp only
  have : min (Int.toNat 1) (x :: l).length = 1 := by simp
  simp only [List.length_cons] at this ⊢
  rw [if_neg (by decide), this]
  simp
theorem cut_to (u v : List Nat) (i : Int) (h : i = u.length) : cut (u ++ v) none (some i) = u := by
  subst h
  unfold cut sIx
  dsimp only
  rw [if_neg (by omega)]
  have : min (u.length : Int).toNat (u ++ v).length = u.length := by simp
  rw [this]
  simp
theorem cut_from (u v : List Nat) (c : Nat) (i : Int) (h : i = u.length + 1) : cut (u ++ c :: v) (some i) none = v := by
  subst h
  unfold cut sIx
  dsimp only
  rw [if_neg (by omega)]
  have : min ((u.length : Int) + 1).toNat (u ++ c :: v).length = u.length + 1 := by simp
  rw [this]
  have e : (u ++ c :: v).drop (u.length + 1) = v := by
    rw [show u ++ c :: v = (u ++ [c]) ++ v by simp]
    rw [show u.length + 1 = (u ++ [c]).length by simp]
    exact List.drop_left
  rw [e]
  simp only [List.length_append, List.length_cons]
  rw [show u.length + (v.length + 1) - (u.length + 1) = v.length by omega, List.take_length]
theorem cut_last (u : List Nat) (c : Nat) : cut (u ++ [c]) none (some (-1)) = u := by
  unfold cut sIx
  dsimp only
  rw [if_pos (by decide)]
  have : (-1 + ((u ++ [c]).length : Int)).toNat = u.length := by simp; omega
  rw [this]
  simp
theorem whole_text (k : Nat) {a : Int} (st : Sto) (ha : In24 a) : run P.T (k + 1) 3 [.str (S (la a))] st = .ok (.bl true) st := by
  obtain ⟨d, l, e, d1, d2, d3⟩ := dg_shape a
  have as := ascii_dg a
  have di := digit_dg a
  have l2 := dg_len ha.1 ha.2
  rw [e] at as di l2
  rw [run_succ _ _ _ _ _ fn_3 rfl]
  have n1 : ¬ d = 45 := by omega
  have l3 : l.length ≤ 23 := by simpa using l2
  have f1 : l.length + 1 + 1 ≤ sz := by show _ ≤ 16777216; omega
  have f2 : l.length + 1 ≤ sz := by show _ ≤ 16777216; omega
  by_cases p : a < 0
  · have p1 : la a = 45 :: d :: l := by unfold la; rw [if_pos p, e]
    have d4 := d3 (by omega)
    have f3 : l.length ≤ 16777214 := by omega
    simp [b3, f3, exSs, exS, evE, evEs, evO, evAnd, evOr, evT, evTA, evTO, evIfs, evIt, evTg, evTgs, evStr, ↓bind_t, ↓toO_t, ↓then_t, ↓forD_t, ↓whlD_t, ↓compD_t, bindT_ok, bindT_ex, toOT_ok, toOT_ex, thenT_nxt, thenT_ret, thenT_ex, thenT_brk, thenT_cnt, R.calm, opt_some, opt_none, binD_ii, binD_oo, binD_oi, binD_io, negD, tstD, cmpV, blD, biV, attrD, callD, bindD, methF, ownM, intB_add, intB_sub, intB_mul, intB_fdiv, intB_mod, dun, rdun, dNeg, dEq, dBool, startD, idxD, slcD, Mir.atI, Mir.ixN, items, biD, truD, isD, kdD, isK, cmpD, cmpInt, eqD, flat2, setI, setAt, putA, parD, List.lookup_cons, List.lookup_nil, strD, mlstD, appD, fits, sz, walkD, walkL, out_ret, out_ret0, out_nxt0, guardO_pos, mStr, mStartswith, mEndswith, mRfind, mIsascii, mIsdigit, p1, s_minus, s_0, starts2, S_len, f1, f2, cutS, cut_1, as, di, d4, S_inj]
  · have p1 : la a = d :: l := by unfold la; rw [if_neg p, e]
    by_cases z : a = 0
    · subst z
      have e0 := e.symm.trans dg0
      simp only [List.cons.injEq] at e0
      obtain ⟨rfl, rfl⟩ := e0
      simp [b3, exSs, exS, evE, evEs, evO, evAnd, evOr, evT, evTA, evTO, evIfs, evIt, evTg, evTgs, evStr, ↓bind_t, ↓toO_t, ↓then_t, ↓forD_t, ↓whlD_t, ↓compD_t, bindT_ok, bindT_ex, toOT_ok, toOT_ex, thenT_nxt, thenT_ret, thenT_ex, thenT_brk, thenT_cnt, R.calm, opt_some, opt_none, binD_ii, binD_oo, binD_oi, binD_io, negD, tstD, cmpV, blD, biV, attrD, callD, bindD, methF, ownM, intB_add, intB_sub, intB_mul, intB_fdiv, intB_mod, dun, rdun, dNeg, dEq, dBool, startD, idxD, slcD, Mir.atI, Mir.ixN, items, biD, truD, isD, kdD, isK, cmpD, cmpInt, eqD, flat2, setI, setAt, putA, parD, List.lookup_cons, List.lookup_nil, strD, mlstD, appD, fits, sz, walkD, walkL, out_ret, out_ret0, out_nxt0, guardO_pos, mStr, mStartswith, mEndswith, mRfind, mIsascii, mIsdigit, p1, s_minus, s_0, starts2, S_len, as, di, S_inj]
    · have d4 := d3 z
      simp [b3, exSs, exS, evE, evEs, evO, evAnd, evOr, evT, evTA, evTO, evIfs, evIt, evTg, evTgs, evStr, ↓bind_t, ↓toO_t, ↓then_t, ↓forD_t, ↓whlD_t, ↓compD_t, bindT_ok, bindT_ex, toOT_ok, toOT_ex, thenT_nxt, thenT_ret, thenT_ex, thenT_brk, thenT_cnt, R.calm, opt_some, opt_none, binD_ii, binD_oo, binD_oi, binD_io, negD, tstD, cmpV, blD, biV, attrD, callD, bindD, methF, ownM, intB_add, intB_sub, intB_mul, intB_fdiv, intB_mod, dun, rdun, dNeg, dEq, dBool, startD, idxD, slcD, Mir.atI, Mir.ixN, items, biD, truD, isD, kdD, isK, cmpD, cmpInt, eqD, flat2, setI, setAt, putA, parD, List.lookup_cons, List.lookup_nil, strD, mlstD, appD, fits, sz, walkD, walkL, out_ret, out_ret0, out_nxt0, guardO_pos, mStr, mStartswith, mEndswith, mRfind, mIsascii, mIsdigit, p1, s_minus, s_0, starts2, S_len, f1, f2, as, di, d4, n1, S_inj]
end K02

set_option Elab.async false
set_option linter.all false
set_option maxRecDepth 1000000
set_option maxHeartbeats 4000000
set_option exponentiation.threshold 2000
namespace K02
open PySem Mir
theorem ends (l : List Nat) (x c : Nat) : Txt.endswith (S (l ++ [x])) (S [c]) = decide (x = c) := by
  have := StrLaws.subAt_one (S (l ++ [x])) c l.length
  unfold Txt.endswith
  have e : (S (l ++ [x])).cps.toList = l ++ [x] := by simp [S]
  rw [e] at this
  have e2 : (S (l ++ [x])).length - (S [c]).length = l.length := by rw [S_len, S_len]; simp
  rw [e2]
  have e3 : (l ++ [x])[l.length]? = some x := by simp
  rw [e3] at this
  by_cases h : x = c
  · subst h
    obtain ⟨a, b⟩ := this.mpr rfl
    simp only [decide_true]
    exact Bool.and_eq_true_iff.mpr ⟨decide_eq_true (by rw [S_len, S_len]; simp), b⟩
  · rw [decide_eq_false h]
    cases q : (decide (0 + (S [c]).length ≤ (S (l ++ [x])).length) && Builtin.Str.subAt (S (l ++ [x])) (S [c]) l.length) with
    | false => rfl
    | true =>
      obtain ⟨a, b⟩ := Bool.and_eq_true_iff.mp q
      exact absurd (Option.some.inj (this.mp ⟨by rw [S_len]; show _ + 1 ≤ _; simp, b⟩)) h
theorem dg_no (a : Int) (c : Nat) (hc : c < 48) (k : Nat) : (dg a)[k]? ≠ some c := fun h => by
  have := dg_all a c (List.mem_of_getElem? h)
  omega
theorem la_last (a : Int) : ∃ u x, la a = u ++ [x] ∧ 48 ≤ x ∧ x ≤ 57 := by
  have h : dg a = (dg a).dropLast ++ [(dg a).getLast (dg_pos a)] := (List.dropLast_concat_getLast _).symm
  have m := dg_all a _ (List.getLast_mem (dg_pos a))
  unfold la
  split
  · exact ⟨45 :: (dg a).dropLast, _, by rw [List.cons_append, ← h], m⟩
  · exact ⟨_, _, h, m⟩
/-- where the sign stands -/
theorem cut_at (a b : Int) : max (Txt.rfind (S (la a ++ sgc b :: dg b)) (S [43])) (Txt.rfind (S (la a ++ sgc b :: dg b)) (S [45])) = ((la a).length : Int) := by
  have at1 : (la a ++ sgc b :: dg b)[(la a).length]? = some (sgc b) := by simp
  have beh : ∀ c, c < 48 → ∀ k, (la a).length < k → (la a ++ sgc b :: dg b)[k]? ≠ some c := fun c hc k hk => by
    rw [List.getElem?_append_right (by omega)]
    obtain ⟨j, rfl⟩ : ∃ j, k = (la a).length + 1 + j := ⟨k - (la a).length - 1, by omega⟩
    rw [show (la a).length + 1 + j - (la a).length = j + 1 by omega, List.getElem?_cons_succ]
    exact dg_no b c hc j
  have le : ∀ c, Txt.rfind (S (la a ++ sgc b :: dg b)) (S [c]) = -1 ∨ ∃ i : Nat, Txt.rfind (S (la a ++ sgc b :: dg b)) (S [c]) = i ∧ (la a ++ sgc b :: dg b)[i]? = some c := fun c => by
    have e : (S (la a ++ sgc b :: dg b)).cps.toList = la a ++ sgc b :: dg b := by simp [S]
    unfold Txt.rfind
    rcases StrLaws.last_spec (S (la a ++ sgc b :: dg b)) (S [c]) with ⟨q1, q⟩ | ⟨j, q1, q2, q3⟩
    · rw [q1]; exact .inl rfl
    · rw [q1]
      refine .inr ⟨j, rfl, ?_⟩
      have := (StrLaws.subAt_one (S (la a ++ sgc b :: dg b)) c j).mp q2
      rwa [e] at this
  have up : ∀ c, c < 48 → Txt.rfind (S (la a ++ sgc b :: dg b)) (S [c]) ≤ (la a).length := fun c hc => by
    rcases le c with h | ⟨i, h, hi⟩
    · rw [h]; omega
    · rw [h]
      by_cases q : (la a).length < i
      · exact absurd hi (beh c hc i q)
      · omega
  have eq : Txt.rfind (S (la a ++ sgc b :: dg b)) (S [sgc b]) = ((la a).length : Nat) := rf _ _ _ at1 (beh _ (by unfold sgc; split <;> omega))
  unfold sgc at eq
  have u1 := up 43 (by decide)
  have u2 := up 45 (by decide)
  by_cases p : b > 0
  · rw [if_pos p] at eq
    have e2 : sgc b = 43 := by unfold sgc; rw [if_pos p]
    rw [e2] at u1 u2 ⊢
    omega
  · rw [if_neg p] at eq
    have e2 : sgc b = 45 := by unfold sgc; rw [if_neg p]
    rw [e2] at u1 u2 ⊢
    omega
theorem biMax (i j : Int) : (if j > i then j else i) = max i j := by
  rw [Int.max_def]
  split <;> split <;> omega
theorem readI {a : Int} (h : In24 a) : ((guardO ((S (la a)).length ≤ 640) ()).bind fun _ => (intText? (S (la a))).map D.int) = some (.int a) := by
  have := la_len h
  rw [guardO_pos (by rw [S_len]; omega), read_la h.1 h.2]
  rfl
theorem dg_la (b : Int) : dg b = la (if b < 0 then -b else b) := (la_abs b).symm
theorem parts (k : Nat) {a b : Int} (st : Sto) (ha : In24 a) (hb : In24 b) : run P.T (k + 2) 7 [.str (S (spl a b))] st = .ok (.tup [.int a, .int b]) st := by
  have l1 := la_len ha
  have l2 := dg_len hb.1 hb.2
  rw [run_succ _ _ _ _ _ fn_7 rfl]
  by_cases z : b = 0
  · subst z
    obtain ⟨u, x, e, x1, x2⟩ := la_last a
    have en : Txt.endswith (S (la a)) (S [103]) = false := by
      rw [e, ends]
      exact decide_eq_false (by omega)
    have rd := readI ha
    have sp : spl a 0 = la a := by unfold spl; rw [if_pos rfl]
    simp [b7, exSs, exS, evE, evEs, evO, evAnd, evOr, evT, evTA, evTO, evIfs, evIt, evTg, evTgs, evStr, ↓bind_t, ↓toO_t, ↓then_t, ↓forD_t, ↓whlD_t, ↓compD_t, bindT_ok, bindT_ex, toOT_ok, toOT_ex, thenT_nxt, thenT_ret, thenT_ex, thenT_brk, thenT_cnt, R.calm, opt_some, opt_none, binD_ii, binD_oo, binD_oi, binD_io, negD, tstD, cmpV, blD, biV, attrD, callD, bindD, methF, ownM, intB_add, intB_sub, intB_mul, intB_fdiv, intB_mod, dun, rdun, dNeg, dEq, dBool, startD, idxD, slcD, Mir.atI, Mir.ixN, items, biD, truD, isD, kdD, isK, cmpD, cmpInt, eqD, flat2, setI, setAt, putA, parD, List.lookup_cons, List.lookup_nil, strD, mlstD, appD, fits, sz, walkD, walkL, out_ret, out_ret0, out_nxt0, guardO_pos, mStr, mStartswith, mEndswith, mRfind, mIsascii, mIsdigit, sp, s_g, en, shp_3_0, whole_text k st ha, rd, sz]
  · have sp : spl a b = la a ++ sgc b :: (dg b ++ [103]) := by unfold spl; rw [if_neg z]
    have en : Txt.endswith (S (la a ++ sgc b :: (dg b ++ [103]))) (S [103]) = true := by
      have := ends (la a ++ sgc b :: dg b) 103 103
      simpa using this
    have hc : cut (la a ++ sgc b :: (dg b ++ [103])) none (some (-1)) = la a ++ sgc b :: dg b := by
      have := cut_last (la a ++ sgc b :: dg b) 103
      simpa using this
    have mx := cut_at a b
    rw [← biMax] at mx
    have h1 := cut_to (la a) (sgc b :: dg b) ((la a).length) rfl
    have h2 := cut_from (la a) (dg b) (sgc b) ((la a).length + 1) rfl
    have rd := readI ha
    have rd2 := readI (in_abs hb)
    rw [la_abs] at rd2
    have wt := whole_text k st (in_abs hb)
    rw [la_abs] at wt
    have n0 : ¬ ((la a).length : Int) < 0 := by omega
    have n48 : ¬ dg b = [48] := fun h => by
      obtain ⟨d, l, e, d1, d2, d3⟩ := dg_shape b
      rw [e] at h
      cases h
      exact d3 z rfl
    have g1 : (la a).length + ((dg b).length + 1 + 1) ≤ 16777216 := by omega
    have g2 : (la a).length + ((dg b).length + 1) ≤ 16777216 := by omega
    have n1 : ((la a).length : Int) < (la a).length + ((dg b).length + 1) := by omega
    have gx : ∀ c, (la a ++ c :: dg b)[(la a).length]? = some c := fun c => by simp
    have Sl : ∀ l, (S l).cps.toList = l := fun l => by simp [S]
    have Sz : ∀ l, (S l).cps.size = l.length := fun l => by simp [S]
    have Sg : ∀ (l : List Nat) (j : Nat), (S l).cps[j]? = l[j]? := fun l j => by simp [S]
    have Sc : ∀ c, ({ cps := #[c] } : Str) = S [c] := fun c => rfl
    have Sm : ∀ l : List Nat, ({ cps := l.toArray } : Str) = S l := fun l => rfl
    by_cases p : 0 < b
    · have sc : sgc b = 43 := by unfold sgc; rw [if_pos p]
      have ab : ¬ b < 0 := by omega
      simp only [sc] at sp en hc mx h1 h2
      simp only [gt_iff_lt] at mx
      simp only [S_len] at rd
      simp only [ab, if_false, S_len] at rd2
      simp [b7, exSs, exS, evE, evEs, evO, evAnd, evOr, evT, evTA, evTO, evIfs, evIt, evTg, evTgs, evStr, ↓bind_t, ↓toO_t, ↓then_t, ↓forD_t, ↓whlD_t, ↓compD_t, bindT_ok, bindT_ex, toOT_ok, toOT_ex, thenT_nxt, thenT_ret, thenT_ex, thenT_brk, thenT_cnt, R.calm, opt_some, opt_none, binD_ii, binD_oo, binD_oi, binD_io, negD, tstD, cmpV, blD, biV, attrD, callD, bindD, methF, ownM, intB_add, intB_sub, intB_mul, intB_fdiv, intB_mod, dun, rdun, dNeg, dEq, dBool, startD, idxD, slcD, Mir.atI, Mir.ixN, items, biD, truD, isD, kdD, isK, cmpD, cmpInt, eqD, flat2, setI, setAt, putA, parD, List.lookup_cons, List.lookup_nil, strD, mlstD, appD, fits, sz, walkD, walkL, out_ret, out_ret0, out_nxt0, guardO_pos, mStr, mStartswith, mEndswith, mRfind, mIsascii, mIsdigit, sp, s_g, s_plus, s_minus, s_0, en, shp_3_0, whole_text k st ha, wt, rd, rd2, Sl, Sz, Sg, Sm, Sc, S_len, hc, mx, h1, h2, n0, n1, gx, n48, g1, g2, S_inj, sz]
    · have sc : sgc b = 45 := by unfold sgc; rw [if_neg p]
      have ab : b < 0 := by omega
      simp only [sc] at sp en hc mx h1 h2
      simp only [gt_iff_lt] at mx
      simp only [S_len] at rd
      simp only [ab, if_true, S_len] at rd2
      simp [b7, exSs, exS, evE, evEs, evO, evAnd, evOr, evT, evTA, evTO, evIfs, evIt, evTg, evTgs, evStr, ↓bind_t, ↓toO_t, ↓then_t, ↓forD_t, ↓whlD_t, ↓compD_t, bindT_ok, bindT_ex, toOT_ok, toOT_ex, thenT_nxt, thenT_ret, thenT_ex, thenT_brk, thenT_cnt, R.calm, opt_some, opt_none, binD_ii, binD_oo, binD_oi, binD_io, negD, tstD, cmpV, blD, biV, attrD, callD, bindD, methF, ownM, intB_add, intB_sub, intB_mul, intB_fdiv, intB_mod, dun, rdun, dNeg, dEq, dBool, startD, idxD, slcD, Mir.atI, Mir.ixN, items, biD, truD, isD, kdD, isK, cmpD, cmpInt, eqD, flat2, setI, setAt, putA, parD, List.lookup_cons, List.lookup_nil, strD, mlstD, appD, fits, sz, walkD, walkL, out_ret, out_ret0, out_nxt0, guardO_pos, mStr, mStartswith, mEndswith, mRfind, mIsascii, mIsdigit, sp, s_g, s_plus, s_minus, s_0, en, shp_3_0, whole_text k st ha, wt, rd, rd2, Sl, Sz, Sg, Sm, Sc, S_len, hc, mx, h1, h2, n0, n1, gx, n48, g1, g2, S_inj, sz]
end K02

set_option Elab.async false
set_option linter.all false
set_option maxRecDepth 1000000
set_option maxHeartbeats 4000000
set_option exponentiation.threshold 2000
namespace K02
open PySem Mir
theorem readS (k : Nat) {a b : Int} (st : Sto) (ha : In24 a) (hb : In24 b) : run P.T (k + 3) 13 [.str (S (spl a b))] st = .ok (gO a b) st := by
  rw [run_succ _ _ _ _ _ fn_13 rfl]
  simp [b13, exSs, exS, evE, evEs, evO, evAnd, evOr, evT, evTA, evTO, evIfs, evIt, evTg, evTgs, evStr, ↓bind_t, ↓toO_t, ↓then_t, ↓forD_t, ↓whlD_t, ↓compD_t, bindT_ok, bindT_ex, toOT_ok, toOT_ex, thenT_nxt, thenT_ret, thenT_ex, thenT_brk, thenT_cnt, R.calm, opt_some, opt_none, binD_ii, binD_oo, binD_oi, binD_io, negD, tstD, cmpV, blD, biV, attrD, callD, bindD, methF, ownM, intB_add, intB_sub, intB_mul, intB_fdiv, intB_mod, dun, rdun, dNeg, dEq, dBool, startD, idxD, slcD, Mir.atI, Mir.ixN, items, biD, truD, isD, kdD, isK, cmpD, cmpInt, eqD, flat2, setI, setAt, putA, parD, List.lookup_cons, List.lookup_nil, strD, mlstD, appD, fits, sz, walkD, walkL, out_ret, out_ret0, out_nxt0, guardO_pos, shp_7_0, parts k st ha hb, mk2]
def In25 (a : Int) : Prop := -(10 ^ 25) < a ∧ a < 10 ^ 25
theorem In24.i25 {a : Int} (h : In24 a) : In25 a := by unfold In24 at h; unfold In25; omega
theorem m25 {a b : Int} (ha : In25 a) (hb : In25 b) : mulOk a b = true := by
  unfold In25 at *
  exact mulOk_of (big1000 (by omega) (by omega)) (big1000 (by omega) (by omega))
def sgG (a b : Int) : Int := if 0 ≤ a ∧ 0 ≤ b then (if 0 < a + b then 1 else 0) else if a ≤ 0 ∧ b ≤ 0 then -1 else if (b * b < a * a + a * b ↔ 0 < a) then 1 else -1
theorem lsign (k : Nat) {a b : Int} (st : Sto) (ha : In25 a) (hb : In25 b) : run P.T (k + 1) 36 [.tup [.int a, .int b]] st = .ok (.int (sgG a b)) st := by
  have m1 := m25 ha ha
  have m2 := m25 ha hb
  have m3 := m25 hb hb
  rw [run_succ _ _ _ _ _ fn_36 rfl]
  by_cases c1 : 0 ≤ a ∧ 0 ≤ b
  · by_cases c2 : 0 < a + b
    · simp [b36, exSs, exS, evE, evEs, evO, evAnd, evOr, evT, evTA, evTO, evIfs, evIt, evTg, evTgs, evStr, ↓bind_t, ↓toO_t, ↓then_t, ↓forD_t, ↓whlD_t, ↓compD_t, bindT_ok, bindT_ex, toOT_ok, toOT_ex, thenT_nxt, thenT_ret, thenT_ex, thenT_brk, thenT_cnt, R.calm, opt_some, opt_none, binD_ii, binD_oo, binD_oi, binD_io, negD, tstD, cmpV, blD, biV, attrD, callD, bindD, methF, ownM, intB_add, intB_sub, intB_mul, intB_fdiv, intB_mod, dun, rdun, dNeg, dEq, dBool, startD, idxD, slcD, Mir.atI, Mir.ixN, items, biD, truD, isD, kdD, isK, cmpD, cmpInt, eqD, flat2, setI, setAt, putA, parD, List.lookup_cons, List.lookup_nil, strD, mlstD, appD, fits, sz, walkD, walkL, out_ret, out_ret0, out_nxt0, guardO_pos, c1.1, c1.2, c2, sgG]
    · simp [b36, exSs, exS, evE, evEs, evO, evAnd, evOr, evT, evTA, evTO, evIfs, evIt, evTg, evTgs, evStr, ↓bind_t, ↓toO_t, ↓then_t, ↓forD_t, ↓whlD_t, ↓compD_t, bindT_ok, bindT_ex, toOT_ok, toOT_ex, thenT_nxt, thenT_ret, thenT_ex, thenT_brk, thenT_cnt, R.calm, opt_some, opt_none, binD_ii, binD_oo, binD_oi, binD_io, negD, tstD, cmpV, blD, biV, attrD, callD, bindD, methF, ownM, intB_add, intB_sub, intB_mul, intB_fdiv, intB_mod, dun, rdun, dNeg, dEq, dBool, startD, idxD, slcD, Mir.atI, Mir.ixN, items, biD, truD, isD, kdD, isK, cmpD, cmpInt, eqD, flat2, setI, setAt, putA, parD, List.lookup_cons, List.lookup_nil, strD, mlstD, appD, fits, sz, walkD, walkL, out_ret, out_ret0, out_nxt0, guardO_pos, c1.1, c1.2, c2, sgG]
  · by_cases c3 : a ≤ 0 ∧ b ≤ 0
    · have e : (decide (0 ≤ a) = true ∧ decide (0 ≤ b) = true) = False := by simpa using c1
      by_cases c4 : 0 ≤ a
      · have c5 : ¬ 0 ≤ b := fun h => c1 ⟨c4, h⟩
        simp [b36, exSs, exS, evE, evEs, evO, evAnd, evOr, evT, evTA, evTO, evIfs, evIt, evTg, evTgs, evStr, ↓bind_t, ↓toO_t, ↓then_t, ↓forD_t, ↓whlD_t, ↓compD_t, bindT_ok, bindT_ex, toOT_ok, toOT_ex, thenT_nxt, thenT_ret, thenT_ex, thenT_brk, thenT_cnt, R.calm, opt_some, opt_none, binD_ii, binD_oo, binD_oi, binD_io, negD, tstD, cmpV, blD, biV, attrD, callD, bindD, methF, ownM, intB_add, intB_sub, intB_mul, intB_fdiv, intB_mod, dun, rdun, dNeg, dEq, dBool, startD, idxD, slcD, Mir.atI, Mir.ixN, items, biD, truD, isD, kdD, isK, cmpD, cmpInt, eqD, flat2, setI, setAt, putA, parD, List.lookup_cons, List.lookup_nil, strD, mlstD, appD, fits, sz, walkD, walkL, out_ret, out_ret0, out_nxt0, guardO_pos, c4, c5, c3.1, c3.2, sgG]
      · simp [b36, exSs, exS, evE, evEs, evO, evAnd, evOr, evT, evTA, evTO, evIfs, evIt, evTg, evTgs, evStr, ↓bind_t, ↓toO_t, ↓then_t, ↓forD_t, ↓whlD_t, ↓compD_t, bindT_ok, bindT_ex, toOT_ok, toOT_ex, thenT_nxt, thenT_ret, thenT_ex, thenT_brk, thenT_cnt, R.calm, opt_some, opt_none, binD_ii, binD_oo, binD_oi, binD_io, negD, tstD, cmpV, blD, biV, attrD, callD, bindD, methF, ownM, intB_add, intB_sub, intB_mul, intB_fdiv, intB_mod, dun, rdun, dNeg, dEq, dBool, startD, idxD, slcD, Mir.atI, Mir.ixN, items, biD, truD, isD, kdD, isK, cmpD, cmpInt, eqD, flat2, setI, setAt, putA, parD, List.lookup_cons, List.lookup_nil, strD, mlstD, appD, fits, sz, walkD, walkL, out_ret, out_ret0, out_nxt0, guardO_pos, c4, c3.1, c3.2, sgG]
    · by_cases c4 : 0 ≤ a
      · have c5 : ¬ 0 ≤ b := fun h => c1 ⟨c4, h⟩
        have c6 : ¬ a ≤ 0 := fun h => c3 ⟨h, by omega⟩
        by_cases c7 : (b * b < a * a + a * b ↔ 0 < a)
        · simp [b36, exSs, exS, evE, evEs, evO, evAnd, evOr, evT, evTA, evTO, evIfs, evIt, evTg, evTgs, evStr, ↓bind_t, ↓toO_t, ↓then_t, ↓forD_t, ↓whlD_t, ↓compD_t, bindT_ok, bindT_ex, toOT_ok, toOT_ex, thenT_nxt, thenT_ret, thenT_ex, thenT_brk, thenT_cnt, R.calm, opt_some, opt_none, binD_ii, binD_oo, binD_oi, binD_io, negD, tstD, cmpV, blD, biV, attrD, callD, bindD, methF, ownM, intB_add, intB_sub, intB_mul, intB_fdiv, intB_mod, dun, rdun, dNeg, dEq, dBool, startD, idxD, slcD, Mir.atI, Mir.ixN, items, biD, truD, isD, kdD, isK, cmpD, cmpInt, eqD, flat2, setI, setAt, putA, parD, List.lookup_cons, List.lookup_nil, strD, mlstD, appD, fits, sz, walkD, walkL, out_ret, out_ret0, out_nxt0, guardO_pos, c4, c5, c6, sgG, m1, m2, m3, c7]
        · simp [b36, exSs, exS, evE, evEs, evO, evAnd, evOr, evT, evTA, evTO, evIfs, evIt, evTg, evTgs, evStr, ↓bind_t, ↓toO_t, ↓then_t, ↓forD_t, ↓whlD_t, ↓compD_t, bindT_ok, bindT_ex, toOT_ok, toOT_ex, thenT_nxt, thenT_ret, thenT_ex, thenT_brk, thenT_cnt, R.calm, opt_some, opt_none, binD_ii, binD_oo, binD_oi, binD_io, negD, tstD, cmpV, blD, biV, attrD, callD, bindD, methF, ownM, intB_add, intB_sub, intB_mul, intB_fdiv, intB_mod, dun, rdun, dNeg, dEq, dBool, startD, idxD, slcD, Mir.atI, Mir.ixN, items, biD, truD, isD, kdD, isK, cmpD, cmpInt, eqD, flat2, setI, setAt, putA, parD, List.lookup_cons, List.lookup_nil, strD, mlstD, appD, fits, sz, walkD, walkL, out_ret, out_ret0, out_nxt0, guardO_pos, c4, c5, c6, sgG, m1, m2, m3, c7]
      · have c5 : ¬ b ≤ 0 := fun h => c3 ⟨by omega, h⟩
        have c6 : a ≤ 0 := by omega
        by_cases c7 : (b * b < a * a + a * b ↔ 0 < a)
        · simp [b36, exSs, exS, evE, evEs, evO, evAnd, evOr, evT, evTA, evTO, evIfs, evIt, evTg, evTgs, evStr, ↓bind_t, ↓toO_t, ↓then_t, ↓forD_t, ↓whlD_t, ↓compD_t, bindT_ok, bindT_ex, toOT_ok, toOT_ex, thenT_nxt, thenT_ret, thenT_ex, thenT_brk, thenT_cnt, R.calm, opt_some, opt_none, binD_ii, binD_oo, binD_oi, binD_io, negD, tstD, cmpV, blD, biV, attrD, callD, bindD, methF, ownM, intB_add, intB_sub, intB_mul, intB_fdiv, intB_mod, dun, rdun, dNeg, dEq, dBool, startD, idxD, slcD, Mir.atI, Mir.ixN, items, biD, truD, isD, kdD, isK, cmpD, cmpInt, eqD, flat2, setI, setAt, putA, parD, List.lookup_cons, List.lookup_nil, strD, mlstD, appD, fits, sz, walkD, walkL, out_ret, out_ret0, out_nxt0, guardO_pos, c4, c5, c6, sgG, m1, m2, m3, c7]
        · simp [b36, exSs, exS, evE, evEs, evO, evAnd, evOr, evT, evTA, evTO, evIfs, evIt, evTg, evTgs, evStr, ↓bind_t, ↓toO_t, ↓then_t, ↓forD_t, ↓whlD_t, ↓compD_t, bindT_ok, bindT_ex, toOT_ok, toOT_ex, thenT_nxt, thenT_ret, thenT_ex, thenT_brk, thenT_cnt, R.calm, opt_some, opt_none, binD_ii, binD_oo, binD_oi, binD_io, negD, tstD, cmpV, blD, biV, attrD, callD, bindD, methF, ownM, intB_add, intB_sub, intB_mul, intB_fdiv, intB_mod, dun, rdun, dNeg, dEq, dBool, startD, idxD, slcD, Mir.atI, Mir.ixN, items, biD, truD, isD, kdD, isK, cmpD, cmpInt, eqD, flat2, setI, setAt, putA, parD, List.lookup_cons, List.lookup_nil, strD, mlstD, appD, fits, sz, walkD, walkL, out_ret, out_ret0, out_nxt0, guardO_pos, c4, c5, c6, sgG, m1, m2, m3, c7]
/-! the two signs -/
theorem no_root (n : Nat) : ∀ a b : Int, b.natAbs ≤ n → a * a + a * b = b * b → b = 0 := by
  induction n using Nat.strongRecOn with
  | _ n ih =>
    intro a b hn h
    by_cases hb : b = 0
    · exact hb
    · have ha2 : a % 2 = 0 ∨ a % 2 = 1 := by omega
      have hb2 : b % 2 = 0 ∨ b % 2 = 1 := by omega
      have k : ∀ x y : Int, ∃ p q r s : Int, x = 2 * p + q ∧ y = 2 * r + s ∧ (q = x % 2) ∧ (s = y % 2) := fun x y => ⟨x / 2, x % 2, y / 2, y % 2, by omega, by omega, rfl, rfl⟩
      obtain ⟨p, q, r, s, ea, eb, eq, es⟩ := k a b
      have hh : (2 * p + q) * (2 * p + q) + (2 * p + q) * (2 * r + s) = (2 * r + s) * (2 * r + s) := by rw [← ea, ← eb]; exact h
      rcases ha2 with q0 | q1
      · rcases hb2 with s0 | s1
        · rw [q0] at eq
          rw [s0] at es
          subst eq es
          have e2 : p * p + p * r = r * r := by
            have e3 : 4 * (p * p) + 4 * (p * r) = 4 * (r * r) := by
              have := hh
              simp only [Int.add_zero] at this
              have t1 : 2 * p * (2 * p) = 4 * (p * p) := by grind
              have t2 : 2 * p * (2 * r) = 4 * (p * r) := by grind
              have t3 : 2 * r * (2 * r) = 4 * (r * r) := by grind
              rw [t1, t2, t3] at this
              exact this
            omega
          have := ih (r.natAbs) (by omega) p r (Nat.le_refl _) e2
          omega
        · exfalso
          rw [q0] at eq
          rw [s1] at es
          subst eq es
          have : 2 * (2 * p * p + 2 * p * r + p - 2 * r * r - 2 * r) = 1 := by grind
          omega
      · exfalso
        rcases hb2 with s0 | s1
        · rw [q1] at eq
          rw [s0] at es
          subst eq es
          have : 2 * (2 * p * p + 2 * p + 2 * p * r + r - 2 * r * r) = -1 := by grind
          omega
        · rw [q1] at eq
          rw [s1] at es
          subst eq es
          have : 2 * (2 * p * p + 2 * p + 2 * p * r + p + r + 1 - 2 * r * r - 2 * r) = 1 := by grind
          omega
def sgP (a b : Int) : Int := if b = 0 ∨ 5 * b * b ≤ (2 * a + b) * (2 * a + b) then (if 2 * a + b = 0 then 0 else if 0 < 2 * a + b then 1 else -1) else (if b = 0 then 0 else if 0 < b then 1 else -1)
theorem sg_eq (a b : Int) : sgP a b = sgG a b := by
  have key : 5 * b * b ≤ (2 * a + b) * (2 * a + b) ↔ b * b ≤ a * a + a * b := by
    have : (2 * a + b) * (2 * a + b) - 5 * b * b = 4 * (a * a + a * b - b * b) := by grind
    omega
  have nz : b ≠ 0 → a * a + a * b ≠ b * b := fun hb h => hb (no_root _ a b (Nat.le_refl _) h)
  unfold sgP sgG
  simp only [key]
  by_cases b0 : b = 0
  · subst b0
    have : (0 : Int) * 0 = 0 := rfl
    simp only [true_or, if_true]
    by_cases a0 : a = 0
    · subst a0; decide
    · by_cases a1 : 0 < a
      · rw [if_neg (by omega), if_pos (by omega), if_pos (by omega), if_pos (by omega)]
      · rw [if_neg (by omega), if_neg (by omega), if_neg (by omega), if_pos (by omega)]
  · have nz := nz b0
    have hs : a * (a + b) = a * a + a * b := by grind
    have bb : 0 < b * b := by
      rcases Int.lt_or_gt_of_ne b0 with h | h
      · exact Int.mul_pos_of_neg_of_neg h h
      · exact Int.mul_pos h h
    -- where both signs are unlike
    have pos1 : 0 < a → b * b < a * a + a * b → 0 < a + b := fun h1 h2 => by
      rcases Int.lt_or_le 0 (a + b) with h | h
      · exact h
      · have := Int.mul_nonneg (show 0 ≤ a by omega) (show 0 ≤ -(a + b) by omega)
        rw [Int.mul_neg, hs] at this
        omega
    have neg1 : a < 0 → b * b < a * a + a * b → a + b < 0 := fun h1 h2 => by
      rcases Int.lt_or_le (a + b) 0 with h | h
      · exact h
      · have := Int.mul_nonneg (show 0 ≤ -a by omega) (show 0 ≤ a + b by omega)
        rw [Int.neg_mul, hs] at this
        omega
    by_cases c1 : 0 ≤ a ∧ 0 ≤ b
    · have r : (if 0 < a + b then (1 : Int) else 0) = 1 := if_pos (by omega)
      rw [if_pos c1, r]
      have u1 : (if 2 * a + b = 0 then (0 : Int) else if 0 < 2 * a + b then 1 else -1) = 1 := by rw [if_neg (by omega), if_pos (by omega)]
      have u2 : (if b = 0 then (0 : Int) else if 0 < b then 1 else -1) = 1 := by rw [if_neg (by omega), if_pos (by omega)]
      rw [u1, u2]
      split <;> rfl
    · rw [if_neg c1]
      by_cases c2 : a ≤ 0 ∧ b ≤ 0
      · rw [if_pos c2]
        have u1 : (if 2 * a + b = 0 then (0 : Int) else if 0 < 2 * a + b then 1 else -1) = -1 := by rw [if_neg (by omega), if_neg (by omega)]
        have u2 : (if b = 0 then (0 : Int) else if 0 < b then 1 else -1) = -1 := by rw [if_neg (by omega), if_neg (by omega)]
        rw [u1, u2]
        split <;> rfl
      · rw [if_neg c2]
        by_cases a1 : 0 < a
        · by_cases f : b * b < a * a + a * b
          · have := pos1 a1 f
            rw [if_pos (.inr (by omega)), if_neg (by omega), if_pos (by omega), if_pos ⟨fun _ => a1, fun _ => f⟩]
          · rw [if_neg (by omega), if_neg b0, if_neg (by omega), if_neg (fun h => f (h.mpr a1))]
        · have a2 : a < 0 := by
            rcases Int.lt_trichotomy a 0 with h | h | h
            · exact h
            · omega
            · omega
          by_cases f : b * b < a * a + a * b
          · have := neg1 a2 f
            rw [if_pos (.inr (by omega)), if_neg (by omega), if_neg (by omega), if_neg (fun h => a1 (h.mp f))]
          · rw [if_neg (by omega), if_neg b0, if_pos (by omega), if_pos ⟨fun h => absurd h f, fun h => absurd h a1⟩]
theorem psign (k : Nat) {a b : Int} (st : Sto) (ha : In25 a) (hb : In25 b) : run P.T (k + 1) 5 [.int a, .int b] st = .ok (.int (sgG a b)) st := by
  have t25 : (2 * a + b).natAbs < 2 ^ 1000 := by unfold In25 at ha hb; exact big1000 (by omega) (by omega)
  have m1 : mulOk 2 a = true := mulOk_of (by decide) (by unfold In25 at ha; exact big1000 (by omega) (by omega))
  have m2 : mulOk (2 * a + b) (2 * a + b) = true := mulOk_of t25 t25
  have m3 : mulOk 5 b = true := mulOk_of (by decide) (by unfold In25 at hb; exact big1000 (by omega) (by omega))
  have m4 : mulOk (5 * b) b = true := mulOk_of (by unfold In25 at hb; exact big1000 (by omega) (by omega)) (by unfold In25 at hb; exact big1000 (by omega) (by omega))
  rw [← sg_eq]
  rw [run_succ _ _ _ _ _ fn_5 rfl]
  unfold sgP
  by_cases c1 : b = 0
  · subst c1
    simp only [Int.add_zero] at m2
    by_cases c2 : a = 0
    · subst c2
      simp [b5, exSs, exS, evE, evEs, evO, evAnd, evOr, evT, evTA, evTO, evIfs, evIt, evTg, evTgs, evStr, ↓bind_t, ↓toO_t, ↓then_t, ↓forD_t, ↓whlD_t, ↓compD_t, bindT_ok, bindT_ex, toOT_ok, toOT_ex, thenT_nxt, thenT_ret, thenT_ex, thenT_brk, thenT_cnt, R.calm, opt_some, opt_none, binD_ii, binD_oo, binD_oi, binD_io, negD, tstD, cmpV, blD, biV, attrD, callD, bindD, methF, ownM, intB_add, intB_sub, intB_mul, intB_fdiv, intB_mod, dun, rdun, dNeg, dEq, dBool, startD, idxD, slcD, Mir.atI, Mir.ixN, items, biD, truD, isD, kdD, isK, cmpD, cmpInt, eqD, flat2, setI, setAt, putA, parD, List.lookup_cons, List.lookup_nil, strD, mlstD, appD, fits, sz, walkD, walkL, out_ret, out_ret0, out_nxt0, guardO_pos, m1, m2, m3, m4]
    · by_cases c3 : 0 < a
      · have c4 : 0 < 2 * a := by omega
        have c5 : ¬ 2 * a = 0 := by omega
        simp [b5, exSs, exS, evE, evEs, evO, evAnd, evOr, evT, evTA, evTO, evIfs, evIt, evTg, evTgs, evStr, ↓bind_t, ↓toO_t, ↓then_t, ↓forD_t, ↓whlD_t, ↓compD_t, bindT_ok, bindT_ex, toOT_ok, toOT_ex, thenT_nxt, thenT_ret, thenT_ex, thenT_brk, thenT_cnt, R.calm, opt_some, opt_none, binD_ii, binD_oo, binD_oi, binD_io, negD, tstD, cmpV, blD, biV, attrD, callD, bindD, methF, ownM, intB_add, intB_sub, intB_mul, intB_fdiv, intB_mod, dun, rdun, dNeg, dEq, dBool, startD, idxD, slcD, Mir.atI, Mir.ixN, items, biD, truD, isD, kdD, isK, cmpD, cmpInt, eqD, flat2, setI, setAt, putA, parD, List.lookup_cons, List.lookup_nil, strD, mlstD, appD, fits, sz, walkD, walkL, out_ret, out_ret0, out_nxt0, guardO_pos, m1, m2, m3, m4, c2, c3, c4, c5]
      · have c4 : ¬ 0 < 2 * a := by omega
        have c5 : ¬ 2 * a = 0 := by omega
        simp [b5, exSs, exS, evE, evEs, evO, evAnd, evOr, evT, evTA, evTO, evIfs, evIt, evTg, evTgs, evStr, ↓bind_t, ↓toO_t, ↓then_t, ↓forD_t, ↓whlD_t, ↓compD_t, bindT_ok, bindT_ex, toOT_ok, toOT_ex, thenT_nxt, thenT_ret, thenT_ex, thenT_brk, thenT_cnt, R.calm, opt_some, opt_none, binD_ii, binD_oo, binD_oi, binD_io, negD, tstD, cmpV, blD, biV, attrD, callD, bindD, methF, ownM, intB_add, intB_sub, intB_mul, intB_fdiv, intB_mod, dun, rdun, dNeg, dEq, dBool, startD, idxD, slcD, Mir.atI, Mir.ixN, items, biD, truD, isD, kdD, isK, cmpD, cmpInt, eqD, flat2, setI, setAt, putA, parD, List.lookup_cons, List.lookup_nil, strD, mlstD, appD, fits, sz, walkD, walkL, out_ret, out_ret0, out_nxt0, guardO_pos, m1, m2, m3, m4, c2, c3, c4, c5]
  · by_cases c4 : 5 * b * b ≤ (2 * a + b) * (2 * a + b)
    · by_cases c2 : 2 * a + b = 0
      · rw [c2] at c4 m2
        have c6 : 5 * b * b ≤ 0 := c4
        simp [b5, exSs, exS, evE, evEs, evO, evAnd, evOr, evT, evTA, evTO, evIfs, evIt, evTg, evTgs, evStr, ↓bind_t, ↓toO_t, ↓then_t, ↓forD_t, ↓whlD_t, ↓compD_t, bindT_ok, bindT_ex, toOT_ok, toOT_ex, thenT_nxt, thenT_ret, thenT_ex, thenT_brk, thenT_cnt, R.calm, opt_some, opt_none, binD_ii, binD_oo, binD_oi, binD_io, negD, tstD, cmpV, blD, biV, attrD, callD, bindD, methF, ownM, intB_add, intB_sub, intB_mul, intB_fdiv, intB_mod, dun, rdun, dNeg, dEq, dBool, startD, idxD, slcD, Mir.atI, Mir.ixN, items, biD, truD, isD, kdD, isK, cmpD, cmpInt, eqD, flat2, setI, setAt, putA, parD, List.lookup_cons, List.lookup_nil, strD, mlstD, appD, fits, sz, walkD, walkL, out_ret, out_ret0, out_nxt0, guardO_pos, m1, m2, m3, m4, c1, c2, c6]
      · by_cases c3 : 0 < 2 * a + b
        · simp [b5, exSs, exS, evE, evEs, evO, evAnd, evOr, evT, evTA, evTO, evIfs, evIt, evTg, evTgs, evStr, ↓bind_t, ↓toO_t, ↓then_t, ↓forD_t, ↓whlD_t, ↓compD_t, bindT_ok, bindT_ex, toOT_ok, toOT_ex, thenT_nxt, thenT_ret, thenT_ex, thenT_brk, thenT_cnt, R.calm, opt_some, opt_none, binD_ii, binD_oo, binD_oi, binD_io, negD, tstD, cmpV, blD, biV, attrD, callD, bindD, methF, ownM, intB_add, intB_sub, intB_mul, intB_fdiv, intB_mod, dun, rdun, dNeg, dEq, dBool, startD, idxD, slcD, Mir.atI, Mir.ixN, items, biD, truD, isD, kdD, isK, cmpD, cmpInt, eqD, flat2, setI, setAt, putA, parD, List.lookup_cons, List.lookup_nil, strD, mlstD, appD, fits, sz, walkD, walkL, out_ret, out_ret0, out_nxt0, guardO_pos, m1, m2, m3, m4, c1, c2, c3, c4]
        · simp [b5, exSs, exS, evE, evEs, evO, evAnd, evOr, evT, evTA, evTO, evIfs, evIt, evTg, evTgs, evStr, ↓bind_t, ↓toO_t, ↓then_t, ↓forD_t, ↓whlD_t, ↓compD_t, bindT_ok, bindT_ex, toOT_ok, toOT_ex, thenT_nxt, thenT_ret, thenT_ex, thenT_brk, thenT_cnt, R.calm, opt_some, opt_none, binD_ii, binD_oo, binD_oi, binD_io, negD, tstD, cmpV, blD, biV, attrD, callD, bindD, methF, ownM, intB_add, intB_sub, intB_mul, intB_fdiv, intB_mod, dun, rdun, dNeg, dEq, dBool, startD, idxD, slcD, Mir.atI, Mir.ixN, items, biD, truD, isD, kdD, isK, cmpD, cmpInt, eqD, flat2, setI, setAt, putA, parD, List.lookup_cons, List.lookup_nil, strD, mlstD, appD, fits, sz, walkD, walkL, out_ret, out_ret0, out_nxt0, guardO_pos, m1, m2, m3, m4, c1, c2, c3, c4]
    · by_cases c3 : 0 < b
      · simp [b5, exSs, exS, evE, evEs, evO, evAnd, evOr, evT, evTA, evTO, evIfs, evIt, evTg, evTgs, evStr, ↓bind_t, ↓toO_t, ↓then_t, ↓forD_t, ↓whlD_t, ↓compD_t, bindT_ok, bindT_ex, toOT_ok, toOT_ex, thenT_nxt, thenT_ret, thenT_ex, thenT_brk, thenT_cnt, R.calm, opt_some, opt_none, binD_ii, binD_oo, binD_oi, binD_io, negD, tstD, cmpV, blD, biV, attrD, callD, bindD, methF, ownM, intB_add, intB_sub, intB_mul, intB_fdiv, intB_mod, dun, rdun, dNeg, dEq, dBool, startD, idxD, slcD, Mir.atI, Mir.ixN, items, biD, truD, isD, kdD, isK, cmpD, cmpInt, eqD, flat2, setI, setAt, putA, parD, List.lookup_cons, List.lookup_nil, strD, mlstD, appD, fits, sz, walkD, walkL, out_ret, out_ret0, out_nxt0, guardO_pos, m1, m2, m3, m4, c1, c3, c4]
      · simp [b5, exSs, exS, evE, evEs, evO, evAnd, evOr, evT, evTA, evTO, evIfs, evIt, evTg, evTgs, evStr, ↓bind_t, ↓toO_t, ↓then_t, ↓forD_t, ↓whlD_t, ↓compD_t, bindT_ok, bindT_ex, toOT_ok, toOT_ex, thenT_nxt, thenT_ret, thenT_ex, thenT_brk, thenT_cnt, R.calm, opt_some, opt_none, binD_ii, binD_oo, binD_oi, binD_io, negD, tstD, cmpV, blD, biV, attrD, callD, bindD, methF, ownM, intB_add, intB_sub, intB_mul, intB_fdiv, intB_mod, dun, rdun, dNeg, dEq, dBool, startD, idxD, slcD, Mir.atI, Mir.ixN, items, biD, truD, isD, kdD, isK, cmpD, cmpInt, eqD, flat2, setI, setAt, putA, parD, List.lookup_cons, List.lookup_nil, strD, mlstD, appD, fits, sz, walkD, walkL, out_ret, out_ret0, out_nxt0, guardO_pos, m1, m2, m3, m4, c1, c3, c4]
theorem signO (k : Nat) {a b : Int} (st : Sto) (ha : In25 a) (hb : In25 b) : run P.T (k + 2) 11 [gO a b] st = .ok (.int (sgG a b)) st := by
  rw [run_succ _ _ _ _ _ fn_11 rfl]
  simp [b11, exSs, exS, evE, evEs, evO, evAnd, evOr, evT, evTA, evTO, evIfs, evIt, evTg, evTgs, evStr, ↓bind_t, ↓toO_t, ↓then_t, ↓forD_t, ↓whlD_t, ↓compD_t, bindT_ok, bindT_ex, toOT_ok, toOT_ex, thenT_nxt, thenT_ret, thenT_ex, thenT_brk, thenT_cnt, R.calm, opt_some, opt_none, binD_ii, binD_oo, binD_oi, binD_io, negD, tstD, cmpV, blD, biV, attrD, callD, bindD, methF, ownM, intB_add, intB_sub, intB_mul, intB_fdiv, intB_mod, dun, rdun, dNeg, dEq, dBool, startD, idxD, slcD, Mir.atI, Mir.ixN, items, biD, truD, isD, kdD, isK, cmpD, cmpInt, eqD, flat2, setI, setAt, putA, parD, List.lookup_cons, List.lookup_nil, strD, mlstD, appD, fits, sz, walkD, walkL, out_ret, out_ret0, out_nxt0, guardO_pos, shp_5_1, prop_0_23, prop_0_24, fld_0_23, fld_0_24, psign k st ha hb]
theorem belowO (k : Nat) {a b c d : Int} (st : Sto) (ha : In25 (a - c)) (hb : In25 (b - d)) : run P.T (k + 4) 25 [gO a b, gO c d] st = .ok (.bl (decide (sgG (a - c) (b - d) < 0))) st := by
  rw [run_succ _ _ _ _ _ fn_25 rfl]
  simp [b25, exSs, exS, evE, evEs, evO, evAnd, evOr, evT, evTA, evTO, evIfs, evIt, evTg, evTgs, evStr, ↓bind_t, ↓toO_t, ↓then_t, ↓forD_t, ↓whlD_t, ↓compD_t, bindT_ok, bindT_ex, toOT_ok, toOT_ex, thenT_nxt, thenT_ret, thenT_ex, thenT_brk, thenT_cnt, R.calm, opt_some, opt_none, binD_ii, binD_oo, binD_oi, binD_io, negD, tstD, cmpV, blD, biV, attrD, callD, bindD, methF, ownM, intB_add, intB_sub, intB_mul, intB_fdiv, intB_mod, dun, rdun, dNeg, dEq, dBool, startD, idxD, slcD, Mir.atI, Mir.ixN, items, biD, truD, isD, kdD, isK, cmpD, cmpInt, eqD, flat2, setI, setAt, putA, parD, List.lookup_cons, List.lookup_nil, strD, mlstD, appD, fits, sz, walkD, walkL, out_ret, out_ret0, out_nxt0, guardO_pos, shp_27_0, goO, mth_0_2, subO, prop_0_27, signO (k + 1) st ha hb]
theorem belowI (k : Nat) {a b c : Int} (st : Sto) (ha : In25 (a - c)) (hb : In25 b) : run P.T (k + 5) 25 [gO a b, .int c] st = .ok (.bl (decide (sgG (a - c) b < 0))) st := by
  have hb' : In25 (b - 0) := by rwa [Int.sub_zero]
  rw [run_succ _ _ _ _ _ fn_25 rfl]
  simp [b25, exSs, exS, evE, evEs, evO, evAnd, evOr, evT, evTA, evTO, evIfs, evIt, evTg, evTgs, evStr, ↓bind_t, ↓toO_t, ↓then_t, ↓forD_t, ↓whlD_t, ↓compD_t, bindT_ok, bindT_ex, toOT_ok, toOT_ex, thenT_nxt, thenT_ret, thenT_ex, thenT_brk, thenT_cnt, R.calm, opt_some, opt_none, binD_ii, binD_oo, binD_oi, binD_io, negD, tstD, cmpV, blD, biV, attrD, callD, bindD, methF, ownM, intB_add, intB_sub, intB_mul, intB_fdiv, intB_mod, dun, rdun, dNeg, dEq, dBool, startD, idxD, slcD, Mir.atI, Mir.ixN, items, biD, truD, isD, kdD, isK, cmpD, cmpInt, eqD, flat2, setI, setAt, putA, parD, List.lookup_cons, List.lookup_nil, strD, mlstD, appD, fits, sz, walkD, walkL, out_ret, out_ret0, out_nxt0, guardO_pos, shp_27_0, goI, mth_0_2, subO, prop_0_27, signO (k + 2) st ha hb]
end K02

set_option Elab.async false
set_option linter.all false
set_option maxRecDepth 1000000
set_option maxHeartbeats 8000000
set_option exponentiation.threshold 2000
namespace K02
open PySem Mir
theorem reckoned (k : Nat) {a b c d o : Int} (st : Sto) (ha : In24 a) (hb : In24 b) (hc : In24 c) (hd : In24 d) (ho : In24 o) :
    run P.T (k + 6) 42 [.tup [.int a, .int b], .tup [.int c, .int d], .int o] st = .ok (.bl true) st := by
  have z : In25 0 := by unfold In25; decide
  have A := ha.i25
  have B := hb.i25
  have C := hc.i25
  have D' := hd.i25
  have O' := ho.i25
  have m1 := m25 B D'
  have m2 := m25 A C
  have m3 := m25 A D'
  have m4 := m25 B C
  have m5 := m25 A O'
  have m6 := m25 B O'
  have m7 := m25 B z
  have m8 := m25 A z
  have m9 := m25 O' A
  have n1 := m25 O' B
  have n2 := m25 z B
  have n3 := m25 z A
  rw [run_succ _ _ _ _ _ fn_42 rfl]
  simp [b42, exSs, exS, evE, evEs, evO, evAnd, evOr, evT, evTA, evTO, evIfs, evIt, evTg, evTgs, evStr, ↓bind_t, ↓toO_t, ↓then_t, ↓forD_t, ↓whlD_t, ↓compD_t, bindT_ok, bindT_ex, toOT_ok, toOT_ex, thenT_nxt, thenT_ret, thenT_ex, thenT_brk, thenT_cnt, R.calm, opt_some, opt_none, binD_ii, binD_oo, binD_oi, binD_io, negD, tstD, cmpV, blD, biV, attrD, callD, bindD, methF, ownM, intB_add, intB_sub, intB_mul, intB_fdiv, intB_mod, dun, rdun, dNeg, dEq, dBool, startD, idxD, slcD, Mir.atI, Mir.ixN, items, biD, truD, isD, kdD, isK, cmpD, cmpInt, eqD, flat2, setI, setAt, putA, parD, List.lookup_cons, List.lookup_nil, strD, mlstD, appD, fits, sz, walkD, walkL, out_ret, out_ret0, out_nxt0, guardO_pos, mk2, mk3, shp_40_1, shp_33_1, shp_34_1, shp_35_1, mth_0_1, mth_0_2, mth_0_3, mth_0_11, mth_0_12, mth_0_13, mth_0_20, addO, subO, mulO, negO, addI, raddI, subI, rsubI, mulI, rmulI, lplus, lless, ltimes, lis, m1, m2, m3, m4, m5, m6, m7, m8, m9, n1, n2, n3]
end K02

set_option Elab.async false
set_option linter.all false
set_option maxRecDepth 1000000
set_option maxHeartbeats 8000000
set_option exponentiation.threshold 2000
namespace K02
open PySem Mir
def shw (ds : List Bool) : Str := (toP (.lst (ds.map .bl))).shown
theorem rep2 (p q : Bool) : reprD (.lst [.bl p, .bl q]) = some (.str (shw [p, q])) := by
  have : ∀ p q : Bool, pl 60 (.lst [.bl p, .bl q]) = true ∧ (toP (.lst [.bl p, .bl q])).showable = true ∧ (toP (.lst [.bl p, .bl q])).shown.length ≤ sz := by decide +kernel
  exact guardO_pos (this p q)
theorem rep5 (p q r s t : Bool) : reprD (.lst [.bl p, .bl q, .bl r, .bl s, .bl t]) = some (.str (shw [p, q, r, s, t])) := by
  have : ∀ p q r s t : Bool, pl 60 (.lst [.bl p, .bl q, .bl r, .bl s, .bl t]) = true ∧ (toP (.lst [.bl p, .bl q, .bl r, .bl s, .bl t])).showable = true ∧ (toP (.lst [.bl p, .bl q, .bl r, .bl s, .bl t])).shown.length ≤ sz := by decide +kernel
  exact guardO_pos (this p q r s t)
def tSg (a b : Int) : Str := (toString (sgG a b) : Str)
theorem strSg (a b : Int) : strOfInt (sgG a b) = some (.str (tSg a b)) := by
  unfold strOfInt
  refine guardO_pos ?_
  unfold sgG
  repeat' split
  all_goals decide
theorem pl2 (a b : Int) : pl 60 (.tup [.int a, .int b]) = true := rfl
theorem eqv2 (a b c d : Int) : eqv (.tup [.int a, .int b]) (.tup [.int c, .int d]) = (decide (a = c) && decide (b = d)) := by simp [eqv, eqvs]
theorem asked (k : Nat) {a b c d o : Int} (st : Sto) (ha : In24 a) (hb : In24 b) (hc : In24 c) (hd : In24 d) (ho : In24 o) :
    run P.T (k + 6) 43 [.tup [.int a, .int b], .tup [.int c, .int d], .int o] st = .ok (.bl true) st := by
  have A := ha.i25
  have B := hb.i25
  have AC : In25 (a - c) := by unfold In24 at ha hc; unfold In25; omega
  have BD : In25 (b - d) := by unfold In24 at hb hd; unfold In25; omega
  have AO : In25 (a - o) := by unfold In24 at ha ho; unfold In25; omega
  have t1 : ∀ k, run P.T (k + 1) 12 [gO a b] st = .ok (.str (S (spl a b))) st := fun k => textO k a b st ha hb
  have t2 : ∀ k, run P.T (k + 1) 37 [.tup [.int a, .int b]] st = .ok (.str (S (spl a b))) st := fun k => spelled k a b st ha hb
  have t3 : ∀ k, run P.T (k + 1) 37 [.tup [.int c, .int d]] st = .ok (.str (S (spl c d))) st := fun k => spelled k c d st hc hd
  have t4 : ∀ k, run P.T (k + 3) 13 [.str (S (spl a b))] st = .ok (gO a b) st := fun k => readS k st ha hb
  have t5 : ∀ k, run P.T (k + 3) 13 [.str (S (spl c d))] st = .ok (gO c d) st := fun k => readS k st hc hd
  have t6 : ∀ k, run P.T (k + 2) 11 [gO a b] st = .ok (.int (sgG a b)) st := fun k => signO k st A B
  have t7 : ∀ k, run P.T (k + 1) 36 [.tup [.int a, .int b]] st = .ok (.int (sgG a b)) st := fun k => lsign k st A B
  have t8 : ∀ k, run P.T (k + 1) 36 [.tup [.int (a - c), .int (b - d)]] st = .ok (.int (sgG (a - c) (b - d))) st := fun k => lsign k st AC BD
  have t9 : ∀ k, run P.T (k + 1) 36 [.tup [.int (a - o), .int b]] st = .ok (.int (sgG (a - o) b)) st := fun k => lsign k st AO B
  have u1 : ∀ k, run P.T (k + 4) 25 [gO a b, gO c d] st = .ok (.bl (decide (sgG (a - c) (b - d) < 0))) st := fun k => belowO k st AC BD
  have u2 : ∀ k, run P.T (k + 5) 25 [gO a b, .int o] st = .ok (.bl (decide (sgG (a - o) b < 0))) st := fun k => belowI k st AO B
  rw [run_succ _ _ _ _ _ fn_43 rfl]
  simp [b43, exSs, exS, evE, evEs, evO, evAnd, evOr, evT, evTA, evTO, evIfs, evIt, evTg, evTgs, evStr, ↓bind_t, ↓toO_t, ↓then_t, ↓forD_t, ↓whlD_t, ↓compD_t, bindT_ok, bindT_ex, toOT_ok, toOT_ex, thenT_nxt, thenT_ret, thenT_ex, thenT_brk, thenT_cnt, R.calm, opt_some, opt_none, binD_ii, binD_oo, binD_oi, binD_io, negD, tstD, cmpV, blD, biV, attrD, callD, bindD, methF, ownM, intB_add, intB_sub, intB_mul, intB_fdiv, intB_mod, dun, rdun, dNeg, dEq, dBool, startD, idxD, slcD, Mir.atI, Mir.ixN, items, biD, truD, isD, kdD, isK, cmpD, cmpInt, eqD, flat2, setI, setAt, putA, parD, List.lookup_cons, List.lookup_nil, strD, mlstD, appD, fits, sz, walkD, walkL, out_ret, out_ret0, out_nxt0, guardO_pos, mk1, mk2, shp_40_1, shp_36_0, shp_37_0, shp_13_0, shp_13_5, shp_27_0, shp_27_6, shp_34_1, shp_25_1, shp_25_7, prop_0_27, prop_0_28, mth_0_30, mth_0_21, mth_0_22, goO, goI, eqO, eqI, boO, lless, lis, t1, t2, t3, t4, t5, t6, t7, t8, t9, u1, u2, strSg, rep2, rep5, eqv2, pl2]
end K02

set_option Elab.async false
set_option linter.all false
set_option maxRecDepth 1000000
set_option maxHeartbeats 8000000
set_option exponentiation.threshold 2000
namespace K02
open PySem Mir
/-! powers -/
def gm (x y : Int × Int) : Int × Int := (x.1 * y.1 + x.2 * y.2, x.1 * y.2 + x.2 * y.1 + x.2 * y.2)
theorem gm_assoc (x y z : Int × Int) : gm (gm x y) z = gm x (gm y z) := by
  unfold gm
  refine Prod.ext ?_ ?_ <;> dsimp only <;> grind
theorem gm_one (x : Int × Int) : gm (1, 0) x = x := by
  unfold gm
  refine Prod.ext ?_ ?_ <;> dsimp only <;> omega
theorem gm_one2 (x : Int × Int) : gm x (1, 0) = x := by
  unfold gm
  refine Prod.ext ?_ ?_ <;> dsimp only <;> omega
def gp (x : Int × Int) : Nat → Int × Int
  | 0 => (1, 0)
  | n + 1 => gm (gp x n) x
theorem gp_add (x : Int × Int) (m n : Nat) : gm (gp x m) (gp x n) = gp x (m + n) := by
  induction n with
  | zero => exact gm_one2 _
  | succ n ih =>
    show gm (gp x m) (gm (gp x n) x) = gm (gp x (m + n)) x
    rw [← gm_assoc, ih]
theorem gp_1 (x : Int × Int) : gp x 1 = x := gm_one x
/-- not above 2 ^ n -/
def Bd (n : Nat) (x : Int × Int) : Prop := x.1.natAbs ≤ 2 ^ n ∧ x.2.natAbs ≤ 2 ^ n
theorem Bd.mono {m n : Nat} {x : Int × Int} (h : Bd m x) (l : m ≤ n) : Bd n x := by
  have : (2 : Nat) ^ m ≤ 2 ^ n := Nat.pow_le_pow_right (by decide) l
  exact ⟨Nat.le_trans h.1 this, Nat.le_trans h.2 this⟩
theorem Bd.gm {m n : Nat} {x y : Int × Int} (h : Bd m x) (h' : Bd n y) : Bd (m + n + 2) (K02.gm x y) := by
  have p : ∀ {u v : Int}, u.natAbs ≤ 2 ^ m → v.natAbs ≤ 2 ^ n → (u * v).natAbs ≤ 2 ^ (m + n) := fun {u v} a b => by
    rw [Int.natAbs_mul, Nat.pow_add]
    exact Nat.mul_le_mul a b
  have e : 2 ^ (m + n + 2) = 4 * 2 ^ (m + n) := by rw [Nat.pow_add]; omega
  have a1 := p h.1 h'.1
  have a2 := p h.2 h'.2
  have a3 := p h.1 h'.2
  have a4 := p h.2 h'.1
  unfold K02.gm Bd
  dsimp only
  rw [e]
  constructor <;> omega
def MkP (x y : Int × Int) : Prop := mulOk x.2 y.2 = true ∧ mulOk x.1 y.1 = true ∧ mulOk x.1 y.2 = true ∧ mulOk x.2 y.1 = true
theorem Bd.ok {m n : Nat} {x y : Int × Int} (h : Bd m x) (h' : Bd n y) (l : m ≤ 999) (l' : n ≤ 999) : MkP x y := by
  have q : ∀ {k : Nat} {u : Int}, k ≤ 999 → u.natAbs ≤ 2 ^ k → u.natAbs < 2 ^ 1000 := fun {k u} l a =>
    Nat.lt_of_le_of_lt (Nat.le_trans a (Nat.pow_le_pow_right (by decide) l)) (by decide)
  exact ⟨mulOk_of (q l h.2) (q l' h'.2), mulOk_of (q l h.1) (q l' h'.1), mulOk_of (q l h.1) (q l' h'.2), mulOk_of (q l h.2) (q l' h'.1)⟩
theorem mulP (k : Nat) {x y : Int × Int} (st : Sto) (h : MkP x y) : run P.T (k + 3) 20 [gO x.1 x.2, gO y.1 y.2] st = .ok (gO (gm x y).1 (gm x y).2) st := mulO k _ _ _ _ st h.1 h.2.1 h.2.2.1 h.2.2.2
theorem timesP (k : Nat) {x y : Int × Int} (st : Sto) (h : MkP x y) : run P.T (k + 1) 35 [.tup [.int x.1, .int x.2], .tup [.int y.1, .int y.2]] st = .ok (.tup [.int (gm x y).1, .int (gm x y).2]) st := ltimes k _ _ _ _ st h.1 h.2.1 h.2.2.1 h.2.2.2
/-- n times by x -/
theorem raise_loop (k : Nat) (x : Int × Int) (A : Option D) (st : Sto) (c : Nat) (hx : Bd c x) : ∀ (n m : Nat) (i : Int) (z : Int × Int) (t : Option D), Bd m z → m + n * (c + 2) ≤ 900 → c ≤ 900 →
    ∃ t', forD (fun _ => True) (fun d σ st => evTg P.T (run P.T (k + 1)) (.name 3) d σ st) (fun σ st => exSs P.T (run P.T (k + 1)) [(.asg (.name 2) (.call 35 [(.var 2), (.var 0)] 1))] σ st) (rngI i n)
      [some (.tup [.int x.1, .int x.2]), A, some (.tup [.int z.1, .int z.2]), t] st = .nxt [some (.tup [.int x.1, .int x.2]), A, some (.tup [.int (gm z (gp x n)).1, .int (gm z (gp x n)).2]), t'] st := by
  intro n
  induction n with
  | zero =>
    intro m i z t hz _ _
    refine ⟨t, ?_⟩
    rw [show gp x 0 = (1, 0) from rfl, gm_one2]
    simp [rngI, forD]
  | succ n ih =>
    intro m i z t hz hl hc
    have e1 : (n + 1) * (c + 2) = n * (c + 2) + (c + 2) := by rw [Nat.add_mul]; omega
    rw [e1] at hl
    have ok : MkP z x := hz.ok hx (by omega) (by omega)
    obtain ⟨t', e⟩ := ih (m + c + 2) (i + 1) (gm z x) (some (.int i)) (hz.gm hx) (by omega) hc
    refine ⟨t', ?_⟩
    have e2 : gm z (gp x (n + 1)) = gm (gm z x) (gp x n) := by
      rw [gm_assoc]
      congr 1
      have := gp_add x 1 n
      rw [gp_1] at this
      rw [this, Nat.add_comm]
    rw [e2, ← e]
    have hb : exSs P.T (run P.T (k + 1)) [(.asg (.name 2) (.call 35 [(.var 2), (.var 0)] 1))] [some (.tup [.int x.1, .int x.2]), A, some (.tup [.int z.1, .int z.2]), some (.int i)] st = .nxt [some (.tup [.int x.1, .int x.2]), A, some (.tup [.int (gm z x).1, .int (gm z x).2]), some (.int i)] st := by
      simp [exSs, exS, evE, evEs, evO, evAnd, evOr, evT, evTA, evTO, evIfs, evIt, evTg, evTgs, evStr, ↓bind_t, ↓toO_t, ↓then_t, ↓forD_t, ↓whlD_t, ↓compD_t, bindT_ok, bindT_ex, toOT_ok, toOT_ex, thenT_nxt, thenT_ret, thenT_ex, thenT_brk, thenT_cnt, R.calm, opt_some, opt_none, binD_ii, binD_oo, binD_oi, binD_io, negD, tstD, cmpV, blD, biV, attrD, callD, bindD, methF, ownM, intB_add, intB_sub, intB_mul, intB_fdiv, intB_mod, dun, rdun, dNeg, dEq, dBool, startD, idxD, slcD, Mir.atI, Mir.ixN, items, biD, truD, isD, kdD, isK, cmpD, cmpInt, eqD, flat2, setI, setAt, putA, parD, List.lookup_cons, List.lookup_nil, strD, mlstD, appD, fits, sz, walkD, walkL, out_ret, out_ret0, out_nxt0, guardO_pos, shp_35_1, timesP k st ok]
    have ht : evTg P.T (run P.T (k + 1)) (.name 3) (.int i) [some (.tup [.int x.1, .int x.2]), A, some (.tup [.int z.1, .int z.2]), t] st = .ok [some (.tup [.int x.1, .int x.2]), A, some (.tup [.int z.1, .int z.2]), some (.int i)] st := by simp only [evTg]; rfl
    show forD _ _ _ (.int i :: rngI (i + 1) n) _ _ = _
    rw [forD, if_pos trivial, ht, toO_ok, hb]
theorem rng1_go (cd : Cd) (σ : Sl) (i : Int) (st : Sto) (h1 : -(2 ^ 62) ≤ i) (h2 : i < 2 ^ 62) (hs : σ[1]? = some (some (.int i))) : evIt P.T cd (.rng1 (.var 1)) σ st = .ok (rngI 0 i.toNat, fun _ => True) st := by
  have gen : (if -(2 ^ 62) ≤ i ∧ i < 2 ^ 62 then R.ok (rngI 0 i.toNat, fun _ : Sto => True) st else R.no) = R.ok (rngI 0 i.toNat, fun _ : Sto => True) st := if_pos ⟨h1, h2⟩
  rw [evIt_rng1]
  simp only [evE, hs, R.bind_ok]
  exact gen
theorem raised (k : Nat) (x : Int × Int) (i : Int) (st : Sto) (c : Nat) (hx : Bd c x) (h0 : 0 ≤ i) (h1 : i ≤ 64) (hn : i.toNat * (c + 2) ≤ 800) (hc : c ≤ 900) : run P.T (k + 2) 41 [.tup [.int x.1, .int x.2], .int i] st = .ok (.tup [.int (gp x i.toNat).1, .int (gp x i.toNat).2]) st := by
  have hb : Bd 0 ((1, 0) : Int × Int) := by constructor <;> decide
  obtain ⟨t', e⟩ := raise_loop k x (some (.int i)) st c hx i.toNat 0 0 (1, 0) none hb (by omega) hc
  rw [gm_one] at e
  have s1 : exS P.T (run P.T (k + 1)) (.asg (.name 2) (.tup [(.lit (.int 1)), (.lit (.int 0))])) [some (.tup [.int x.1, .int x.2]), some (.int i), none, none] st = .nxt [some (.tup [.int x.1, .int x.2]), some (.int i), some (.tup [.int 1, .int 0]), none] st := by simp [exSs, exS, evE, evEs, evO, evAnd, evOr, evT, evTA, evTO, evIfs, evIt, evTg, evTgs, evStr, ↓bind_t, ↓toO_t, ↓then_t, ↓forD_t, ↓whlD_t, ↓compD_t, bindT_ok, bindT_ex, toOT_ok, toOT_ex, thenT_nxt, thenT_ret, thenT_ex, thenT_brk, thenT_cnt, R.calm, opt_some, opt_none, binD_ii, binD_oo, binD_oi, binD_io, negD, tstD, cmpV, blD, biV, attrD, callD, bindD, methF, ownM, intB_add, intB_sub, intB_mul, intB_fdiv, intB_mod, dun, rdun, dNeg, dEq, dBool, startD, idxD, slcD, Mir.atI, Mir.ixN, items, biD, truD, isD, kdD, isK, cmpD, cmpInt, eqD, flat2, setI, setAt, putA, parD, List.lookup_cons, List.lookup_nil, strD, mlstD, appD, fits, sz, walkD, walkL, out_ret, out_ret0, out_nxt0, guardO_pos]
  have s2 : exS P.T (run P.T (k + 1)) (.for_ (.name 3) (.rng1 (.var 1)) [(.asg (.name 2) (.call 35 [(.var 2), (.var 0)] 1))]) [some (.tup [.int x.1, .int x.2]), some (.int i), some (.tup [.int 1, .int 0]), none] st = .nxt [some (.tup [.int x.1, .int x.2]), some (.int i), some (.tup [.int (gp x i.toNat).1, .int (gp x i.toNat).2]), t'] st := by
    have hit := rng1_go (run P.T (k + 1)) [some (.tup [.int x.1, .int x.2]), some (.int i), some (.tup [.int 1, .int 0]), none] i st (by omega) (by omega) rfl
    simp only [exS]
    rw [hit, toO_ok]
    exact e
  have s3 : exS P.T (run P.T (k + 1)) (.ret (.var 2)) [some (.tup [.int x.1, .int x.2]), some (.int i), some (.tup [.int (gp x i.toNat).1, .int (gp x i.toNat).2]), t'] st = .ret (.tup [.int (gp x i.toNat).1, .int (gp x i.toNat).2]) st := by simp [exSs, exS, evE, evEs, evO, evAnd, evOr, evT, evTA, evTO, evIfs, evIt, evTg, evTgs, evStr, ↓bind_t, ↓toO_t, ↓then_t, ↓forD_t, ↓whlD_t, ↓compD_t, bindT_ok, bindT_ex, toOT_ok, toOT_ex, thenT_nxt, thenT_ret, thenT_ex, thenT_brk, thenT_cnt, R.calm, opt_some, opt_none, binD_ii, binD_oo, binD_oi, binD_io, negD, tstD, cmpV, blD, biV, attrD, callD, bindD, methF, ownM, intB_add, intB_sub, intB_mul, intB_fdiv, intB_mod, dun, rdun, dNeg, dEq, dBool, startD, idxD, slcD, Mir.atI, Mir.ixN, items, biD, truD, isD, kdD, isK, cmpD, cmpInt, eqD, flat2, setI, setAt, putA, parD, List.lookup_cons, List.lookup_nil, strD, mlstD, appD, fits, sz, walkD, walkL, out_ret, out_ret0, out_nxt0, guardO_pos]
  rw [run_succ _ _ _ _ _ fn_41 rfl]
  show outD false st (exSs P.T (run P.T (k + 1)) b41 [some (.tup [.int x.1, .int x.2]), some (.int i), none, none] st) = _
  unfold b41
  simp only [exSs]
  rw [s1, then_nxt, s2, then_nxt, s3, then_ret]
  exact out_ret0 rfl
end K02

set_option Elab.async false
set_option linter.all false
set_option maxRecDepth 1000000
set_option maxHeartbeats 8000000
set_option exponentiation.threshold 2000
namespace K02
open PySem Mir
theorem intB_and (i j : Int) : intBin .BitAnd i j = some (Builtin.bitAnd i j) := rfl
theorem intB_shr1 (i : Int) : intBin .RShift i 1 = some (i / 2) := rfl
theorem ba : Builtin.bitAnd 64 1 = 0 ∧ Builtin.bitAnd 32 1 = 0 ∧ Builtin.bitAnd 16 1 = 0 ∧ Builtin.bitAnd 8 1 = 0 ∧ Builtin.bitAnd 4 1 = 0 ∧ Builtin.bitAnd 2 1 = 0 ∧ Builtin.bitAnd 1 1 = 1 ∧ Builtin.bitAnd 3 1 = 1 ∧ Builtin.bitAnd 5 1 = 1 ∧ Builtin.bitAnd 9 1 = 1 := by decide +kernel
theorem wstep {c : Sl → Sto → R Bool} {body : Sl → Sto → O} (n : Nat) (σ : Sl) (st : Sto) : whlD c body (n + 1) σ st = toO (c σ st) fun k st1 => if k = true then (match body σ st1 with
      | .nxt σ2 st2 => whlD c body n σ2 st2
      | .cnt σ2 st2 => whlD c body n σ2 st2
      | .brk σ2 st2 => .nxt σ2 st2
      | .ret d st2 => .ret d st2
      | .ex c fs st2 => .ex c fs st2
      | .no => .no) else .nxt σ st1 := rfl
theorem mul1P (k : Nat) {x : Int × Int} (st : Sto) (h : MkP (1, 0) x) : run P.T (k + 3) 20 [gO 1 0, gO x.1 x.2] st = .ok (gO x.1 x.2) st := by
  have := mulP k (x := (1, 0)) (y := x) st h
  rwa [gm_one] at this
def fourth (x : Int × Int) : Int × Int := gm (gm x x) (gm x x)
section
variable (k : Nat) {x : Int × Int} (st : Sto)
theorem pow0 : run P.T (k + 5) 0 [gO 1 0, gO x.1 x.2, .int 0] st = .ok (gO 1 0) st := by
  obtain ⟨m, hm⟩ : ∃ m, fuel = m + 8 := ⟨999992, rfl⟩
  rw [run_succ _ _ _ _ _ fn_0 rfl]
  simp [b0, exSs, exS, evE, evEs, evO, evAnd, evOr, evT, evTA, evTO, evIfs, evIt, evTg, evTgs, evStr, ↓bind_t, ↓toO_t, ↓then_t, ↓forD_t, ↓whlD_t, ↓compD_t, bindT_ok, bindT_ex, toOT_ok, toOT_ex, thenT_nxt, thenT_ret, thenT_ex, thenT_brk, thenT_cnt, R.calm, opt_some, opt_none, binD_ii, binD_oo, binD_oi, binD_io, negD, tstD, cmpV, blD, biV, attrD, callD, bindD, methF, ownM, intB_add, intB_sub, intB_mul, intB_fdiv, intB_mod, dun, rdun, dNeg, dEq, dBool, startD, idxD, slcD, Mir.atI, Mir.ixN, items, biD, truD, isD, kdD, isK, cmpD, cmpInt, eqD, flat2, setI, setAt, putA, parD, List.lookup_cons, List.lookup_nil, strD, mlstD, appD, fits, sz, walkD, walkL, out_ret, out_ret0, out_nxt0, guardO_pos, hm, whlDT_step]
theorem pow1 (h1 : MkP (1, 0) x) : run P.T (k + 5) 0 [gO 1 0, gO x.1 x.2, .int 1] st = .ok (gO x.1 x.2) st := by
  obtain ⟨m, hm⟩ : ∃ m, fuel = m + 8 := ⟨999992, rfl⟩
  have m1 := fun k => mul1P k st h1
  rw [run_succ _ _ _ _ _ fn_0 rfl]
  simp [b0, exSs, exS, evE, evEs, evO, evAnd, evOr, evT, evTA, evTO, evIfs, evIt, evTg, evTgs, evStr, ↓bind_t, ↓toO_t, ↓then_t, ↓forD_t, ↓whlD_t, ↓compD_t, bindT_ok, bindT_ex, toOT_ok, toOT_ex, thenT_nxt, thenT_ret, thenT_ex, thenT_brk, thenT_cnt, R.calm, opt_some, opt_none, binD_ii, binD_oo, binD_oi, binD_io, negD, tstD, cmpV, blD, biV, attrD, callD, bindD, methF, ownM, intB_add, intB_sub, intB_mul, intB_fdiv, intB_mod, dun, rdun, dNeg, dEq, dBool, startD, idxD, slcD, Mir.atI, Mir.ixN, items, biD, truD, isD, kdD, isK, cmpD, cmpInt, eqD, flat2, setI, setAt, putA, parD, List.lookup_cons, List.lookup_nil, strD, mlstD, appD, fits, sz, walkD, walkL, out_ret, out_ret0, out_nxt0, guardO_pos, hm, whlDT_step, intB_and, intB_shr1, ba, mth_0_3, m1]
theorem pow2 (h1 : MkP x x) (h2 : MkP (1, 0) (gm x x)) : run P.T (k + 5) 0 [gO 1 0, gO x.1 x.2, .int 2] st = .ok (gO (gm x x).1 (gm x x).2) st := by
  obtain ⟨m, hm⟩ : ∃ m, fuel = m + 8 := ⟨999992, rfl⟩
  have m1 := fun k => mulP k st h1
  have m2 := fun k => mul1P k st h2
  rw [run_succ _ _ _ _ _ fn_0 rfl]
  simp [b0, exSs, exS, evE, evEs, evO, evAnd, evOr, evT, evTA, evTO, evIfs, evIt, evTg, evTgs, evStr, ↓bind_t, ↓toO_t, ↓then_t, ↓forD_t, ↓whlD_t, ↓compD_t, bindT_ok, bindT_ex, toOT_ok, toOT_ex, thenT_nxt, thenT_ret, thenT_ex, thenT_brk, thenT_cnt, R.calm, opt_some, opt_none, binD_ii, binD_oo, binD_oi, binD_io, negD, tstD, cmpV, blD, biV, attrD, callD, bindD, methF, ownM, intB_add, intB_sub, intB_mul, intB_fdiv, intB_mod, dun, rdun, dNeg, dEq, dBool, startD, idxD, slcD, Mir.atI, Mir.ixN, items, biD, truD, isD, kdD, isK, cmpD, cmpInt, eqD, flat2, setI, setAt, putA, parD, List.lookup_cons, List.lookup_nil, strD, mlstD, appD, fits, sz, walkD, walkL, out_ret, out_ret0, out_nxt0, guardO_pos, hm, whlDT_step, intB_and, intB_shr1, ba, mth_0_3, m1, m2]
theorem pow3 (h0 : MkP (1, 0) x) (h1 : MkP x x) (h2 : MkP x (gm x x)) : run P.T (k + 5) 0 [gO 1 0, gO x.1 x.2, .int 3] st = .ok (gO (gm x (gm x x)).1 (gm x (gm x x)).2) st := by
  obtain ⟨m, hm⟩ : ∃ m, fuel = m + 8 := ⟨999992, rfl⟩
  have m0 := fun k => mul1P k st h0
  have m1 := fun k => mulP k st h1
  have m2 := fun k => mulP k st h2
  rw [run_succ _ _ _ _ _ fn_0 rfl]
  simp [b0, exSs, exS, evE, evEs, evO, evAnd, evOr, evT, evTA, evTO, evIfs, evIt, evTg, evTgs, evStr, ↓bind_t, ↓toO_t, ↓then_t, ↓forD_t, ↓whlD_t, ↓compD_t, bindT_ok, bindT_ex, toOT_ok, toOT_ex, thenT_nxt, thenT_ret, thenT_ex, thenT_brk, thenT_cnt, R.calm, opt_some, opt_none, binD_ii, binD_oo, binD_oi, binD_io, negD, tstD, cmpV, blD, biV, attrD, callD, bindD, methF, ownM, intB_add, intB_sub, intB_mul, intB_fdiv, intB_mod, dun, rdun, dNeg, dEq, dBool, startD, idxD, slcD, Mir.atI, Mir.ixN, items, biD, truD, isD, kdD, isK, cmpD, cmpInt, eqD, flat2, setI, setAt, putA, parD, List.lookup_cons, List.lookup_nil, strD, mlstD, appD, fits, sz, walkD, walkL, out_ret, out_ret0, out_nxt0, guardO_pos, hm, whlDT_step, intB_and, intB_shr1, ba, mth_0_3, m0, m1, m2]
theorem pow5 (h0 : MkP (1, 0) x) (h1 : MkP x x) (h2 : MkP (gm x x) (gm x x)) (h3 : MkP x (fourth x)) : run P.T (k + 5) 0 [gO 1 0, gO x.1 x.2, .int 5] st = .ok (gO (gm x (fourth x)).1 (gm x (fourth x)).2) st := by
  obtain ⟨m, hm⟩ : ∃ m, fuel = m + 8 := ⟨999992, rfl⟩
  have m0 := fun k => mul1P k st h0
  have m1 := fun k => mulP k st h1
  have m2 := fun k => mulP k st h2
  have m3 := fun k => mulP k st h3
  rw [run_succ _ _ _ _ _ fn_0 rfl]
  unfold fourth at m3 ⊢
  simp [b0, exSs, exS, evE, evEs, evO, evAnd, evOr, evT, evTA, evTO, evIfs, evIt, evTg, evTgs, evStr, ↓bind_t, ↓toO_t, ↓then_t, ↓forD_t, ↓whlD_t, ↓compD_t, bindT_ok, bindT_ex, toOT_ok, toOT_ex, thenT_nxt, thenT_ret, thenT_ex, thenT_brk, thenT_cnt, R.calm, opt_some, opt_none, binD_ii, binD_oo, binD_oi, binD_io, negD, tstD, cmpV, blD, biV, attrD, callD, bindD, methF, ownM, intB_add, intB_sub, intB_mul, intB_fdiv, intB_mod, dun, rdun, dNeg, dEq, dBool, startD, idxD, slcD, Mir.atI, Mir.ixN, items, biD, truD, isD, kdD, isK, cmpD, cmpInt, eqD, flat2, setI, setAt, putA, parD, List.lookup_cons, List.lookup_nil, strD, mlstD, appD, fits, sz, walkD, walkL, out_ret, out_ret0, out_nxt0, guardO_pos, hm, whlDT_step, intB_and, intB_shr1, ba, mth_0_3, m0, m1, m2, m3]
theorem pow9 (h0 : MkP (1, 0) x) (h1 : MkP x x) (h2 : MkP (gm x x) (gm x x)) (h3 : MkP (fourth x) (fourth x)) (h4 : MkP x (gm (fourth x) (fourth x))) : run P.T (k + 5) 0 [gO 1 0, gO x.1 x.2, .int 9] st = .ok (gO (gm x (gm (fourth x) (fourth x))).1 (gm x (gm (fourth x) (fourth x))).2) st := by
  obtain ⟨m, hm⟩ : ∃ m, fuel = m + 8 := ⟨999992, rfl⟩
  have m0 := fun k => mul1P k st h0
  have m1 := fun k => mulP k st h1
  have m2 := fun k => mulP k st h2
  have m3 := fun k => mulP k st h3
  have m4 := fun k => mulP k st h4
  rw [run_succ _ _ _ _ _ fn_0 rfl]
  unfold fourth at m3 m4 ⊢
  simp [b0, exSs, exS, evE, evEs, evO, evAnd, evOr, evT, evTA, evTO, evIfs, evIt, evTg, evTgs, evStr, ↓bind_t, ↓toO_t, ↓then_t, ↓forD_t, ↓whlD_t, ↓compD_t, bindT_ok, bindT_ex, toOT_ok, toOT_ex, thenT_nxt, thenT_ret, thenT_ex, thenT_brk, thenT_cnt, R.calm, opt_some, opt_none, binD_ii, binD_oo, binD_oi, binD_io, negD, tstD, cmpV, blD, biV, attrD, callD, bindD, methF, ownM, intB_add, intB_sub, intB_mul, intB_fdiv, intB_mod, dun, rdun, dNeg, dEq, dBool, startD, idxD, slcD, Mir.atI, Mir.ixN, items, biD, truD, isD, kdD, isK, cmpD, cmpInt, eqD, flat2, setI, setAt, putA, parD, List.lookup_cons, List.lookup_nil, strD, mlstD, appD, fits, sz, walkD, walkL, out_ret, out_ret0, out_nxt0, guardO_pos, hm, whlDT_step, intB_and, intB_shr1, ba, mth_0_3, m0, m1, m2, m3, m4]
theorem pow64 {x2 x4 x8 x16 x32 x64 : Int × Int} (e1 : gm x x = x2) (e2 : gm x2 x2 = x4) (e3 : gm x4 x4 = x8) (e4 : gm x8 x8 = x16) (e5 : gm x16 x16 = x32) (e6 : gm x32 x32 = x64)
    (h1 : MkP x x) (h2 : MkP x2 x2) (h3 : MkP x4 x4) (h4 : MkP x8 x8) (h5 : MkP x16 x16) (h6 : MkP x32 x32) (h7 : MkP (1, 0) x64) : run P.T (k + 5) 0 [gO 1 0, gO x.1 x.2, .int 64] st = .ok (gO x64.1 x64.2) st := by
  obtain ⟨m, hm⟩ : ∃ m, fuel = m + 8 := ⟨999992, rfl⟩
  have m1 := fun k => mulP k st h1
  have m2 := fun k => mulP k st h2
  have m3 := fun k => mulP k st h3
  have m4 := fun k => mulP k st h4
  have m5 := fun k => mulP k st h5
  have m6 := fun k => mulP k st h6
  have m7 := fun k => mul1P k st h7
  rw [e1] at m1
  rw [e2] at m2
  rw [e3] at m3
  rw [e4] at m4
  rw [e5] at m5
  rw [e6] at m6
  rw [run_succ _ _ _ _ _ fn_0 rfl]
  simp [b0, exSs, exS, evE, evEs, evO, evAnd, evOr, evT, evTA, evTO, evIfs, evIt, evTg, evTgs, evStr, ↓bind_t, ↓toO_t, ↓then_t, ↓forD_t, ↓whlD_t, ↓compD_t, bindT_ok, bindT_ex, toOT_ok, toOT_ex, thenT_nxt, thenT_ret, thenT_ex, thenT_brk, thenT_cnt, R.calm, opt_some, opt_none, binD_ii, binD_oo, binD_oi, binD_io, negD, tstD, cmpV, blD, biV, attrD, callD, bindD, methF, ownM, intB_add, intB_sub, intB_mul, intB_fdiv, intB_mod, dun, rdun, dNeg, dEq, dBool, startD, idxD, slcD, Mir.atI, Mir.ixN, items, biD, truD, isD, kdD, isK, cmpD, cmpInt, eqD, flat2, setI, setAt, putA, parD, List.lookup_cons, List.lookup_nil, strD, mlstD, appD, fits, sz, walkD, walkL, out_ret, out_ret0, out_nxt0, guardO_pos, hm, whlDT_step, intB_and, intB_shr1, ba, mth_0_3, m1, m2, m3, m4, m5, m6, m7]
end
theorem Bd1 : Bd 0 ((1, 0) : Int × Int) := by constructor <;> decide
theorem gp2 (x : Int × Int) : gm x x = gp x 2 := by
  have := gp_add x 1 1
  rwa [gp_1] at this
theorem gpBd {c : Nat} {x : Int × Int} (h : Bd c x) : ∀ n, Bd (n * (c + 2)) (gp x n)
  | 0 => by
    rw [Nat.zero_mul]
    exact Bd1
  | n + 1 => by
    have := (gpBd h n).gm h
    exact this.mono (by rw [Nat.add_mul]; omega)
/-- the exponents that are drawn -/
def Ex (n : Nat) (c : Nat) : Prop := ((n = 0 ∨ n = 1 ∨ n = 2 ∨ n = 3 ∨ n = 5 ∨ n = 9) ∧ c ≤ 80) ∨ (n = 64 ∧ c ≤ 1)
theorem gpOk {c : Nat} {x : Int × Int} (h : Bd c x) (m n : Nat) (hm : m * (c + 2) ≤ 999) (hn : n * (c + 2) ≤ 999) : MkP (gp x m) (gp x n) := (gpBd h m).ok (gpBd h n) hm hn
theorem pow_all (k : Nat) {x : Int × Int} (st : Sto) {c n : Nat} (h : Bd c x) (hE : Ex n c) : run P.T (k + 5) 0 [gO 1 0, gO x.1 x.2, .int n] st = .ok (gO (gp x n).1 (gp x n).2) st := by
  have e1 : x = gp x 1 := (gp_1 x).symm
  have e2 := gp2 x
  have e0 : ((1, 0) : Int × Int) = gp x 0 := rfl
  have e4 : fourth x = gp x 4 := by unfold fourth; rw [e2]; exact gp_add x 2 2
  have e8 : gm (fourth x) (fourth x) = gp x 8 := by rw [e4]; exact gp_add x 4 4
  rcases hE with ⟨hE, hc⟩ | ⟨rfl, hc⟩
  · have ok : ∀ m n, m ≤ 9 → n ≤ 9 → MkP (gp x m) (gp x n) := fun m n hm hn => gpOk h m n
      (Nat.le_trans (Nat.mul_le_mul hm (show c + 2 ≤ 82 by omega)) (by decide)) (Nat.le_trans (Nat.mul_le_mul hn (show c + 2 ≤ 82 by omega)) (by decide))
    have a01 : MkP (1, 0) x := by
      have := ok 0 1 (by decide) (by decide)
      rwa [gp_1] at this
    have a11 : MkP x x := by
      have := ok 1 1 (by decide) (by decide)
      rwa [gp_1] at this
    have a02 : MkP (1, 0) (gm x x) := by rw [e2]; exact ok 0 2 (by decide) (by decide)
    have a12 : MkP x (gm x x) := by
      have := ok 1 2 (by decide) (by decide)
      rw [gp_1] at this
      rwa [e2]
    have a22 : MkP (gm x x) (gm x x) := by rw [e2]; exact ok 2 2 (by decide) (by decide)
    have a14 : MkP x (fourth x) := by
      have := ok 1 4 (by decide) (by decide)
      rw [gp_1] at this
      rwa [e4]
    have a44 : MkP (fourth x) (fourth x) := by rw [e4]; exact ok 4 4 (by decide) (by decide)
    have a18 : MkP x (gm (fourth x) (fourth x)) := by
      have := ok 1 8 (by decide) (by decide)
      rw [gp_1] at this
      rwa [e8]
    rcases hE with rfl | rfl | rfl | rfl | rfl | rfl
    · exact pow0 k st
    · rw [gp_1]; exact pow1 k st a01
    · rw [← e2]; exact pow2 k st a11 a02
    · have : gm x (gm x x) = gp x 3 := by
        rw [e2]
        have := gp_add x 1 2
        rwa [gp_1] at this
      rw [← this]; exact pow3 k st a01 a11 a12
    · have : gm x (fourth x) = gp x 5 := by
        rw [e4]
        have := gp_add x 1 4
        rwa [gp_1] at this
      rw [← this]; exact pow5 k st a01 a11 a22 a14
    · have : gm x (gm (fourth x) (fourth x)) = gp x 9 := by
        rw [e8]
        have := gp_add x 1 8
        rwa [gp_1] at this
      rw [← this]; exact pow9 k st a01 a11 a22 a44 a18
  · have ok : ∀ m n, m ≤ 64 → n ≤ 64 → MkP (gp x m) (gp x n) := fun m n hm hn => gpOk h m n
      (Nat.le_trans (Nat.mul_le_mul hm (show c + 2 ≤ 3 by omega)) (by decide)) (Nat.le_trans (Nat.mul_le_mul hn (show c + 2 ≤ 3 by omega)) (by decide))
    have a11 : MkP x x := by
      have := ok 1 1 (by decide) (by decide)
      rwa [gp_1] at this
    exact pow64 k st e2 (gp_add x 2 2) (gp_add x 4 4) (gp_add x 8 8) (gp_add x 16 16) (gp_add x 32 32) a11 (ok 2 2 (by decide) (by decide)) (ok 4 4 (by decide) (by decide)) (ok 8 8 (by decide) (by decide)) (ok 16 16 (by decide) (by decide)) (ok 32 32 (by decide) (by decide)) (ok 0 64 (by decide) (by decide))
end K02

set_option Elab.async false
set_option linter.all false
set_option maxRecDepth 1000000
set_option maxHeartbeats 8000000
set_option exponentiation.threshold 2000
namespace K02
open PySem Mir
theorem gl_0 : P.T.gl 0 = some (.int 64) := by kernel_rfl
theorem within (k : Nat) (e : Int) (st : Sto) (h : 0 ≤ e) (h2 : e ≤ 64) : run P.T (k + 2) 2 [.int e, .int 0, .int 64] st = .ok (.bl true) st := by
  rw [run_succ _ _ _ _ _ fn_2 rfl]
  simp [b2, exSs, exS, evE, evEs, evO, evAnd, evOr, evT, evTA, evTO, evIfs, evIt, evTg, evTgs, evStr, ↓bind_t, ↓toO_t, ↓then_t, ↓forD_t, ↓whlD_t, ↓compD_t, bindT_ok, bindT_ex, toOT_ok, toOT_ex, thenT_nxt, thenT_ret, thenT_ex, thenT_brk, thenT_cnt, R.calm, opt_some, opt_none, binD_ii, binD_oo, binD_oi, binD_io, negD, tstD, cmpV, blD, biV, attrD, callD, bindD, methF, ownM, intB_add, intB_sub, intB_mul, intB_fdiv, intB_mod, dun, rdun, dNeg, dEq, dBool, startD, idxD, slcD, Mir.atI, Mir.ixN, items, biD, truD, isD, kdD, isK, cmpD, cmpInt, eqD, flat2, setI, setAt, putA, parD, List.lookup_cons, List.lookup_nil, strD, mlstD, appD, fits, sz, walkD, walkL, out_ret, out_ret0, out_nxt0, guardO_pos, shp_1_0, iw, h, h2]
theorem ncheck (k : Nat) (e : Int) (st : Sto) (h : 0 ≤ e) (h2 : e ≤ 64) : run P.T (k + 3) 4 [.int e, .int 0, .int 64] st = .ok .non st := by
  have w := fun k => within k e st h h2
  rw [run_succ _ _ _ _ _ fn_4 rfl]
  simp [b4, exSs, exS, evE, evEs, evO, evAnd, evOr, evT, evTA, evTO, evIfs, evIt, evTg, evTgs, evStr, ↓bind_t, ↓toO_t, ↓then_t, ↓forD_t, ↓whlD_t, ↓compD_t, bindT_ok, bindT_ex, toOT_ok, toOT_ex, thenT_nxt, thenT_ret, thenT_ex, thenT_brk, thenT_cnt, R.calm, opt_some, opt_none, binD_ii, binD_oo, binD_oi, binD_io, negD, tstD, cmpV, blD, biV, attrD, callD, bindD, methF, ownM, intB_add, intB_sub, intB_mul, intB_fdiv, intB_mod, dun, rdun, dNeg, dEq, dBool, startD, idxD, slcD, Mir.atI, Mir.ixN, items, biD, truD, isD, kdD, isK, cmpD, cmpInt, eqD, flat2, setI, setAt, putA, parD, List.lookup_cons, List.lookup_nil, strD, mlstD, appD, fits, sz, walkD, walkL, out_ret, out_ret0, out_nxt0, guardO_pos, shp_2_2, w]
theorem power (k : Nat) {x : Int × Int} (st : Sto) {c n : Nat} {e : Int} (h : Bd c x) (hE : Ex n c) (he : e = n) : run P.T (k + 6) 24 [gO x.1 x.2, .int e] st = .ok (gO (gp x n).1 (gp x n).2) st := by
  have b : 0 ≤ e ∧ e ≤ 64 := by
    unfold Ex at hE
    omega
  have w := fun k => ncheck k e st b.1 b.2
  have q := fun k => pow_all k st h hE
  rw [← he] at q
  rw [run_succ _ _ _ _ _ fn_24 rfl]
  simp [b24, exSs, exS, evE, evEs, evO, evAnd, evOr, evT, evTA, evTO, evIfs, evIt, evTg, evTgs, evStr, ↓bind_t, ↓toO_t, ↓then_t, ↓forD_t, ↓whlD_t, ↓compD_t, bindT_ok, bindT_ex, toOT_ok, toOT_ex, thenT_nxt, thenT_ret, thenT_ex, thenT_brk, thenT_cnt, R.calm, opt_some, opt_none, binD_ii, binD_oo, binD_oi, binD_io, negD, tstD, cmpV, blD, biV, attrD, callD, bindD, methF, ownM, intB_add, intB_sub, intB_mul, intB_fdiv, intB_mod, dun, rdun, dNeg, dEq, dBool, startD, idxD, slcD, Mir.atI, Mir.ixN, items, biD, truD, isD, kdD, isK, cmpD, cmpInt, eqD, flat2, setI, setAt, putA, parD, List.lookup_cons, List.lookup_nil, strD, mlstD, appD, fits, sz, walkD, walkL, out_ret, out_ret0, out_nxt0, guardO_pos, shp_4_2, shp_0_2, gl_0, w, mk1, q]
theorem powD (k : Nat) {x : Int × Int} (st : Sto) {c n : Nat} {e : Int} (h : Bd c x) (hE : Ex n c) (he : e = n) : run P.T (k + 7) 23 [gO x.1 x.2, .int e] st = .ok (gO (gp x n).1 (gp x n).2) st := by
  have q := fun k => power k st h hE he
  rw [run_succ _ _ _ _ _ fn_23 rfl]
  simp [b23, exSs, exS, evE, evEs, evO, evAnd, evOr, evT, evTA, evTO, evIfs, evIt, evTg, evTgs, evStr, ↓bind_t, ↓toO_t, ↓then_t, ↓forD_t, ↓whlD_t, ↓compD_t, bindT_ok, bindT_ex, toOT_ok, toOT_ex, thenT_nxt, thenT_ret, thenT_ex, thenT_brk, thenT_cnt, R.calm, opt_some, opt_none, binD_ii, binD_oo, binD_oi, binD_io, negD, tstD, cmpV, blD, biV, attrD, callD, bindD, methF, ownM, intB_add, intB_sub, intB_mul, intB_fdiv, intB_mod, dun, rdun, dNeg, dEq, dBool, startD, idxD, slcD, Mir.atI, Mir.ixN, items, biD, truD, isD, kdD, isK, cmpD, cmpInt, eqD, flat2, setI, setAt, putA, parD, List.lookup_cons, List.lookup_nil, strD, mlstD, appD, fits, sz, walkD, walkL, out_ret, out_ret0, out_nxt0, guardO_pos, mth_0_29, shp_24_1, q]
theorem bysign (k : Nat) {x : Int × Int} (st : Sto) {c n : Nat} {e : Int} (h : Bd c x) (hE : Ex n c) (he : e = n) : run P.T (k + 8) 44 [gO x.1 x.2, .int e] st = .ok (gO (gp x n).1 (gp x n).2) st := by
  have hc : c ≤ 80 := by unfold Ex at hE; omega
  have q0 := fun k => powD k st h (n := 0) (e := 0) (.inl ⟨by simp, hc⟩) rfl
  have q1 := fun k => powD k st h (n := 1) (e := 1) (.inl ⟨by simp, hc⟩) rfl
  have q2 := fun k => powD k st h (n := 2) (e := 2) (.inl ⟨by simp, hc⟩) rfl
  have q3 := fun k => powD k st h (n := 3) (e := 3) (.inl ⟨by simp, hc⟩) rfl
  have q5 := fun k => powD k st h (n := 5) (e := 5) (.inl ⟨by simp, hc⟩) rfl
  have q9 := fun k => powD k st h (n := 9) (e := 9) (.inl ⟨by simp, hc⟩) rfl
  rw [run_succ _ _ _ _ _ fn_44 rfl]
  subst he
  rcases hE with ⟨rfl | rfl | rfl | rfl | rfl | rfl, _⟩ | ⟨rfl, hc1⟩
  · simp [b44, exSs, exS, evE, evEs, evO, evAnd, evOr, evT, evTA, evTO, evIfs, evIt, evTg, evTgs, evStr, ↓bind_t, ↓toO_t, ↓then_t, ↓forD_t, ↓whlD_t, ↓compD_t, bindT_ok, bindT_ex, toOT_ok, toOT_ex, thenT_nxt, thenT_ret, thenT_ex, thenT_brk, thenT_cnt, R.calm, opt_some, opt_none, binD_ii, binD_oo, binD_oi, binD_io, negD, tstD, cmpV, blD, biV, attrD, callD, bindD, methF, ownM, intB_add, intB_sub, intB_mul, intB_fdiv, intB_mod, dun, rdun, dNeg, dEq, dBool, startD, idxD, slcD, Mir.atI, Mir.ixN, items, biD, truD, isD, kdD, isK, cmpD, cmpInt, eqD, flat2, setI, setAt, putA, parD, List.lookup_cons, List.lookup_nil, strD, mlstD, appD, fits, sz, walkD, walkL, out_ret, out_ret0, out_nxt0, guardO_pos, mth_0_4, q0, q1, q2]
  · simp [b44, exSs, exS, evE, evEs, evO, evAnd, evOr, evT, evTA, evTO, evIfs, evIt, evTg, evTgs, evStr, ↓bind_t, ↓toO_t, ↓then_t, ↓forD_t, ↓whlD_t, ↓compD_t, bindT_ok, bindT_ex, toOT_ok, toOT_ex, thenT_nxt, thenT_ret, thenT_ex, thenT_brk, thenT_cnt, R.calm, opt_some, opt_none, binD_ii, binD_oo, binD_oi, binD_io, negD, tstD, cmpV, blD, biV, attrD, callD, bindD, methF, ownM, intB_add, intB_sub, intB_mul, intB_fdiv, intB_mod, dun, rdun, dNeg, dEq, dBool, startD, idxD, slcD, Mir.atI, Mir.ixN, items, biD, truD, isD, kdD, isK, cmpD, cmpInt, eqD, flat2, setI, setAt, putA, parD, List.lookup_cons, List.lookup_nil, strD, mlstD, appD, fits, sz, walkD, walkL, out_ret, out_ret0, out_nxt0, guardO_pos, mth_0_4, q0, q1, q2]
  · simp [b44, exSs, exS, evE, evEs, evO, evAnd, evOr, evT, evTA, evTO, evIfs, evIt, evTg, evTgs, evStr, ↓bind_t, ↓toO_t, ↓then_t, ↓forD_t, ↓whlD_t, ↓compD_t, bindT_ok, bindT_ex, toOT_ok, toOT_ex, thenT_nxt, thenT_ret, thenT_ex, thenT_brk, thenT_cnt, R.calm, opt_some, opt_none, binD_ii, binD_oo, binD_oi, binD_io, negD, tstD, cmpV, blD, biV, attrD, callD, bindD, methF, ownM, intB_add, intB_sub, intB_mul, intB_fdiv, intB_mod, dun, rdun, dNeg, dEq, dBool, startD, idxD, slcD, Mir.atI, Mir.ixN, items, biD, truD, isD, kdD, isK, cmpD, cmpInt, eqD, flat2, setI, setAt, putA, parD, List.lookup_cons, List.lookup_nil, strD, mlstD, appD, fits, sz, walkD, walkL, out_ret, out_ret0, out_nxt0, guardO_pos, mth_0_4, q0, q1, q2]
  · simp [b44, exSs, exS, evE, evEs, evO, evAnd, evOr, evT, evTA, evTO, evIfs, evIt, evTg, evTgs, evStr, ↓bind_t, ↓toO_t, ↓then_t, ↓forD_t, ↓whlD_t, ↓compD_t, bindT_ok, bindT_ex, toOT_ok, toOT_ex, thenT_nxt, thenT_ret, thenT_ex, thenT_brk, thenT_cnt, R.calm, opt_some, opt_none, binD_ii, binD_oo, binD_oi, binD_io, negD, tstD, cmpV, blD, biV, attrD, callD, bindD, methF, ownM, intB_add, intB_sub, intB_mul, intB_fdiv, intB_mod, dun, rdun, dNeg, dEq, dBool, startD, idxD, slcD, Mir.atI, Mir.ixN, items, biD, truD, isD, kdD, isK, cmpD, cmpInt, eqD, flat2, setI, setAt, putA, parD, List.lookup_cons, List.lookup_nil, strD, mlstD, appD, fits, sz, walkD, walkL, out_ret, out_ret0, out_nxt0, guardO_pos, mth_0_4, q3]
  · simp [b44, exSs, exS, evE, evEs, evO, evAnd, evOr, evT, evTA, evTO, evIfs, evIt, evTg, evTgs, evStr, ↓bind_t, ↓toO_t, ↓then_t, ↓forD_t, ↓whlD_t, ↓compD_t, bindT_ok, bindT_ex, toOT_ok, toOT_ex, thenT_nxt, thenT_ret, thenT_ex, thenT_brk, thenT_cnt, R.calm, opt_some, opt_none, binD_ii, binD_oo, binD_oi, binD_io, negD, tstD, cmpV, blD, biV, attrD, callD, bindD, methF, ownM, intB_add, intB_sub, intB_mul, intB_fdiv, intB_mod, dun, rdun, dNeg, dEq, dBool, startD, idxD, slcD, Mir.atI, Mir.ixN, items, biD, truD, isD, kdD, isK, cmpD, cmpInt, eqD, flat2, setI, setAt, putA, parD, List.lookup_cons, List.lookup_nil, strD, mlstD, appD, fits, sz, walkD, walkL, out_ret, out_ret0, out_nxt0, guardO_pos, mth_0_4, q5]
  · simp [b44, exSs, exS, evE, evEs, evO, evAnd, evOr, evT, evTA, evTO, evIfs, evIt, evTg, evTgs, evStr, ↓bind_t, ↓toO_t, ↓then_t, ↓forD_t, ↓whlD_t, ↓compD_t, bindT_ok, bindT_ex, toOT_ok, toOT_ex, thenT_nxt, thenT_ret, thenT_ex, thenT_brk, thenT_cnt, R.calm, opt_some, opt_none, binD_ii, binD_oo, binD_oi, binD_io, negD, tstD, cmpV, blD, biV, attrD, callD, bindD, methF, ownM, intB_add, intB_sub, intB_mul, intB_fdiv, intB_mod, dun, rdun, dNeg, dEq, dBool, startD, idxD, slcD, Mir.atI, Mir.ixN, items, biD, truD, isD, kdD, isK, cmpD, cmpInt, eqD, flat2, setI, setAt, putA, parD, List.lookup_cons, List.lookup_nil, strD, mlstD, appD, fits, sz, walkD, walkL, out_ret, out_ret0, out_nxt0, guardO_pos, mth_0_4, q9]
  · have q64 := fun k => powD k st h (n := 64) (e := 64) (.inr ⟨rfl, hc1⟩) rfl
    simp [b44, exSs, exS, evE, evEs, evO, evAnd, evOr, evT, evTA, evTO, evIfs, evIt, evTg, evTgs, evStr, ↓bind_t, ↓toO_t, ↓then_t, ↓forD_t, ↓whlD_t, ↓compD_t, bindT_ok, bindT_ex, toOT_ok, toOT_ex, thenT_nxt, thenT_ret, thenT_ex, thenT_brk, thenT_cnt, R.calm, opt_some, opt_none, binD_ii, binD_oo, binD_oi, binD_io, negD, tstD, cmpV, blD, biV, attrD, callD, bindD, methF, ownM, intB_add, intB_sub, intB_mul, intB_fdiv, intB_mod, dun, rdun, dNeg, dEq, dBool, startD, idxD, slcD, Mir.atI, Mir.ixN, items, biD, truD, isD, kdD, isK, cmpD, cmpInt, eqD, flat2, setI, setAt, putA, parD, List.lookup_cons, List.lookup_nil, strD, mlstD, appD, fits, sz, walkD, walkL, out_ret, out_ret0, out_nxt0, guardO_pos, mth_0_4, q64]
theorem bd80 {a b : Int} (ha : In24 a) (hb : In24 b) : Bd 80 (a, b) := by
  unfold In24 at *
  constructor <;> dsimp only <;> omega
theorem bd1 (a b : Int) : Bd 1 (a % 5 - 2, b % 5 - 2) := by
  constructor <;> dsimp only <;> omega
theorem in24_of {a : Int} (h : -(10 ^ 24) < a) (h2 : a < 10 ^ 24) : In24 a := ⟨h, h2⟩
theorem powS (k : Nat) {a b : Int} (st : Sto) {c n : Nat} {e : Int} (h : Bd c (a, b)) (hE : Ex n c) (he : e = n) :
    run P.T (k + 8) 44 [gO a b, .int e] st = .ok (gO (gp (a, b) n).1 (gp (a, b) n).2) st ∧ run P.T (k + 6) 24 [gO a b, .int e] st = .ok (gO (gp (a, b) n).1 (gp (a, b) n).2) st ∧
    run P.T (k + 2) 41 [.tup [.int a, .int b], .int e] st = .ok (.tup [.int (gp (a, b) n).1, .int (gp (a, b) n).2]) st := by
  refine ⟨bysign k st h hE he, power k st h hE he, ?_⟩
  subst he
  have hn : n ≤ 64 := by unfold Ex at hE; omega
  have hc : c ≤ 80 := by unfold Ex at hE; omega
  have := raised k (a, b) (n : Int) st c h (by omega) (by omega) (by
    rw [Int.toNat_natCast]
    rcases hE with ⟨hE, h80⟩ | ⟨rfl, h1⟩
    · have l1 : n ≤ 9 := by omega
      exact Nat.le_trans (Nat.mul_le_mul l1 (show c + 2 ≤ 82 by omega)) (by decide)
    · exact Nat.le_trans (Nat.mul_le_mul (Nat.le_refl 64) (show c + 2 ≤ 3 by omega)) (by decide)) (by omega)
  rwa [Int.toNat_natCast] at this
theorem div7 : divOk 41 = true ∧ divOk 4 = true ∧ divOk 7 = true := by decide
theorem right (k : Nat) {st : Sto} {p : Nat} {c : Int} (h : Pot st p c) (hc : c < 1000) : ∃ st', run P.T (k + 9) 45 [.mref p] st = .ok (.bl true) st' ∧ st'.length = st.length := by
  obtain ⟨a, b, st1, e1, a1, a2, b1, b2, h1, l1⟩ := drawn (k + 5) h (by omega)
  obtain ⟨c2, d, st2, e2, c1, c3, d1, d2, h2, l2⟩ := drawn (k + 5) h1 (by omega)
  obtain ⟨v, st3, e3, v1, v2, h3, l3⟩ := take (k + 7) h2 (m := 41) (by omega) div7.1 (by omega)
  obtain ⟨D', st4, e4, hD, h4, l4⟩ := pick (k + 6) h3 (ds := [.int 0, .int 1, .int 2, .int 3, .int 5, .int 9, .int 64]) (by decide) div7.2.2 (by omega)
  obtain ⟨u, st5, e5, u1, u2, h5, l5⟩ := take (k + 7) h4 (m := 4) (by omega) div7.2.1 (by omega)
  have A := in24_of a1 a2
  have B := in24_of b1 b2
  have C := in24_of c1 c3
  have D2 := in24_of d1 d2
  have O : In24 (v - 20) := by unfold In24; omega
  obtain ⟨e, n, rfl, he, hn⟩ : ∃ (e : Int) (n : Nat), D' = .int e ∧ e = n ∧ (n = 0 ∨ n = 1 ∨ n = 2 ∨ n = 3 ∨ n = 5 ∨ n = 9 ∨ n = 64) := by
    simp only [List.mem_cons, List.not_mem_nil, or_false] at hD
    rcases hD with h | h | h | h | h | h | h
    · exact ⟨0, 0, h, rfl, by simp⟩
    · exact ⟨1, 1, h, rfl, by simp⟩
    · exact ⟨2, 2, h, rfl, by simp⟩
    · exact ⟨3, 3, h, rfl, by simp⟩
    · exact ⟨5, 5, h, rfl, by simp⟩
    · exact ⟨9, 9, h, rfl, by simp⟩
    · exact ⟨64, 64, h, rfl, by simp⟩
  have r1 := fun k => reckoned k st5 A B C D2 O
  have r2 := fun k => reckoned k st5 A B A B O
  have q1 := fun k => asked k st5 A B C D2 O
  have q2 := fun k => asked k st5 A B A B O
  refine ⟨st5, ?_, by omega⟩
  rw [run_succ _ _ _ _ _ fn_45 rfl]
  by_cases n64 : n = 64
  · subst n64
    have he' : e = 64 := he
    subst he'
    have w1 := fun k => (powS k st5 (bd1 a b) (n := 64) (e := 64) (.inr ⟨rfl, Nat.le_refl _⟩) rfl).1
    have w2 := fun k => (powS k st5 (bd1 a b) (n := 64) (e := 64) (.inr ⟨rfl, Nat.le_refl _⟩) rfl).2.1
    have w3 := fun k => (powS k st5 (bd1 a b) (n := 64) (e := 64) (.inr ⟨rfl, Nat.le_refl _⟩) rfl).2.2
    by_cases u0 : u = 0
    · simp [b45, exSs, exS, evE, evEs, evO, evAnd, evOr, evT, evTA, evTO, evIfs, evIt, evTg, evTgs, evStr, ↓bind_t, ↓toO_t, ↓then_t, ↓forD_t, ↓whlD_t, ↓compD_t, bindT_ok, bindT_ex, toOT_ok, toOT_ex, thenT_nxt, thenT_ret, thenT_ex, thenT_brk, thenT_cnt, R.calm, opt_some, opt_none, binD_ii, binD_oo, binD_oi, binD_io, negD, tstD, cmpV, blD, biV, attrD, callD, bindD, methF, ownM, intB_add, intB_sub, intB_mul, intB_fdiv, intB_mod, dun, rdun, dNeg, dEq, dBool, startD, idxD, slcD, Mir.atI, Mir.ixN, items, biD, truD, isD, kdD, isK, cmpD, cmpInt, eqD, flat2, setI, setAt, putA, parD, List.lookup_cons, List.lookup_nil, strD, mlstD, appD, fits, sz, walkD, walkL, out_ret, out_ret0, out_nxt0, guardO_pos, shp_39_0, shp_29_1, shp_30_1, shp_42_2, shp_43_2, shp_41_1, shp_44_1, shp_40_1, shp_24_1, shp_24_8, mth_0_29, e1, e2, e3, e4, e5, u0, r2, q2, w1, w2, w3, mk2, lis, l1, l2, l3, l4, l5]
    · simp [b45, exSs, exS, evE, evEs, evO, evAnd, evOr, evT, evTA, evTO, evIfs, evIt, evTg, evTgs, evStr, ↓bind_t, ↓toO_t, ↓then_t, ↓forD_t, ↓whlD_t, ↓compD_t, bindT_ok, bindT_ex, toOT_ok, toOT_ex, thenT_nxt, thenT_ret, thenT_ex, thenT_brk, thenT_cnt, R.calm, opt_some, opt_none, binD_ii, binD_oo, binD_oi, binD_io, negD, tstD, cmpV, blD, biV, attrD, callD, bindD, methF, ownM, intB_add, intB_sub, intB_mul, intB_fdiv, intB_mod, dun, rdun, dNeg, dEq, dBool, startD, idxD, slcD, Mir.atI, Mir.ixN, items, biD, truD, isD, kdD, isK, cmpD, cmpInt, eqD, flat2, setI, setAt, putA, parD, List.lookup_cons, List.lookup_nil, strD, mlstD, appD, fits, sz, walkD, walkL, out_ret, out_ret0, out_nxt0, guardO_pos, shp_39_0, shp_29_1, shp_30_1, shp_42_2, shp_43_2, shp_41_1, shp_44_1, shp_40_1, shp_24_1, shp_24_8, mth_0_29, e1, e2, e3, e4, e5, u0, r1, q1, w1, w2, w3, mk2, lis, l1, l2, l3, l4, l5]
  · have ne : ¬ e = 64 := by omega
    have hE : Ex n 80 := .inl ⟨by omega, Nat.le_refl _⟩
    have w1 := fun k => (powS k st5 (bd80 A B) hE he).1
    have w2 := fun k => (powS k st5 (bd80 A B) hE he).2.1
    have w3 := fun k => (powS k st5 (bd80 A B) hE he).2.2
    by_cases u0 : u = 0
    · simp [b45, exSs, exS, evE, evEs, evO, evAnd, evOr, evT, evTA, evTO, evIfs, evIt, evTg, evTgs, evStr, ↓bind_t, ↓toO_t, ↓then_t, ↓forD_t, ↓whlD_t, ↓compD_t, bindT_ok, bindT_ex, toOT_ok, toOT_ex, thenT_nxt, thenT_ret, thenT_ex, thenT_brk, thenT_cnt, R.calm, opt_some, opt_none, binD_ii, binD_oo, binD_oi, binD_io, negD, tstD, cmpV, blD, biV, attrD, callD, bindD, methF, ownM, intB_add, intB_sub, intB_mul, intB_fdiv, intB_mod, dun, rdun, dNeg, dEq, dBool, startD, idxD, slcD, Mir.atI, Mir.ixN, items, biD, truD, isD, kdD, isK, cmpD, cmpInt, eqD, flat2, setI, setAt, putA, parD, List.lookup_cons, List.lookup_nil, strD, mlstD, appD, fits, sz, walkD, walkL, out_ret, out_ret0, out_nxt0, guardO_pos, shp_39_0, shp_29_1, shp_30_1, shp_42_2, shp_43_2, shp_41_1, shp_44_1, shp_40_1, shp_24_1, shp_24_8, mth_0_29, e1, e2, e3, e4, e5, u0, ne, r2, q2, w1, w2, w3, mk2, lis, l1, l2, l3, l4, l5]
    · simp [b45, exSs, exS, evE, evEs, evO, evAnd, evOr, evT, evTA, evTO, evIfs, evIt, evTg, evTgs, evStr, ↓bind_t, ↓toO_t, ↓then_t, ↓forD_t, ↓whlD_t, ↓compD_t, bindT_ok, bindT_ex, toOT_ok, toOT_ex, thenT_nxt, thenT_ret, thenT_ex, thenT_brk, thenT_cnt, R.calm, opt_some, opt_none, binD_ii, binD_oo, binD_oi, binD_io, negD, tstD, cmpV, blD, biV, attrD, callD, bindD, methF, ownM, intB_add, intB_sub, intB_mul, intB_fdiv, intB_mod, dun, rdun, dNeg, dEq, dBool, startD, idxD, slcD, Mir.atI, Mir.ixN, items, biD, truD, isD, kdD, isK, cmpD, cmpInt, eqD, flat2, setI, setAt, putA, parD, List.lookup_cons, List.lookup_nil, strD, mlstD, appD, fits, sz, walkD, walkL, out_ret, out_ret0, out_nxt0, guardO_pos, shp_39_0, shp_29_1, shp_30_1, shp_42_2, shp_43_2, shp_41_1, shp_44_1, shp_40_1, shp_24_1, shp_24_8, mth_0_29, e1, e2, e3, e4, e5, u0, ne, r1, q1, w1, w2, w3, mk2, lis, l1, l2, l3, l4, l5]
end K02

set_option Elab.async false
set_option linter.all false
set_option maxRecDepth 1000000
set_option maxHeartbeats 8000000
set_option exponentiation.threshold 2000
namespace K02
open PySem Mir
theorem pot_loop (cd : Cd) (A B : Option D) (st : Sto) : ∀ (xs : List Int) (s : Int) (t : Option D), 0 ≤ s → s < 2147483579 →
    ∃ s' t', 0 ≤ s' ∧ s' < 2147483579 ∧ forD (fun _ => True) (fun d σ st => evTg P.T cd (.name 3) d σ st) (fun σ st => exSs P.T cd [(.asg (.name 2) (.bin .Mod (.bi .int [(.bin .Add (.bin .Add (.bin .Mult (.var 2) (.lit (.int 52361))) (.bi .int [(.var 3)])) (.lit (.int 17)))]) (.lit (.int 2147483579))))] σ st) (xs.map .int)
      [A, B, some (.int s), t, none] st = .nxt [A, B, some (.int s'), t', none] st := by
  intro xs
  induction xs with
  | nil =>
    intro s t h1 h2
    exact ⟨s, t, h1, h2, by simp [forD]⟩
  | cons x xs ih =>
    intro s t h1 h2
    have m1 : mulOk s 52361 = true := mulOk_of (big1000 (by omega) (by omega)) (by decide)
    obtain ⟨s', t', a, b, e⟩ := ih ((s * 52361 + x + 17) % 2147483579) (some (.int x)) (emod_b (by decide)).1 (emod_b (by decide)).2
    refine ⟨s', t', a, b, ?_⟩
    have hb : exSs P.T cd [(.asg (.name 2) (.bin .Mod (.bi .int [(.bin .Add (.bin .Add (.bin .Mult (.var 2) (.lit (.int 52361))) (.bi .int [(.var 3)])) (.lit (.int 17)))]) (.lit (.int 2147483579))))] [A, B, some (.int s), some (.int x), none] st = .nxt [A, B, some (.int ((s * 52361 + x + 17) % 2147483579)), some (.int x), none] st := by
      simp [exSs, exS, evE, evEs, evO, evAnd, evOr, evT, evTA, evTO, evIfs, evIt, evTg, evTgs, evStr, ↓bind_t, ↓toO_t, ↓then_t, ↓forD_t, ↓whlD_t, ↓compD_t, bindT_ok, bindT_ex, toOT_ok, toOT_ex, thenT_nxt, thenT_ret, thenT_ex, thenT_brk, thenT_cnt, R.calm, opt_some, opt_none, binD_ii, binD_oo, binD_oi, binD_io, negD, tstD, cmpV, blD, biV, attrD, callD, bindD, methF, ownM, intB_add, intB_sub, intB_mul, intB_fdiv, intB_mod, dun, rdun, dNeg, dEq, dBool, startD, idxD, slcD, Mir.atI, Mir.ixN, items, biD, truD, isD, kdD, isK, cmpD, cmpInt, eqD, flat2, setI, setAt, putA, parD, List.lookup_cons, List.lookup_nil, strD, mlstD, appD, fits, sz, walkD, walkL, out_ret, out_ret0, out_nxt0, guardO_pos, m1]
    have ht : evTg P.T cd (.name 3) (.int x) [A, B, some (.int s), t, none] st = .ok [A, B, some (.int s), some (.int x), none] st := by simp only [evTg]; rfl
    show forD _ _ _ (.int x :: xs.map .int) _ _ = _
    rw [forD, if_pos trivial, ht, toO_ok, hb]
    exact e
theorem cut_map (ns : List Int) (lo hi : Option Int) : cut (ns.map D.int) lo hi = (cut ns lo hi).map D.int := by
  unfold cut
  simp [List.map_take, List.map_drop]
theorem pot (k : Nat) (ns : List Int) (i : Int) (st : Sto) (h0 : 0 ≤ i) (h1 : i < 3) (hl : ns.length ≤ 63) :
    ∃ l, run P.T (k + 1) 28 [.scr (ns.map .int), .int i] st = .ok (.mref st.length) (st ++ [l]) ∧ Pot (st ++ [l]) st.length 0 := by
  have m0 : mulOk 919 i = true := mulOk_of (by decide) (big1000 (by omega) (by omega))
  obtain ⟨s', t', a, b, e⟩ := pot_loop (run P.T k) (some (.scr (ns.map .int))) (some (.int i)) st (cut ns none (some 12)) (50021 + 919 * i) none (by omega) (by omega)
  have m2 : mulOk s' 31 = true := mulOk_of (big1000 (by omega) (by omega)) (by decide)
  have own : ∃ o : Int, 0 ≤ o ∧ exS P.T (run P.T k) (.asg (.name 4) (.ife (.cmp .Lt (.var 1) (.bi .len [(.var 0)])) (.bi .abs [(.bi .int [(.idx (.var 0) (.var 1))])]) (.lit (.int 0)))) [some (.scr (ns.map .int)), some (.int i), some (.int s'), t', none] st = .nxt [some (.scr (ns.map .int)), some (.int i), some (.int s'), t', some (.int o)] st := by
    by_cases c : i.toNat < ns.length
    · have c2 : i < (ns.length : Int) := by omega
      refine ⟨if ns[i.toNat] < 0 then -ns[i.toNat] else ns[i.toNat], by split <;> omega, ?_⟩
      simp [exSs, exS, evE, evEs, evO, evAnd, evOr, evT, evTA, evTO, evIfs, evIt, evTg, evTgs, evStr, ↓bind_t, ↓toO_t, ↓then_t, ↓forD_t, ↓whlD_t, ↓compD_t, bindT_ok, bindT_ex, toOT_ok, toOT_ex, thenT_nxt, thenT_ret, thenT_ex, thenT_brk, thenT_cnt, R.calm, opt_some, opt_none, binD_ii, binD_oo, binD_oi, binD_io, negD, tstD, cmpV, blD, biV, attrD, callD, bindD, methF, ownM, intB_add, intB_sub, intB_mul, intB_fdiv, intB_mod, dun, rdun, dNeg, dEq, dBool, startD, idxD, slcD, Mir.atI, Mir.ixN, items, biD, truD, isD, kdD, isK, cmpD, cmpInt, eqD, flat2, setI, setAt, putA, parD, List.lookup_cons, List.lookup_nil, strD, mlstD, appD, fits, sz, walkD, walkL, out_ret, out_ret0, out_nxt0, guardO_pos, c2, h0, c]
    · have c2 : ¬ i < (ns.length : Int) := by omega
      refine ⟨0, by decide, ?_⟩
      simp [exSs, exS, evE, evEs, evO, evAnd, evOr, evT, evTA, evTO, evIfs, evIt, evTg, evTgs, evStr, ↓bind_t, ↓toO_t, ↓then_t, ↓forD_t, ↓whlD_t, ↓compD_t, bindT_ok, bindT_ex, toOT_ok, toOT_ex, thenT_nxt, thenT_ret, thenT_ex, thenT_brk, thenT_cnt, R.calm, opt_some, opt_none, binD_ii, binD_oo, binD_oi, binD_io, negD, tstD, cmpV, blD, biV, attrD, callD, bindD, methF, ownM, intB_add, intB_sub, intB_mul, intB_fdiv, intB_mod, dun, rdun, dNeg, dEq, dBool, startD, idxD, slcD, Mir.atI, Mir.ixN, items, biD, truD, isD, kdD, isK, cmpD, cmpInt, eqD, flat2, setI, setAt, putA, parD, List.lookup_cons, List.lookup_nil, strD, mlstD, appD, fits, sz, walkD, walkL, out_ret, out_ret0, out_nxt0, guardO_pos, c2]
  obtain ⟨o, ho, eo⟩ := own
  have om := emod_b (a := o) (m := 2147483549) (by decide)
  have m3 : mulOk (o % 2147483549) 7919 = true := mulOk_of (big1000 (by omega) (by omega)) (by decide)
  have s1 : exS P.T (run P.T k) (.asg (.name 2) (.bin .Add (.lit (.int 50021)) (.bin .Mult (.lit (.int 919)) (.var 1)))) [some (.scr (ns.map .int)), some (.int i), none, none, none] st = .nxt [some (.scr (ns.map .int)), some (.int i), some (.int (50021 + 919 * i)), none, none] st := by simp [exSs, exS, evE, evEs, evO, evAnd, evOr, evT, evTA, evTO, evIfs, evIt, evTg, evTgs, evStr, ↓bind_t, ↓toO_t, ↓then_t, ↓forD_t, ↓whlD_t, ↓compD_t, bindT_ok, bindT_ex, toOT_ok, toOT_ex, thenT_nxt, thenT_ret, thenT_ex, thenT_brk, thenT_cnt, R.calm, opt_some, opt_none, binD_ii, binD_oo, binD_oi, binD_io, negD, tstD, cmpV, blD, biV, attrD, callD, bindD, methF, ownM, intB_add, intB_sub, intB_mul, intB_fdiv, intB_mod, dun, rdun, dNeg, dEq, dBool, startD, idxD, slcD, Mir.atI, Mir.ixN, items, biD, truD, isD, kdD, isK, cmpD, cmpInt, eqD, flat2, setI, setAt, putA, parD, List.lookup_cons, List.lookup_nil, strD, mlstD, appD, fits, sz, walkD, walkL, out_ret, out_ret0, out_nxt0, guardO_pos, m0]
  have s2 : exS P.T (run P.T k) (.for_ (.name 3) (.val (.slc (.var 0) none (some (.lit (.int 12))))) [(.asg (.name 2) (.bin .Mod (.bi .int [(.bin .Add (.bin .Add (.bin .Mult (.var 2) (.lit (.int 52361))) (.bi .int [(.var 3)])) (.lit (.int 17)))]) (.lit (.int 2147483579))))]) [some (.scr (ns.map .int)), some (.int i), some (.int (50021 + 919 * i)), none, none] st = .nxt [some (.scr (ns.map .int)), some (.int i), some (.int s'), t', none] st := by
    have hit : evIt P.T (run P.T k) (.val (.slc (.var 0) none (some (.lit (.int 12))))) [some (.scr (ns.map .int)), some (.int i), some (.int (50021 + 919 * i)), none, none] st = .ok ((cut ns none (some 12)).map .int, fun _ => True) st := by simp [exSs, exS, evE, evEs, evO, evAnd, evOr, evT, evTA, evTO, evIfs, evIt, evTg, evTgs, evStr, ↓bind_t, ↓toO_t, ↓then_t, ↓forD_t, ↓whlD_t, ↓compD_t, bindT_ok, bindT_ex, toOT_ok, toOT_ex, thenT_nxt, thenT_ret, thenT_ex, thenT_brk, thenT_cnt, R.calm, opt_some, opt_none, binD_ii, binD_oo, binD_oi, binD_io, negD, tstD, cmpV, blD, biV, attrD, callD, bindD, methF, ownM, intB_add, intB_sub, intB_mul, intB_fdiv, intB_mod, dun, rdun, dNeg, dEq, dBool, startD, idxD, slcD, Mir.atI, Mir.ixN, items, biD, truD, isD, kdD, isK, cmpD, cmpInt, eqD, flat2, setI, setAt, putA, parD, List.lookup_cons, List.lookup_nil, strD, mlstD, appD, fits, sz, walkD, walkL, out_ret, out_ret0, out_nxt0, guardO_pos, cut_map]
    simp only [exS]
    rw [hit, toO_ok]
    exact e
  have s4 : ∃ l, exS P.T (run P.T k) (.ret (.lstO [(.ife (.cmp .GtE (.var 4) (.bin .Pow (.lit (.int 10)) (.lit (.int 18)))) (.var 4) (.lit (.int 0))), (.bin .Mod (.bi .int [(.bin .Add (.bin .Mult (.var 2) (.lit (.int 31))) (.bin .Mult (.bin .Mod (.bi .int [(.var 4)]) (.lit (.int 2147483549))) (.lit (.int 7919))))]) (.lit (.int 2147483579))), (.lit (.int 0))])) [some (.scr (ns.map .int)), some (.int i), some (.int s'), t', some (.int o)] st = .ret (.mref st.length) (st ++ [l]) ∧ Pot (st ++ [l]) st.length 0 := by
    have pm := emod_b (a := s' * 31 + o % 2147483549 * 7919) (m := 2147483579) (by decide)
    by_cases c : 1000000000000000000 ≤ o
    · refine ⟨.lst [.int o, .int ((s' * 31 + o % 2147483549 * 7919) % 2147483579), .int 0], ?_, ?_⟩
      · simp [exSs, exS, evE, evEs, evO, evAnd, evOr, evT, evTA, evTO, evIfs, evIt, evTg, evTgs, evStr, ↓bind_t, ↓toO_t, ↓then_t, ↓forD_t, ↓whlD_t, ↓compD_t, bindT_ok, bindT_ex, toOT_ok, toOT_ex, thenT_nxt, thenT_ret, thenT_ex, thenT_brk, thenT_cnt, R.calm, opt_some, opt_none, binD_ii, binD_oo, binD_oi, binD_io, negD, tstD, cmpV, blD, biV, attrD, callD, bindD, methF, ownM, intB_add, intB_sub, intB_mul, intB_fdiv, intB_mod, dun, rdun, dNeg, dEq, dBool, startD, idxD, slcD, Mir.atI, Mir.ixN, items, biD, truD, isD, kdD, isK, cmpD, cmpInt, eqD, flat2, setI, setAt, putA, parD, List.lookup_cons, List.lookup_nil, strD, mlstD, appD, fits, sz, walkD, walkL, out_ret, out_ret0, out_nxt0, guardO_pos, pow18, c, m2, m3]
      · exact ⟨o, _, 0, by simp, ho, pm.1, pm.2, by decide, by decide⟩
    · refine ⟨.lst [.int 0, .int ((s' * 31 + o % 2147483549 * 7919) % 2147483579), .int 0], ?_, ?_⟩
      · simp [exSs, exS, evE, evEs, evO, evAnd, evOr, evT, evTA, evTO, evIfs, evIt, evTg, evTgs, evStr, ↓bind_t, ↓toO_t, ↓then_t, ↓forD_t, ↓whlD_t, ↓compD_t, bindT_ok, bindT_ex, toOT_ok, toOT_ex, thenT_nxt, thenT_ret, thenT_ex, thenT_brk, thenT_cnt, R.calm, opt_some, opt_none, binD_ii, binD_oo, binD_oi, binD_io, negD, tstD, cmpV, blD, biV, attrD, callD, bindD, methF, ownM, intB_add, intB_sub, intB_mul, intB_fdiv, intB_mod, dun, rdun, dNeg, dEq, dBool, startD, idxD, slcD, Mir.atI, Mir.ixN, items, biD, truD, isD, kdD, isK, cmpD, cmpInt, eqD, flat2, setI, setAt, putA, parD, List.lookup_cons, List.lookup_nil, strD, mlstD, appD, fits, sz, walkD, walkL, out_ret, out_ret0, out_nxt0, guardO_pos, pow18, c, m2, m3]
      · exact ⟨0, _, 0, by simp, by decide, pm.1, pm.2, by decide, by decide⟩
  obtain ⟨l, e4, hp⟩ := s4
  refine ⟨l, ?_, hp⟩
  rw [run_succ _ _ _ _ _ fn_28 rfl]
  show outD true st (exSs P.T (run P.T k) b28 [some (.scr (ns.map .int)), some (.int i), none, none, none] st) = _
  unfold b28
  simp only [exSs]
  rw [s1, then_nxt, s2, then_nxt, eo, then_nxt, e4, then_ret]
  exact out_ret
theorem rounds (k : Nat) (ns : List Int) (st : Sto) : ∃ r : Int, run P.T (k + 1) 31 [.scr (ns.map .int)] st = .ok (.int r) st ∧ 0 ≤ r ∧ r ≤ 3 := by
  by_cases c : (3 : Int) < ns.length
  · refine ⟨3, ?_, by decide, by decide⟩
    rw [run_succ _ _ _ _ _ fn_31 rfl]
    simp [b31, exSs, exS, evE, evEs, evO, evAnd, evOr, evT, evTA, evTO, evIfs, evIt, evTg, evTgs, evStr, ↓bind_t, ↓toO_t, ↓then_t, ↓forD_t, ↓whlD_t, ↓compD_t, bindT_ok, bindT_ex, toOT_ok, toOT_ex, thenT_nxt, thenT_ret, thenT_ex, thenT_brk, thenT_cnt, R.calm, opt_some, opt_none, binD_ii, binD_oo, binD_oi, binD_io, negD, tstD, cmpV, blD, biV, attrD, callD, bindD, methF, ownM, intB_add, intB_sub, intB_mul, intB_fdiv, intB_mod, dun, rdun, dNeg, dEq, dBool, startD, idxD, slcD, Mir.atI, Mir.ixN, items, biD, truD, isD, kdD, isK, cmpD, cmpInt, eqD, flat2, setI, setAt, putA, parD, List.lookup_cons, List.lookup_nil, strD, mlstD, appD, fits, sz, walkD, walkL, out_ret, out_ret0, out_nxt0, guardO_pos, c]
  · by_cases c2 : (2 : Int) < ns.length
    · refine ⟨ns.length, ?_, by omega, by omega⟩
      rw [run_succ _ _ _ _ _ fn_31 rfl]
      simp [b31, exSs, exS, evE, evEs, evO, evAnd, evOr, evT, evTA, evTO, evIfs, evIt, evTg, evTgs, evStr, ↓bind_t, ↓toO_t, ↓then_t, ↓forD_t, ↓whlD_t, ↓compD_t, bindT_ok, bindT_ex, toOT_ok, toOT_ex, thenT_nxt, thenT_ret, thenT_ex, thenT_brk, thenT_cnt, R.calm, opt_some, opt_none, binD_ii, binD_oo, binD_oi, binD_io, negD, tstD, cmpV, blD, biV, attrD, callD, bindD, methF, ownM, intB_add, intB_sub, intB_mul, intB_fdiv, intB_mod, dun, rdun, dNeg, dEq, dBool, startD, idxD, slcD, Mir.atI, Mir.ixN, items, biD, truD, isD, kdD, isK, cmpD, cmpInt, eqD, flat2, setI, setAt, putA, parD, List.lookup_cons, List.lookup_nil, strD, mlstD, appD, fits, sz, walkD, walkL, out_ret, out_ret0, out_nxt0, guardO_pos, c, c2]
    · refine ⟨2, ?_, by decide, by decide⟩
      rw [run_succ _ _ _ _ _ fn_31 rfl]
      simp [b31, exSs, exS, evE, evEs, evO, evAnd, evOr, evT, evTA, evTO, evIfs, evIt, evTg, evTgs, evStr, ↓bind_t, ↓toO_t, ↓then_t, ↓forD_t, ↓whlD_t, ↓compD_t, bindT_ok, bindT_ex, toOT_ok, toOT_ex, thenT_nxt, thenT_ret, thenT_ex, thenT_brk, thenT_cnt, R.calm, opt_some, opt_none, binD_ii, binD_oo, binD_oi, binD_io, negD, tstD, cmpV, blD, biV, attrD, callD, bindD, methF, ownM, intB_add, intB_sub, intB_mul, intB_fdiv, intB_mod, dun, rdun, dNeg, dEq, dBool, startD, idxD, slcD, Mir.atI, Mir.ixN, items, biD, truD, isD, kdD, isK, cmpD, cmpInt, eqD, flat2, setI, setAt, putA, parD, List.lookup_cons, List.lookup_nil, strD, mlstD, appD, fits, sz, walkD, walkL, out_ret, out_ret0, out_nxt0, guardO_pos, c, c2]
end K02

set_option Elab.async false
set_option linter.all false
set_option maxRecDepth 1000000
set_option maxHeartbeats 8000000
set_option exponentiation.threshold 2000
namespace K02
open PySem Mir
theorem law_loop (k : Nat) (ns : List Int) (hl : ns.length ≤ 63) : ∀ (n : Nat) (i : Int) (st : Sto) (t : Option D), 0 ≤ i → i + n ≤ 3 →
    ∃ t' st', forD (fun _ => True) (fun d σ st => evTg P.T (run P.T (k + 9)) (.name 1) d σ st) (fun σ st => exSs P.T (run P.T (k + 9)) [(.ifs (.notE (.call 45 [(.call 28 [(.var 0), (.var 1)] 1)] 0)) [(.ret (.lit (.bl false)))] [])] σ st) (rngI i n)
      [some (.scr (ns.map .int)), t] st = .nxt [some (.scr (ns.map .int)), t'] st' := by
  intro n
  induction n with
  | zero => exact fun i st t _ _ => ⟨t, st, by simp [rngI, forD]⟩
  | succ n ih =>
    intro i st t h0 h1
    obtain ⟨l, e1, hp⟩ := pot (k + 8) ns i st h0 (by omega) hl
    obtain ⟨st', e2, _⟩ := right k hp (by decide)
    obtain ⟨t', st2, e⟩ := ih (i + 1) st' (some (.int i)) (by omega) (by omega)
    refine ⟨t', st2, ?_⟩
    have hb : exSs P.T (run P.T (k + 9)) [(.ifs (.notE (.call 45 [(.call 28 [(.var 0), (.var 1)] 1)] 0)) [(.ret (.lit (.bl false)))] [])] [some (.scr (ns.map .int)), some (.int i)] st = .nxt [some (.scr (ns.map .int)), some (.int i)] st' := by
      simp [exSs, exS, evE, evEs, evO, evAnd, evOr, evT, evTA, evTO, evIfs, evIt, evTg, evTgs, evStr, ↓bind_t, ↓toO_t, ↓then_t, ↓forD_t, ↓whlD_t, ↓compD_t, bindT_ok, bindT_ex, toOT_ok, toOT_ex, thenT_nxt, thenT_ret, thenT_ex, thenT_brk, thenT_cnt, R.calm, opt_some, opt_none, binD_ii, binD_oo, binD_oi, binD_io, negD, tstD, cmpV, blD, biV, attrD, callD, bindD, methF, ownM, intB_add, intB_sub, intB_mul, intB_fdiv, intB_mod, dun, rdun, dNeg, dEq, dBool, startD, idxD, slcD, Mir.atI, Mir.ixN, items, biD, truD, isD, kdD, isK, cmpD, cmpInt, eqD, flat2, setI, setAt, putA, parD, List.lookup_cons, List.lookup_nil, strD, mlstD, appD, fits, sz, walkD, walkL, out_ret, out_ret0, out_nxt0, guardO_pos, shp_45_0, shp_28_1, e1, e2]
    have ht : evTg P.T (run P.T (k + 9)) (.name 1) (.int i) [some (.scr (ns.map .int)), t] st = .ok [some (.scr (ns.map .int)), some (.int i)] st := by simp only [evTg]; rfl
    show forD _ _ _ (.int i :: rngI (i + 1) n) _ _ = _
    rw [forD, if_pos trivial, ht, toO_ok, hb]
    exact e
theorem law_true (ns : List Int) (hl : ns.length ≤ 63) : ∃ st, run P.T 10 46 [.scr (ns.map .int)] [] = .ok (.bl true) st := by
  obtain ⟨r, er, r0, r3⟩ := rounds 8 ns []
  obtain ⟨t', st', e⟩ := law_loop 0 ns hl r.toNat 0 [] none (by decide) (by omega)
  have s1 : exS P.T (run P.T 9) (.for_ (.name 1) (.rng1 (.call 31 [(.var 0)] 0)) [(.ifs (.notE (.call 45 [(.call 28 [(.var 0), (.var 1)] 1)] 0)) [(.ret (.lit (.bl false)))] [])]) [some (.scr (ns.map .int)), none] [] = .nxt [some (.scr (ns.map .int)), t'] st' := by
    have hit : evIt P.T (run P.T 9) (.rng1 (.call 31 [(.var 0)] 0)) [some (.scr (ns.map .int)), none] [] = .ok (rngI 0 r.toNat, fun _ => True) [] := by
      have gen : (if -(2 ^ 62) ≤ r ∧ r < 2 ^ 62 then R.ok (rngI 0 r.toNat, fun _ : Sto => True) [] else R.no) = R.ok (rngI 0 r.toNat, fun _ : Sto => True) [] := if_pos ⟨by omega, by omega⟩
      have ec : evE P.T (run P.T 9) (.call 31 [(.var 0)] 0) [some (.scr (ns.map .int)), none] [] = .ok (.int r) [] := by
        simp [exSs, exS, evE, evEs, evO, evAnd, evOr, evT, evTA, evTO, evIfs, evIt, evTg, evTgs, evStr, ↓bind_t, ↓toO_t, ↓then_t, ↓forD_t, ↓whlD_t, ↓compD_t, bindT_ok, bindT_ex, toOT_ok, toOT_ex, thenT_nxt, thenT_ret, thenT_ex, thenT_brk, thenT_cnt, R.calm, opt_some, opt_none, binD_ii, binD_oo, binD_oi, binD_io, negD, tstD, cmpV, blD, biV, attrD, callD, bindD, methF, ownM, intB_add, intB_sub, intB_mul, intB_fdiv, intB_mod, dun, rdun, dNeg, dEq, dBool, startD, idxD, slcD, Mir.atI, Mir.ixN, items, biD, truD, isD, kdD, isK, cmpD, cmpInt, eqD, flat2, setI, setAt, putA, parD, List.lookup_cons, List.lookup_nil, strD, mlstD, appD, fits, sz, walkD, walkL, out_ret, out_ret0, out_nxt0, guardO_pos, shp_31_0, er]
      rw [evIt_rng1]
      simp only [ec, R.bind_ok]
      exact gen
    simp only [exS]
    rw [hit, toO_ok]
    exact e
  have s2 : exS P.T (run P.T 9) (.ret (.lit (.bl true))) [some (.scr (ns.map .int)), t'] st' = .ret (.bl true) st' := by simp [exSs, exS, evE, evEs, evO, evAnd, evOr, evT, evTA, evTO, evIfs, evIt, evTg, evTgs, evStr, ↓bind_t, ↓toO_t, ↓then_t, ↓forD_t, ↓whlD_t, ↓compD_t, bindT_ok, bindT_ex, toOT_ok, toOT_ex, thenT_nxt, thenT_ret, thenT_ex, thenT_brk, thenT_cnt, R.calm, opt_some, opt_none, binD_ii, binD_oo, binD_oi, binD_io, negD, tstD, cmpV, blD, biV, attrD, callD, bindD, methF, ownM, intB_add, intB_sub, intB_mul, intB_fdiv, intB_mod, dun, rdun, dNeg, dEq, dBool, startD, idxD, slcD, Mir.atI, Mir.ixN, items, biD, truD, isD, kdD, isK, cmpD, cmpInt, eqD, flat2, setI, setAt, putA, parD, List.lookup_cons, List.lookup_nil, strD, mlstD, appD, fits, sz, walkD, walkL, out_ret, out_ret0, out_nxt0, guardO_pos]
  have all : run P.T 10 46 [.scr (ns.map .int)] [] = outD false [] (.ret (.bl true) st') := by
    rw [run_succ P.T 9 46 _ _ fn_46 rfl]
    show outD false [] (exSs P.T (run P.T 9) b46 [some (.scr (ns.map .int)), none] []) = _
    unfold b46
    simp only [exSs]
    rw [s1, then_nxt, s2, then_ret]
  rw [all]
  by_cases c : st'.length = 0
  · exact ⟨st', out_ret0 c⟩
  · refine ⟨st'.take 0, ?_⟩
    simp only [outD, Bool.false_eq_true, if_false]
    unfold trim
    rw [if_neg (show ¬ st'.length = ([] : Sto).length from c), if_pos ⟨rfl, Nat.zero_le _, fun m _ hm => absurd hm (Nat.not_lt_zero _)⟩]
    rfl
end K02

open PySem PySem.W PySem.Calls PyProof.Rows
set_option maxRecDepth 100000 in
set_option maxHeartbeats 8000000 in
theorem PySem.Challenge.cw_wallwalks_k02_goldens_holds : PySem.Challenge.rw_wallwalks_k02_goldens.Holds := by
  w_on; o_law
  refine HandSHeadRun.head_any (r := OpenLaw.row PySem.Challenge.rw_wallwalks_k02_goldens) (q := view (OpenLaw.row PySem.Challenge.rw_wallwalks_k02_goldens).prog [39]) (H := K02H.hk) (ob := K02H.ob) (M := 20000) (loose := K02H.loose) (d := HandSHeadRun.topDef (OpenLaw.row PySem.Challenge.rw_wallwalks_k02_goldens).prog 39) (kwd := []) K02H.ob_eq
    (by kernel_rfl) (fun s => by kernel_rfl) K02H.runEq (by kernel_rfl) (by kernel_rfl) (by kernel_rfl) (by rfl) (by first | assumption | decide +kernel) (by decide +kernel) ⟨rfl, rfl, rfl, rfl, rfl, by decide +kernel⟩ ?hw ?hc
  case hw => w_witness2
  case hc =>
    exact Mir.walk_mir (i := 46) (nn := 63) (x := "_law_script") (u := K02.u46) (j := 10) K02.txt K02.trd rfl (by decide) (by kernel_rfl) rfl rfl (by kernel_rfl) (by decide) K02.law_true

