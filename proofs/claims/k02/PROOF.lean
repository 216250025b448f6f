import PyProof.Rows.All
import Wide.All
import OpenK.AllK
import Wide.FinOn
import HandS.ForMost
import HandS.ForExc
import HandS.CallSlots
import HandS.TupAny
import HandS.TupMul
import HandS.IsInst
import HandS.Zip
import HandS.Star
import HandS.Walk
import HandS.Deep
import HandS.ExcIs
import PyProof.ExcBaseAll.ValueError
import HandS.ExcValue
import HandS.Small
import KE.KEqNest
import HandS.Style
import HandS.Flow
import HandS.More
import HandS.HeadHook1
import KE.GoesMore
import KE.GoesNew
import KE.KRevSl
import HandS.WordsExc
import HandS.Codes
import HandS.HeadHook2
import HandS.HeadHook3
import PySem.Challenge.RW_standasked_k02_errors_by_hand
set_option Elab.async false
set_option linter.all false
set_option maxRecDepth 100000
set_option maxHeartbeats 4000000
/-! A small machine over plain data: what the program and the law do, without addresses. -/
namespace Sm
open PySem L2

abbrev D := PyData

/-- a slot's worth: a datum that stays; a list or dict of one's own (arg: it came as an argument); an error caught -/
inductive SV where
  | d (x : D)
  | own (x : D) (arg : Bool)
  | exc (c : Nat)
abbrev Env := List (Option SV)

/-- what an expression gives: a datum, a new list or dict, the one in slot i, an error -/
inductive R where
  | d (x : D)
  | new (x : D)
  | al (i : Nat)
  | exc (c : Nat)
/-- an end: a worth, or an error of class c is raised -/
inductive Out (α : Type) where
  | ok (a : α)
  | rs (c : Nat)
abbrev M (α : Type) := Env → Option (Out α × Env)
def M.ret {α : Type} (a : α) : M α := fun e => some (.ok a, e)
def M.bind {α β : Type} (m : M α) (f : α → M β) : M β := fun e =>
  match m e with
  | none => none
  | some (.rs c, e') => some (.rs c, e')
  | some (.ok a, e') => f a e'
def M.opt {α : Type} (o : Option α) : M α := fun e => o.map fun a => (.ok a, e)

/-- the datum that is read -/
def R.rd (r : R) (e : Env) : Option D :=
  match r with
  | .d x => some x
  | .new x => some x
  | .al i =>
    match e[i]? with
    | some (some (.own x _)) => some x
    | _ => none
  | .exc _ => none
/-- something new is held by the datum that it is -/
def R.hold (r : R) : R := match r with
  | .new x => .d x
  | r => r
/-- it becomes a datum that stays -/
def frz (r : R) : M D := fun e =>
  match r with
  | .d x => some (.ok x, e)
  | .new x => some (.ok x, e)
  | .al i =>
    match e[i]? with
    | some (some (.own x false)) => some (.ok x, e.set i (some (.d x)))
    | _ => none
  | .exc _ => none
def rdM (r : R) : M D := fun e => (r.rd e).map fun x => (.ok x, e)

/-! ### operations on data -/
def fits (n : Nat) : Bool := decide (n ≤ sizeLine)
/-- truth -/
def truD : D → Option Bool
  | .none => some false
  | .bool b => some b
  | .int i => some (i != 0)
  | .str x => if fits x.length then some ((x.length : Int) != 0) else none
  | .list xs => some (!xs.isEmpty)
  | .tuple xs => some (!xs.isEmpty)
  | .dict _ => none
inductive BO where
  | add | sub | mul | fdiv | mod | pow
  deriving DecidableEq
/- (the bounds are said so that nothing tries to count up to them) -/
def smallF (i : Int) : Bool := Nat.ble i.natAbs 18446744073709551615
def idx (k : Int) : Bool := Nat.ble k.natAbs 9223372036854775807
def posF (j : Int) : Bool := Nat.ble 1 j.toNat && Nat.ble j.toNat 1073741823
def posI (j : Int) : Bool := Nat.ble 1 j.toNat
def rep {α : Type} (k : Int) (xs : List α) : List α := (List.replicate k.toNat xs).flatten
def addD : D → D → Option R
  | .int i, .int j => some (.d (.int (i + j)))
  | .str x, .str y => if fits (x.length + y.length) then some (.d (.str (x ++ y))) else none
  | .list xs, .list ys => if fits (xs.length + ys.length) then some (.new (.list (xs ++ ys))) else none
  | .tuple xs, .tuple ys => if fits (xs.length + ys.length) then some (.d (.tuple (xs ++ ys))) else none
  | _, _ => none
def subD : D → D → Option R
  | .int i, .int j => some (.d (.int (i - j)))
  | _, _ => none
def mulD : D → D → Option R
  | .int i, .int j => if smallF i || smallF j then some (.d (.int (i * j))) else none
  | .tuple xs, .int k => if idx k && (xs.isEmpty || decide (k ≤ 1) || (decide (k ≤ 1000) && decide (xs.length ≤ 1000))) then some (.d (.tuple (rep k xs))) else none
  | _, _ => none
def fdivD : D → D → Option R
  | .int i, .int j => if posF j then some (.d (.int (i / j))) else none
  | _, _ => none
def modD : D → D → Option R
  | .int i, .int j => if posI j then some (.d (.int (i % j))) else none
  | _, _ => none
def powD : D → D → Option R
  | .int i, .int j => if decide (0 ≤ j) && decide (j ≤ 1000000) && decide (i.natAbs < 2 ^ 64) then some (.d (.int (i ^ j.toNat))) else none
  | _, _ => none
def binD : BO → D → D → Option R
  | .add => addD
  | .sub => subD
  | .mul => mulD
  | .fdiv => fdivD
  | .mod => modD
  | .pow => powD

inductive CO where
  | eq | ne | lt | le | gt | ge | isIn | notIn
  deriving DecidableEq
def intsB (p : Int → Int → Bool) : D → D → Option Bool
  | .int i, .int j => some (p i j)
  | _, _ => none
def flatD : D → Bool
  | .none | .bool _ | .int _ | .str _ => true
  | _ => false
def inD : D → D → Option Bool
  | x, .list ds => if (flatD x && ds.all flatD) || (SeqAt.shaped x && SeqAt.shaped (.list ds)) then some (ds.any fun z => PyData.eqv z x) else none
  | x, .tuple ds => if (flatD x && ds.all flatD) || (SeqAt.shaped x && SeqAt.shaped (.tuple ds)) then some (ds.any fun z => PyData.eqv z x) else none
  | _, _ => none
/-- t == () looks at no item -/
def eqT0 : D → D → Option Bool
  | .tuple xs, .tuple [] => some xs.isEmpty
  | .list xs, .list [] => some xs.isEmpty
  | _, _ => none
/-- two texts -/
def strEq : D → D → Option Bool
  | .str x, .str y => some (decide (x = y))
  | _, _ => none
def neD (x y : D) : Option Bool := match strEq x y with
  | some b => some (!b)
  | none => if SeqAt.shaped x && SeqAt.shaped y then some (!PyData.eqv x y) else (eqT0 x y).map (!·)
def eqD (x y : D) : Option Bool := match strEq x y with
  | some b => some b
  | none => if SeqAt.shaped x && SeqAt.shaped y then some (PyData.eqv x y) else eqT0 x y
def cmpD : CO → D → D → Option Bool
  | .eq, x, y => eqD x y
  | .ne, x, y => neD x y
  | .lt, x, y => intsB (fun i j => decide (i < j)) x y
  | .le, x, y => intsB (fun i j => decide (i ≤ j)) x y
  | .gt, x, y => intsB (fun i j => decide (j < i)) x y
  | .ge, x, y => intsB (fun i j => decide (j ≤ i)) x y
  | .isIn, x, y => inD x y
  | .notIn, x, y => (inD x y).map (!·)
def kEqD : D → Key → Bool
  | .int i, .inl j => decide (i = j)
  | .str x, .inr y => decide (x = y)
  | _, _ => false
def dget : List (D × D) → Key → Option D
  | [], _ => none
  | (k, v) :: r, q => if kEqD k q then some v else dget r q
/-- x[i] -/
def ixD : D → D → Option D
  | .list xs, .int i => atI xs i
  | .tuple xs, .int i => atI xs i
  | .dict kvs, .int i => dget kvs (.inl i)
  | .dict kvs, .str x => dget kvs (.inr x)
  | _, _ => none
/-- in a constant dict with texts as keys, of it -/
def cinD (no : Bool) : D → D → Option R
  | .dict kvs, .str x => some (.d (.bool ((dget kvs (.inr x)).isSome != no)))
  | _, _ => none
def cixD : D → D → Option R
  | .dict kvs, .str x => (dget kvs (.inr x)).map .d
  | _, _ => none
def rvD : D → Option R
  | .list xs => some (.new (.list xs.reverse))
  | .tuple xs => some (.d (.tuple xs.reverse))
  | _ => none
/-- repr(x) -/
def repD (d : D) : Option R := if d.showable && decide (d.depth ≤ 60) && fits d.shown.length then some (.d (.str d.shown)) else none
def maxD : D → D → Option R
  | .int i, .int j => some (.d (.int (if j > i then j else i)))
  | _, _ => none
def zipK : List Str → List D → List (D × D)
  | k :: ks, d :: ds => (.str k, d) :: zipK ks ds
  | _, _ => []
def cutD (xs : List D) (lo hi : Option Int) : List D := (xs.drop (HT.sIx xs.length 0 lo)).take (HT.sIx xs.length xs.length hi - HT.sIx xs.length 0 lo)
def slD (x : D) (lo hi : Option Int) : Option R := match x with
  | .list xs => some (.new (.list (cutD xs lo hi)))
  | .tuple xs => some (.d (.tuple (cutD xs lo hi)))
  | _ => none
def lenD : D → Option Int
  | .list xs => some xs.length
  | .tuple xs => some xs.length
  | .str x => if fits x.length then some x.length else none
  | _ => none
def intD : D → Option D
  | .int i => some (.int i)
  | .bool b => some (.int (if b then 1 else 0))
  | _ => none
/-- all items are bools -/
def boolsD : List D → Option (List Bool)
  | [] => some []
  | .bool b :: r => (boolsD r).map (b :: ·)
  | _ :: _ => none
inductive BI where
  | len | int | list | tuple | all
  deriving DecidableEq
def seqD : D → Option (List D)
  | .list xs => some xs
  | .tuple xs => some xs
  | _ => none
def biD : BI → D → Option R
  | .len, d => (lenD d).map fun n => .d (.int n)
  | .int, d => (intD d).map .d
  | .list, d => (seqD d).map fun xs => .new (.list xs)
  | .tuple, d => (seqD d).map fun xs => .d (.tuple xs)
  | .all, .list xs => (boolsD xs).map fun bs => .d (.bool (bs.all id))
  | .all, _ => none
/-- built-in classes that isinstance is asked of -/
inductive Ty where
  | int | bool | str | tuple | list | dict
  deriving DecidableEq
/-- a datum that stands for something else than a dict; its key is nothing that repr would show -/
def hugeK : D := .list [.int (2 ^ 3000)]
def psB : List (D × D) → Bool
  | (.list _, _) :: _ => true
  | _ => false
/-- an exception of the class of that name, held as a value -/
def excD (x : Str) : D := .dict [(hugeK, .str x)]
theorem huge_hid : PyData.showable hugeK = false := by
  unfold hugeK
  simp only [PyData.showable, PyData.showableAll, Bool.and_true, decide_eq_false_iff_not]
  have h : (2 ^ 3000 : Int).natAbs = 2 ^ 3000 := by rw [Int.natAbs_pow]; rfl
  rw [h, Nat.log2_two_pow]
  decide
def tyN : Ty → String
  | .int => "int" | .bool => "bool" | .str => "str" | .tuple => "tuple" | .list => "list" | .dict => "dict"
/-- isinstance of an exception or None, of a class: of what classes' exceptions it is true -/
def isxD (ys : List (Str × Bool)) : D → Option R
  | .none => some (.d (.bool false))
  | .dict [(.list _, .str y)] => (ys.lookup y).map fun b => .d (.bool b)
  | _ => none
def isTy : D → Ty → Bool
  | .none, _ => false
  | .bool _, .int => true
  | .bool _, .bool => true
  | .bool _, _ => false
  | .int _, .int => true
  | .int _, _ => false
  | .str _, .str => true
  | .str _, _ => false
  | .list _, .list => true
  | .list _, _ => false
  | .tuple _, .tuple => true
  | .tuple _, _ => false
  | .dict kvs, .dict => !psB kvs
  | .dict _, _ => false

/-! ### the text, without places and names -/
mutual
/-- targets -/
inductive T where
  | nm (i : Nat)
  | tup (ts : Ts)
inductive Ts where
  | nil
  | cons (t : T) (r : Ts)
end
mutual
inductive E where
  | nm (i : Nat)
  | cst (k : Nat)
  | lit (d : D)
  | bin (o : BO) (a b : E)
  | neg (a : E)
  | cmp (o : CO) (a b : E)
  | isN (a : E) (no : Bool)
  | isB (a : E) (b : Bool) (no : Bool)
  | ch (o p : CO) (a b c : E)
  | and (as : A)
  | or (as : A)
  | not (a : E)
  | ife (c a b : E)
  | ix (a b : E)
  | sl (a : E) (lo hi : OE)
  | tup (as : A)
  | lst (as : A)
  | lc (elt : E) (t : T) (it : I) (cs : A) (own : List Nat)
  | call (f : Nat) (as : A)
  | calls (f : Nat) (as : A)
  | bi (b : BI) (a : E)
  | isi (a : E) (ts : List Ty) (many : Bool)
  | frz (a : E)
  | rep (a : E)
  | rv (a : E)
  | mx (a b : E)
  | cin (k : Nat) (a : E) (no : Bool)
  | cix (k : Nat) (a : E)
  | dd (ks : List Str) (as : A)
  | star (a b : E)
  | isx (a : E) (x : Str) (ys : List (Str × Bool))
  | mkx (x : Str) (a : E)
inductive OE where
  | no
  | yes (e : E)
inductive A where
  | nil
  | cons (e : E) (r : A)
/-- what a loop walks -/
inductive I where
  | sq (e : E)
  | r1 (a : E)
  | r2 (a b : E)
  | zip (a b : E)
  | enum (a : E)
  | zip3 (a b c : E)
end
/-- what gives new tuples -/
def tupIt : I → Bool
  | .zip _ _ => true
  | .enum _ => true
  | .zip3 _ _ _ => true
  | _ => false

/-- an argument: a datum, or the caller's own list or dict -/
inductive Arg where
  | d (x : D)
  | bor (x : D)
/-- a def's worth: of the arguments, what it gives (no slot), and the own ones behind it -/
abbrev Spec := List Arg → Option (Out R × List D)

def setAt (e : Env) (i : Nat) (v : SV) : Option Env := match e[i]? with
  | some (some (.own _ true)) => none
  | some _ => some (e.set i (some v))
  | none => none
def R.sv (r : R) (e : Env) : Option (SV × Env) := match r with
  | .d x => some (.d x, e)
  | .new x => some (.own x false, e)
  | .al i => match e[i]? with
    | some (some (.own x false)) => some (.own x false, e.set i none)
    | _ => none
  | .exc c => some (.exc c, e)
/-- the arguments as the callee gets them, with the slots that are lent -/
def argsOf : List R → Env → Option (List Arg × List Nat)
  | [], _ => some ([], [])
  | .d x :: r, e => (argsOf r e).map fun p => (.d x :: p.1, p.2)
  | .new _ :: _, _ => none
  | .al i :: r, e =>
    match e[i]? with
    | some (some (.own x _)) => (argsOf r e).bind fun p => if p.2.contains i then none else some (.bor x :: p.1, i :: p.2)
    | _ => none
  | .exc _ :: _, _ => none
def putOwn (e : Env) (i : Nat) (x : D) : Env := match e[i]? with
  | some (some (.own _ b)) => e.set i (some (.own x b))
  | _ => e
def putOuts : Env → List Nat → List D → Option Env
  | e, [], [] => some e
  | e, i :: is, x :: xs => putOuts (putOwn e i x) is xs
  | _, _, _ => none
def runCall (sp : Spec) (rs : List R) : M R := fun e =>
  match argsOf rs e with
  | none => none
  | some (as, is) =>
    match sp as with
    | none => none
    | some (o, outs) =>
      match putOuts e is outs with
      | none => none
      | some e' => some (o, e')

/-- own ones lent as data: the answer is flat, so that nothing of them is kept -/
def argsS : List R → Env → Option (List Arg)
  | [], _ => some []
  | .d x :: r, e => (argsS r e).map fun as => .d x :: as
  | .al i :: r, e =>
    match e[i]? with
    | some (some (.own x _)) => (argsS r e).map fun as => .d x :: as
    | _ => none
  | _ :: _, _ => none
mutual
/-- no list, no dict in it -/
def tupD : D → Bool
  | .none => true
  | .bool _ => true
  | .int _ => true
  | .str _ => true
  | .list _ => false
  | .tuple xs => tupDs xs
  | .dict _ => false
def tupDs : List D → Bool
  | [] => true
  | x :: xs => tupD x && tupDs xs
end
def runCallS (sp : Spec) (rs : List R) : M R := fun e =>
  match argsS rs e with
  | none => none
  | some as =>
    match sp as with
    | some (.ok (.d x), _) => if tupD x then some (.ok (.d x), e) else none
    | some (.ok (.new (.list xs)), _) => if tupDs xs then some (.ok (.new (.list xs)), e) else none
    | some (.rs c, _) => some (.rs c, e)
    | _ => none

/-! targets -/
mutual
def asg : T → R → M Unit
  | .nm i, r => fun e =>
    match r.sv e with
    | none => none
    | some (v, e1) =>
      match setAt e1 i v with
      | none => none
      | some e2 => some (.ok (), e2)
  | .tup ts, r => fun e =>
    match r.rd e with
    | some (.tuple xs) => asgs ts xs e
    | _ => none
def asgs : Ts → List D → M Unit
  | .nil, [] => fun e => some (.ok (), e)
  | .cons t r, x :: xs => fun e =>
    match asg t (.d x) e with
    | some (.ok (), e1) => asgs r xs e1
    | _ => none
  | _, _ => fun _ => none
end
/-- two names at once -/
def asg2 (i j : Nat) (x y : R) : M Unit := fun e =>
  match x.sv e with
  | none => none
  | some (v, e1) =>
    match y.sv e1 with
    | none => none
    | some (w, e2) =>
      match setAt e2 i v with
      | none => none
      | some e3 =>
        match setAt e3 j w with
        | none => none
        | some e4 => some (.ok (), e4)
def isArg (e : Env) (i : Nat) : Bool := match e[i]? with
  | some (some (.own _ true)) => true
  | _ => false
def wipeE (e : Env) : List Nat → Env
  | [] => e
  | i :: is => wipeE (e.set i none) is
/-- behind a block: its own slots as they stood -/
def unwipe (e0 e : Env) : List Nat → Env
  | [] => e
  | i :: is => unwipe e0 (e.set i (e0.getD i none)) is

/-- the turns of a comprehension -/
def turns (one : D → Env → Option (Option D × Env)) : List D → Env → Option (List D × Env)
  | [], e => some ([], e)
  | x :: xs, e =>
    match one x e with
    | none => none
    | some (y, e1) =>
      match turns one xs e1 with
      | none => none
      | some (ys, e2) => some (match y with | none => ys | some y => y :: ys, e2)

def pairs : List D → List D → List D
  | x :: xs, y :: ys => .tuple [x, y] :: pairs xs ys
  | _, _ => []
def trips : List D → List D → List D → List D
  | x :: xs, y :: ys, z :: zs => .tuple [x, y, z] :: trips xs ys zs
  | _, _, _ => []
def numbered (xs : List D) (k : Nat) : List D := match xs with
  | [] => []
  | x :: r => .tuple [.int k, x] :: numbered r (k + 1)
def rangeD (lo hi : Int) : List D := (List.range (hi - lo).toNat).map fun (i : Nat) => .int (lo + (i : Int))
def inR (i : Int) : Bool := Nat.ble i.natAbs 4611686018427387903

section
variable (Φ : Nat → Spec) (cs : Nat → D)
/-- a value, and its truth -/
def both (m : M R) : M R × M Bool := (m, m.bind fun x => (rdM x).bind fun dx => .opt (truD dx))
def nmM (i : Nat) : M R := fun e =>
  match e[i]? with
  | some (some (.d x)) => some (.ok (.d x), e)
  | some (some (.own _ _)) => some (.ok (.al i), e)
  | some (some (.exc c)) => some (.ok (.exc c), e)
  | _ => none
def noneR : R → Bool
  | .d .none => true
  | _ => false
def isNM (no : Bool) (x : R) : M R := .ret (.d (.bool (noneR x != no)))
def isBM (k no : Bool) (x : R) : M R := match x with
  | .d (.bool b) => .ret (.d (.bool ((b == k) != no)))
  | _ => fun _ => none
def chM (o p : CO) (a b c : M R) : M R :=
  a.bind fun x => b.bind fun y => (rdM x).bind fun dx => (rdM y).bind fun dy => (M.opt (cmpD o dx dy)).bind fun k =>
    if k then c.bind fun z => (rdM y).bind fun dy => (rdM z).bind fun dz => .opt ((cmpD p dy dz).map fun b => .d (.bool b)) else .ret (.d (.bool false))
/-- a turn of a comprehension -/
def turn1 (own : List Nat) (bind : D → M Unit) (test : M Bool) (elt : M R) (x : D) (e2 : Env) : Option (Option D × Env) :=
  if own.any (isArg e2) then none else
  match bind x (wipeE e2 own) with
  | some (.ok (), e3) =>
    match test e3 with
    | some (.ok true, e4) =>
      match (elt.bind frz) e4 with
      | some (.ok y, e5) => some (some y, unwipe e2 e5 own)
      | _ => none
    | some (.ok false, e4) => some (none, unwipe e2 e4 own)
    | _ => none
  | _ => none
def lcM (own : List Nat) (bind : D → M Unit) (src : M (List D)) (test : M Bool) (elt : M R) : M R := fun e =>
  match src e with
  | some (.ok ds, e1) =>
    match turns (turn1 own bind test elt) ds e1 with
    | some (ys, e9) => if fits ys.length then some (.ok (.new (.list ys)), e9) else none
    | none => none
  | some (.rs c, e1) => some (.rs c, e1)
  | none => none
def andM (x : R) (m : M R) : M R := match x with
  | .d (.bool true) => m
  | .d (.bool false) => .ret (.d (.bool false))
  | _ => fun _ => none
def orM (x : R) (m : M R) : M R := match x with
  | .d (.bool false) => m
  | .d (.bool true) => .ret (.d (.bool true))
  | _ => fun _ => none
def r1D : D → Option (List D)
  | .int j => if inR j then some (rangeD 0 j) else none
  | _ => none
def r2D : D → D → Option (List D)
  | .int i, .int j => if inR i && inR j then some (rangeD i j) else none
  | _, _ => none
def zipD : D → D → Option (List D)
  | .list xs, .list ys => some (pairs xs ys)
  | .tuple xs, .tuple ys => some (pairs xs ys)
  | _, _ => none
def zip3D : D → D → D → Option (List D)
  | .tuple xs, .tuple ys, .tuple zs => some (trips xs ys zs)
  | _, _, _ => none
/-- (*a, b) -/
def tupX : D → Option (List D)
  | .tuple xs => some xs
  | _ => none
def starD (xs : List D) (y : D) : Option R := if fits (xs.length + 1) then some (.d (.tuple (xs ++ [y]))) else none
def enumD : D → Option (List D)
  | .list xs => some (numbered xs 0)
  | .tuple xs => some (numbered xs 0)
  | _ => none
def negD : D → Option R
  | .int i => some (.d (.int (-i)))
  | _ => none
def partD : D → Option (Option Int)
  | .int i => some (some i)
  | _ => none
mutual
def evX : E → M R × M Bool
  | .nm i => both (nmM i)
  | .cst k => both (.ret (.d (cs k)))
  | .lit d => both (.ret (.d d))
  | .bin o a b => both ((evX a).1.bind fun x => (evX b).1.bind fun y => (rdM x).bind fun dx => (rdM y).bind fun dy => .opt (binD o dx dy))
  | .neg a => both ((evX a).1.bind fun x => (rdM x).bind fun dx => .opt (negD dx))
  | .cmp o a b => both ((evX a).1.bind fun x => (evX b).1.bind fun y => (rdM x).bind fun dx => (rdM y).bind fun dy => .opt ((cmpD o dx dy).map fun b => .d (.bool b)))
  | .isN a no => both ((evX a).1.bind (isNM no))
  | .isB a k no => both ((evX a).1.bind (isBM k no))
  | .ch o p a b c => both (chM o p (evX a).1 (evX b).1 (evX c).1)
  | .and as => (evAnd as, evAndT as)
  | .or as => (evOr as, evOrT as)
  | .not a => ((both (evX a).1).2.bind fun b => .ret (.d (.bool (!b))), (evX a).2.bind fun b => .ret (!b))
  | .ife c a b => ((evX c).2.bind fun k => if k then (evX a).1 else (evX b).1, (evX c).2.bind fun k => if k then (evX a).2 else (evX b).2)
  | .ix a b => both ((evX a).1.bind fun x => (evX b).1.bind fun y => (rdM x).bind fun dx => (rdM y).bind fun dy => .opt ((ixD dx dy).map .d))
  | .sl a lo hi => both ((evX a).1.bind fun x => (evO lo).bind fun l => (evO hi).bind fun h => (rdM x).bind fun dx => .opt (slD dx l h))
  | .tup as => both ((evA as).bind fun xs => .opt (if fits xs.length then some (.d (.tuple xs)) else none))
  | .lst as => both ((evA as).bind fun xs => .opt (if fits xs.length then some (.new (.list xs)) else none))
  | .lc elt t it ifs own => both (lcM own (fun x => asg t (.d x)) (evI it) (evTs ifs) (evX elt).1)
  | .call f as => both ((evR as).bind fun rs => runCall (Φ f) rs)
  | .calls f as => both ((evR as).bind fun rs => runCallS (Φ f) rs)
  | .bi b a => both ((evX a).1.bind fun x => (rdM x).bind fun dx => .opt (biD b dx))
  | .isi a ts _ => both ((evX a).1.bind fun x => (rdM x).bind fun dx => .ret (.d (.bool (ts.any (isTy dx)))))
  | .frz a => both ((evX a).1.bind fun x => (frz x).bind fun d => .ret (.d d))
  | .rep a => both ((evX a).1.bind fun x => (rdM x).bind fun dx => .opt (repD dx))
  | .rv a => both ((evX a).1.bind fun x => (rdM x).bind fun dx => .opt (rvD dx))
  | .mx a b => both ((evX a).1.bind fun x => (evX b).1.bind fun y => (rdM x).bind fun dx => (rdM y).bind fun dy => .opt (maxD dx dy))
  | .cin k a no => both ((evX a).1.bind fun x => (rdM x).bind fun dx => .opt (cinD no (cs k) dx))
  | .cix k a => both ((evX a).1.bind fun x => (rdM x).bind fun dx => .opt (cixD (cs k) dx))
  | .dd ks as => both ((evA as).bind fun xs => .opt (if decide (xs.length = ks.length) then some (.new (.dict (zipK ks xs))) else none))
  | .isx a _ ys => both ((evX a).1.bind fun x => (rdM x).bind fun dx => .opt (isxD ys dx))
  | .mkx x a => both ((evX a).1.bind fun y => (frz y).bind fun _ => .ret (.d (excD x)))
  | .star a b => both ((evX a).1.bind fun x => (frz x).bind fun d => (M.opt (tupX d)).bind fun xs => (evX b).1.bind fun y => (frz y).bind fun d' => .opt (starD xs d'))
def evO : OE → M (Option Int)
  | .no => .ret none
  | .yes e => (evX e).1.bind fun x => (rdM x).bind fun dx => .opt (partD dx)
/-- bools alone -/
def evAnd : A → M R
  | .nil => .ret (.d (.bool true))
  | .cons a r => (evX a).1.bind fun x => (match r with
    | .nil => .ret x
    | .cons _ _ => andM x (evAnd r))
def evOr : A → M R
  | .nil => .ret (.d (.bool false))
  | .cons a r => (evX a).1.bind fun x => (match r with
    | .nil => .ret x
    | .cons _ _ => orM x (evOr r))
def evAndT : A → M Bool
  | .nil => .ret true
  | .cons a r => (evX a).2.bind fun k => if k then evAndT r else .ret false
def evOrT : A → M Bool
  | .nil => .ret false
  | .cons a r => (evX a).2.bind fun k => if k then .ret true else evOrT r
/-- items, each a datum that stays -/
def evA : A → M (List D)
  | .nil => .ret []
  | .cons a r => (evX a).1.bind fun x => (frz x).bind fun d => (evA r).bind fun ds => .ret (d :: ds)
/-- arguments -/
def evR : A → M (List R)
  | .nil => .ret []
  | .cons a r => (evX a).1.bind fun x => (evR r).bind fun xs => .ret (x.hold :: xs)
def evTs : A → M Bool
  | .nil => .ret true
  | .cons a r => (match r with
    | .nil => (evX a).2
    | .cons _ _ => fun _ => none)
def evI : I → M (List D)
  | .sq a => (evX a).1.bind fun x => (frz x).bind fun d => .opt (seqD d)
  | .r1 a => (evX a).1.bind fun x => (rdM x).bind fun d => .opt (r1D d)
  | .r2 a b => (evX a).1.bind fun x => (evX b).1.bind fun y => (rdM x).bind fun d => (rdM y).bind fun d' => .opt (r2D d d')
  | .zip a b => (evX a).1.bind fun x => (frz x).bind fun d => (evX b).1.bind fun y => (frz y).bind fun d' => .opt (zipD d d')
  | .enum a => (evX a).1.bind fun x => (frz x).bind fun d => .opt (enumD d)
  | .zip3 a b c => (evX a).1.bind fun x => (frz x).bind fun d => (evX b).1.bind fun y => (frz y).bind fun d' => (evX c).1.bind fun z => (frz z).bind fun d'' => .opt (zip3D d d' d'')
end
abbrev evE (m : E) : M R := (evX Φ cs m).1
abbrev evT (m : E) : M Bool := (evX Φ cs m).2

/-! ### statements -/
/-- how a statement ends -/
inductive Fl where
  | nx
  | rt (r : R)
  | bk
  | ct
def forL (bind : D → M Unit) (body : M Fl) : List D → M Fl
  | [] => .ret .nx
  | x :: xs => fun e =>
    match bind x e with
    | some (.ok (), e1) =>
      match body e1 with
      | some (.ok .nx, e2) => forL bind body xs e2
      | some (.ok .ct, e2) => forL bind body xs e2
      | some (.ok .bk, e2) => some (.ok .nx, e2)
      | some (.ok (.rt r), e2) => some (.ok (.rt r), e2)
      | some (.rs c, e2) => some (.rs c, e2)
      | none => none
    | _ => none
def whileL (c : M Bool) (body : M Fl) : Nat → M Fl
  | 0 => fun _ => none
  | n + 1 => fun e =>
    match c e with
    | some (.ok true, e1) =>
      match body e1 with
      | some (.ok .nx, e2) => whileL c body n e2
      | some (.ok .ct, e2) => whileL c body n e2
      | some (.ok .bk, e2) => some (.ok .nx, e2)
      | some (.ok (.rt r), e2) => some (.ok (.rt r), e2)
      | some (.rs c, e2) => some (.rs c, e2)
      | none => none
    | some (.ok false, e1) => some (.ok .nx, e1)
    | some (.rs c, e1) => some (.rs c, e1)
    | none => none
def setF (k d : D) (ds : List D) : Option (List D) := match k with
  | .int z => (ixN ds.length z).map fun j => ds.set j d
  | _ => none
def lstAt (i : Nat) : M Unit := fun e =>
  match e[i]? with
  | some (some (.own (.list _) _)) => some (.ok (), e)
  | _ => none
/-- the own list in slot i, changed -/
def mutL (i : Nat) (f : List D → Option (List D)) : M Unit := fun e =>
  match e[i]? with
  | some (some (.own (.list ds) b)) => (f ds).map fun ds' => (.ok (), e.set i (some (.own (.list ds') b)))
  | _ => none
/-- the items of a list of one's own, or of a new one -/
def ownL (r : R) : M (List D) := fun e => match r with
  | .new (.list xs) => some (.ok xs, e)
  | .al i => match e[i]? with
    | some (some (.own (.list xs) _)) => some (.ok xs, e)
    | _ => none
  | _ => none
/-- what an except suite does: give a flat datum back, put it into a slot, keep the exception (of slot i) in slot j -/
inductive Su where
  | ret (d : D)
  | set (j : Nat) (d : D)
  | keep (i j : Nat)
/-- .. at the slots, the class's name told -/
def suEnd (u : Su) (y : Str) (e : Env) : Option (Out Fl × Env) := match u with
  | .ret d => some (.ok (.rt (.d d)), e)
  | .set j d => if decide (j < e.length) && !isArg e j then some (.ok .nx, e.set j (some (.d d))) else none
  | .keep i j => if decide (i < e.length) && decide (j < e.length) && !isArg e i && !isArg e j && !decide (i = j) then some (.ok .nx, (e.set j (some (.d (excD y)))).set i none) else none
def tryM (m : M Fl) (cs : List (Nat × Str × Bool)) (u : Su) : M Fl := fun e => match m e with
  | some (.rs c, e1) => (match cs.lookup c with
    | some (y, true) => suEnd u y e1
    | some (_, false) => some (.rs c, e1)
    | none => none)
  | r => r
mutual
inductive S where
  | asg (t : T) (e : E)
  | par (i j : Nat) (a b : E)
  | par3 (i j l : Nat) (a b c : E)
  | ex (e : E)
  | app (i : Nat) (e : E)
  | seti (i : Nat) (k e : E)
  | ext (i : Nat) (e : E)
  | ret (e : E)
  | retN
  | ife (c : E) (a b : B)
  | for (t : T) (it : I) (b : B)
  | whil (c : E) (b : B)
  | pass
  | brk
  | ct
  | never
  | rs (c : Nat)
  | tr (b : B) (x : Str) (ys : List (Str × Bool)) (cs : List (Nat × Str × Bool)) (u : Su)
inductive B where
  | nil
  | cons (s : S) (r : B)
end
variable (W : Nat)
mutual
def evS : S → M Fl
  | .asg t e => (evE Φ cs e).bind fun r => (asg t r).bind fun _ => .ret .nx
  | .par i j a b => (evE Φ cs a).bind fun x => (evE Φ cs b).bind fun y => (asg2 i j x y).bind fun _ => .ret .nx
  | .par3 i j l a b c => (evE Φ cs a).bind fun x => (frz x).bind fun dx => (evE Φ cs b).bind fun y => (frz y).bind fun dy => (evE Φ cs c).bind fun z => (frz z).bind fun dz =>
      (asg (.nm i) (.d dx)).bind fun _ => (asg (.nm j) (.d dy)).bind fun _ => (asg (.nm l) (.d dz)).bind fun _ => .ret .nx
  | .ex e => (evE Φ cs e).bind fun _ => .ret .nx
  | .app i e => (lstAt i).bind fun _ => (evE Φ cs e).bind fun r => (frz r).bind fun d => (mutL i fun ds => if decide (ds.length < sizeLine) then some (ds ++ [d]) else none).bind fun _ => .ret .nx
  | .seti i k e => (evE Φ cs e).bind fun r => (frz r).bind fun d => (lstAt i).bind fun _ => (evE Φ cs k).bind fun q => (rdM q).bind fun dk =>
      (mutL i (setF dk d)).bind fun _ => .ret .nx
  | .ext i e => (lstAt i).bind fun _ => (evE Φ cs e).bind fun r => (ownL r).bind fun xs => (mutL i fun ds => if fits (ds.length + xs.length) then some (ds ++ xs) else none).bind fun _ => .ret .nx
  | .ret e => (evE Φ cs e).bind fun r => .ret (.rt r)
  | .retN => .ret (.rt (.d .none))
  | .ife c a b => (evT Φ cs c).bind fun k => if k then evB a else evB b
  | .for t it b => (evI Φ cs it).bind fun ds => forL (fun x => asg t (.d x)) (evB b) ds
  | .whil c b => whileL (evT Φ cs c) (evB b) W
  | .pass => .ret .nx
  | .brk => .ret .bk
  | .ct => .ret .ct
  | .never => fun _ => none
  | .rs c => fun e => some (.rs c, e)
  | .tr b _ _ cs u => tryM (evB b) cs u
def evB : B → M Fl
  | .nil => .ret .nx
  | .cons s r => (evS s).bind fun f => (match f with
    | .nx => evB r
    | f => .ret f)
end
end
/-! ### a def -/
def slotOf : Arg → Option SV
  | .d x => some (.d x)
  | .bor x => some (.own x true)
def entry (n : Nat) (as : List Arg) : Env := as.map slotOf ++ List.replicate (n - as.length) none
/-- what stands in the own arguments' slots -/
def outsAt (e : Env) : List Arg → Nat → Option (List D)
  | [], _ => some []
  | .d _ :: r, k => outsAt e r (k + 1)
  | .bor _ :: r, k =>
    match e[k]? with
    | some (some (.own x true)) => (outsAt e r (k + 1)).map (x :: ·)
    | _ => none
def R.out (r : R) (e : Env) : Option R := match r with
  | .al i => match e[i]? with
    | some (some (.own x false)) => some (.new x)
    | _ => none
  | r => some r
def runFn (np n : Nat) (body : M Fl) : Spec := fun as =>
  if as.length = np then
    match body (entry n as) with
    | none => none
    | some (.rs c, e) => (outsAt e as 0).map fun os => (.rs c, os)
    | some (.ok .nx, e) => (outsAt e as 0).map fun os => (.ok (.d .none), os)
    | some (.ok (.rt r), e) => (r.out e).bind fun r' => (outsAt e as 0).map fun os => (.ok r', os)
    | _ => none
  else none
end Sm

set_option maxRecDepth 100000
set_option maxHeartbeats 4000000
namespace Sm
open PySem L2
/-! ### what reads as a datum -/
def kD : Key → D
  | .inl i => .int i
  | .inr x => .str x
/-- an exception's object: of the class at C, without a dict -/
def XcI (C a : Addr) (φ : Heap → Prop) : Prop := ∀ h, φ h → ∃ oe vs, h.get? a = some oe ∧ Zc (.ref C) none oe ∧ oe.data = .fields vs
structure XcC (K : PySem.W.Frag) (y : Str) (C : Addr) : Prop where
  at_ : PySem.W.nsIn K mainGlobals y = some (some (.ref C))
  ec : ExcC K C
  ty : ∀ t : Ty, PySem.W.kitOne K (.ref C) (.type (tyN t)) = some false
/-- what stands for something else than a dict -/
def PsI (K : PySem.W.Frag) (F : Hp) (v : V) (kvs : List (D × D)) : Prop := ∃ a C φ y, v = .ref a ∧ kvs = [(hugeK, .str y)] ∧ F a = some (.ext φ) ∧ XcI C a φ ∧ XcC K y C
section
variable (K : PySem.W.Frag)
mutual
def RD (F : Hp) : V → D → Prop
  | v, .none => v = .non
  | v, .bool b => v = .bl b
  | v, .int i => v = .int i
  | v, .str x => v = .str x
  | v, .list ds => ∃ a vs, v = .ref a ∧ Rd F a (.lst vs) ∧ RDs F vs ds
  | v, .tuple ds => ∃ a vs, v = .ref a ∧ SqT K F a vs ∧ RDs F vs ds
  | v, .dict kvs => (∃ a es, v = .ref a ∧ F a = some (.dK es) ∧ RDk F es kvs) ∨ PsI K F v kvs
def RDs (F : Hp) : List V → List D → Prop
  | vs, [] => vs = []
  | vs, d :: ds => ∃ v r, vs = v :: r ∧ RD F v d ∧ RDs F r ds
def RDk (F : Hp) : List (Key × V) → List (D × D) → Prop
  | es, [] => es = []
  | es, (k, d) :: r => ∃ q v s, es = (q, v) :: s ∧ k = kD q ∧ RD F v d ∧ RDk F s r
end
/-- an own list or dict at a: its items are data -/
def Own (F H : Hp) (a : Addr) : D → Prop
  | .list ds => ∃ vs, H a = some (.lst vs) ∧ RDs K F vs ds
  | .dict kvs => ∃ es, H a = some (.dK es) ∧ RDk K F es kvs
  | _ => False
/-- a datum, or an own one, as it is read -/
def RO (F H : Hp) (v : V) (x : D) : Prop := RD K F v x ∨ ∃ a, v = .ref a ∧ Own K F H a x
end

abbrev Ex (H H' : Hp) : Prop := ∀ a o, H a = some o → H' a = some o
theorem Ex.refl (H : Hp) : Ex H H := fun _ _ h => h
theorem Ex.trans {H H1 H2 : Hp} (a : Ex H H1) (b : Ex H1 H2) : Ex H H2 := fun x o h => b x o (a x o h)
theorem Ex.free {H H' : Hp} (e : Ex H H') {p : Addr} (h : H' p = none) : H p = none := by
  cases q : H p with
  | none => rfl
  | some o => rw [e p o q] at h; cases h
theorem Ex.upd {H : Hp} {p : Addr} {o : HO} (h : H p = none) : Ex H (upd H p o) := fun a u e => by
  rw [upd_ne (ne_of_none e h)]
  exact e
theorem Ex.upd2 {F H : Hp} {p : Addr} {o : HO} (e : Ex F H) : Ex (L2.upd F p o) (L2.upd H p o) := fun a u h => by
  unfold L2.upd at *
  split
  · rename_i q; rw [if_pos q] at h; exact h
  · rename_i q; rw [if_neg q] at h; exact e a u h
/-- what F does not know may change -/
theorem Ex.mut {F H : Hp} {p : Addr} {o : HO} (e : Ex F H) (h : F p = none) : Ex F (L2.upd H p o) := fun a u ha => by
  rw [upd_ne (ne_of_none ha h)]
  exact e a u ha
section
variable {K : PySem.W.Frag} {F F' H H' : Hp} {v : V} {a : Addr}
theorem Ex.rd {u : HO} (e : Ex F F') (h : Rd F a u) : Rd F' a u := by
  rcases h with h | ⟨o, h⟩
  · exact .inl (e a _ h)
  · exact .inr ⟨o, e a _ h⟩
theorem Ex.l {xs : List V} (e : Ex F F') (h : SqL K F a xs) : SqL K F' a xs := by
  rcases h with h | h
  · exact .inl (e.rd h)
  · exact .inr h
theorem Ex.t {xs : List V} (e : Ex F F') (h : SqT K F a xs) : SqT K F' a xs := by
  rcases h with h | h
  · exact .inl (e.rd h)
  · exact .inr h
mutual
theorem RD.mono (e : Ex F F') : ∀ (d : D) (v : V), RD K F v d → RD K F' v d
  | .none, _, h => h
  | .bool _, _, h => h
  | .int _, _, h => h
  | .str _, _, h => h
  | .list ds, _, ⟨a, vs, h1, h2, h3⟩ => ⟨a, vs, h1, e.rd h2, RDs.mono e ds vs h3⟩
  | .tuple ds, _, ⟨a, vs, h1, h2, h3⟩ => ⟨a, vs, h1, e.t h2, RDs.mono e ds vs h3⟩
  | .dict kvs, _, .inl ⟨a, es, h1, h2, h3⟩ => .inl ⟨a, es, h1, e a _ h2, RDk.mono e kvs es h3⟩
  | .dict kvs, _, .inr ⟨a, C, φ, y, h1, h2, h3, h4⟩ => .inr ⟨a, C, φ, y, h1, h2, e a _ h3, h4⟩
theorem RDs.mono (e : Ex F F') : ∀ (ds : List D) (vs : List V), RDs K F vs ds → RDs K F' vs ds
  | [], _, h => h
  | d :: ds, _, ⟨v, r, h1, h2, h3⟩ => ⟨v, r, h1, RD.mono e d v h2, RDs.mono e ds r h3⟩
theorem RDk.mono (e : Ex F F') : ∀ (kvs : List (D × D)) (es : List (Key × V)), RDk K F es kvs → RDk K F' es kvs
  | [], _, h => h
  | (_, d) :: r, _, ⟨q, v, s, h1, h2, h3, h4⟩ => ⟨q, v, s, h1, h2, RD.mono e d v h3, RDk.mono e r s h4⟩
end
theorem RDs.len : ∀ {ds : List D} {vs : List V}, RDs K F vs ds → vs.length = ds.length
  | [], _, h => by have h : _ = [] := h; rw [h]; rfl
  | d :: ds, _, ⟨v, r, h1, h2, h3⟩ => by rw [h1]; simp only [List.length_cons]; rw [RDs.len h3]
theorem RDs.get : ∀ {ds : List D} {vs : List V} {i : Nat} {d : D}, RDs K F vs ds → ds[i]? = some d → ∃ v, vs[i]? = some v ∧ RD K F v d
  | [], _, _, _, _, h => by simp at h
  | d :: ds, _, 0, _, ⟨v, r, h1, h2, h3⟩, h => by
    subst h1
    simp only [List.getElem?_cons_zero, Option.some.injEq] at h
    subst h
    exact ⟨v, rfl, h2⟩
  | d :: ds, _, i + 1, _, ⟨v, r, h1, h2, h3⟩, h => by
    subst h1
    obtain ⟨u, e1, e2⟩ := RDs.get (i := i) h3 (by simpa using h)
    exact ⟨u, by simpa using e1, e2⟩
theorem RDs.app : ∀ {ds es : List D} {vs ws : List V}, RDs K F vs ds → RDs K F ws es → RDs K F (vs ++ ws) (ds ++ es)
  | [], _, _, _, h, h' => by have h : _ = [] := h; subst h; exact h'
  | d :: ds, _, _, _, ⟨v, r, h1, h2, h3⟩, h' => by subst h1; exact ⟨v, _, rfl, h2, RDs.app h3 h'⟩
theorem RDs.take : ∀ {ds : List D} {vs : List V} (n : Nat), RDs K F vs ds → RDs K F (vs.take n) (ds.take n)
  | _, _, 0, _ => by simp [RDs]
  | [], _, n + 1, h => by have h : _ = [] := h; subst h; simp [RDs]
  | d :: ds, _, n + 1, ⟨v, r, h1, h2, h3⟩ => by subst h1; exact ⟨v, _, rfl, h2, RDs.take n h3⟩
theorem RDs.drop : ∀ {ds : List D} {vs : List V} (n : Nat), RDs K F vs ds → RDs K F (vs.drop n) (ds.drop n)
  | _, _, 0, h => by simpa using h
  | [], _, n + 1, h => by have h : _ = [] := h; subst h; simp [RDs]
  | d :: ds, _, n + 1, ⟨v, r, h1, h2, h3⟩ => by subst h1; exact RDs.drop n h3
theorem RDs.set : ∀ {ds : List D} {vs : List V} {d : D} {v : V} (j : Nat), RDs K F vs ds → RD K F v d → RDs K F (vs.set j v) (ds.set j d)
  | [], _, _, _, _, h, _ => by have h : _ = [] := h; subst h; simp [RDs]
  | d :: ds, _, _, w, 0, ⟨v, r, h1, h2, h3⟩, h => by subst h1; exact ⟨w, r, rfl, h, h3⟩
  | d :: ds, _, _, w, j + 1, ⟨v, r, h1, h2, h3⟩, h => by subst h1; exact ⟨v, _, rfl, h2, RDs.set j h3 h⟩
theorem RDs.rep {ds : List D} {vs : List V} (h : RDs K F vs ds) : ∀ n : Nat, RDs K F (List.replicate n vs).flatten (List.replicate n ds).flatten
  | 0 => by simp [RDs]
  | n + 1 => by
    rw [List.replicate_succ, List.replicate_succ, List.flatten_cons, List.flatten_cons]
    exact RDs.app h (RDs.rep h n)
theorem RDs.cons {d : D} {ds : List D} {v : V} {vs : List V} (h : RD K F v d) (hs : RDs K F vs ds) : RDs K F (v :: vs) (d :: ds) := ⟨v, vs, rfl, h, hs⟩
theorem RDs.nil : RDs K F [] [] := rfl
/-- an own list, and a datum that is one, is read as it stands in H -/
theorem RO.lst {ds : List D} (e : Ex F H) (h : RO K F H v (.list ds)) : ∃ a vs, v = .ref a ∧ Rd H a (.lst vs) ∧ RDs K F vs ds := by
  rcases h with ⟨a, vs, h1, h2, h3⟩ | ⟨a, h1, vs, h2, h3⟩
  · exact ⟨a, vs, h1, e.rd h2, h3⟩
  · exact ⟨a, vs, h1, .inl h2, h3⟩
theorem RO.tup {ds : List D} (e : Ex F H) (h : RO K F H v (.tuple ds)) : ∃ a vs, v = .ref a ∧ SqT K H a vs ∧ RDs K F vs ds := by
  rcases h with ⟨a, vs, h1, h2, h3⟩ | ⟨a, h1, h2⟩
  · exact ⟨a, vs, h1, e.t h2, h3⟩
  · exact h2.elim
theorem RO.int {i : Int} (h : RO K F H v (.int i)) : v = .int i := by
  rcases h with h | ⟨a, h1, h2⟩
  · exact h
  · exact h2.elim
theorem RO.str {i : Str} (h : RO K F H v (.str i)) : v = .str i := by
  rcases h with h | ⟨a, h1, h2⟩
  · exact h
  · exact h2.elim
theorem RO.bool {i : Bool} (h : RO K F H v (.bool i)) : v = .bl i := by
  rcases h with h | ⟨a, h1, h2⟩
  · exact h
  · exact h2.elim
theorem RO.non (h : RO K F H v .none) : v = .non := by
  rcases h with h | ⟨a, h1, h2⟩
  · exact h
  · exact h2.elim
mutual
theorem RD.dp : ∀ (d : D) (v : V), d.canLay0 = true → RD K F v d → Dp K F v d
  | .none, _, _, h => by have h : _ = V.non := h; subst h; exact .non
  | .bool b, _, _, h => by have h : _ = V.bl b := h; subst h; exact .bl b
  | .int i, _, _, h => by have h : _ = V.int i := h; subst h; exact .int i
  | .str x, _, _, h => by have h : _ = V.str x := h; subst h; exact .str x
  | .list ds, _, c, ⟨a, vs, h1, h2, h3⟩ => by subst h1; exact .lst (.inl h2) (RDs.dp ds vs (by simpa [PyData.canLay0] using c) h3)
  | .tuple ds, _, c, ⟨a, vs, h1, h2, h3⟩ => by subst h1; exact .tup h2 (RDs.dp ds vs (by simpa [PyData.canLay0] using c) h3)
  | .dict _, _, c, _ => by simp [PyData.canLay0] at c
theorem RDs.dp : ∀ (ds : List D) (vs : List V), PyData.canLayAll0 ds = true → RDs K F vs ds → DpAll K F vs ds
  | [], _, _, h => by have h : _ = [] := h; subst h; exact .nil
  | d :: ds, _, c, ⟨v, r, h1, h2, h3⟩ => by
    subst h1
    have c' : d.canLay0 = true ∧ PyData.canLayAll0 ds = true := by simpa [PyData.canLayAll0] using c
    exact .cons (RD.dp d v c'.1 h2) (RDs.dp ds r c'.2 h3)
end
theorem RO.dp {d : D} (e : Ex F H) (h : RO K F H v d) (c : SeqAt.shaped d = true) : Dp K H v d := by
  have c0 := SeqAt.canLay_of_shaped c
  rcases h with h | ⟨a, h1, h2⟩
  · exact RD.dp d v c0 (RD.mono e d v h)
  · cases d with
    | list ds =>
      obtain ⟨vs, h3, h4⟩ := h2
      subst h1
      exact .lst (SqL.of h3) (RDs.dp ds vs (by simpa [PyData.canLay0] using c0) (RDs.mono e ds vs h4))
    | dict kvs => simp [PyData.canLay0] at c0
    | _ => exact h2.elim
theorem Own.new {F' H' : Hp} (e : Ex F F') (hh : H' a = H a) : ∀ {x : D}, Own K F H a x → Own K F' H' a x
  | .list ds, ⟨vs, h1, h2⟩ => ⟨vs, hh.trans h1, RDs.mono e ds vs h2⟩
  | .dict kvs, ⟨es, h1, h2⟩ => ⟨es, hh.trans h1, RDk.mono e kvs es h2⟩
/-- an own one becomes a datum -/
theorem Own.rd {x : D} (hF : F a = none) (h : Own K F H a x) : ∃ o, H a = some o ∧ RD K (upd F a o) (.ref a) x ∧ Ex F (upd F a o) := by
  cases x with
  | list ds =>
    obtain ⟨vs, h1, h2⟩ := h
    exact ⟨_, h1, ⟨a, vs, rfl, .inl upd_same, RDs.mono (Ex.upd hF) ds vs h2⟩, Ex.upd hF⟩
  | dict kvs =>
    obtain ⟨es, h1, h2⟩ := h
    exact ⟨_, h1, .inl ⟨a, es, rfl, upd_same, RDk.mono (Ex.upd hF) kvs es h2⟩, Ex.upd hF⟩
  | _ => exact h.elim
end

/-! ### operations on values -/
/-- no address that stood comes into F -/
def New (F F' H : Hp) : Prop := ∀ b, F' b ≠ none → F b ≠ none ∨ H b = none
structure Grow (F H F' H' : Hp) : Prop where
  f : Ex F F'
  fh : Ex F' H'
  h : Ex H H'
  n : New F F' H
theorem Grow.refl {F H : Hp} (e : Ex F H) : Grow F H F H := ⟨.refl _, e, .refl _, fun _ h => .inl h⟩
/-- something new stands, a datum | not yet one -/
theorem Grow.laid {F H : Hp} {p : Addr} {o : HO} (e : Ex F H) (hp : H p = none) : Grow F H (upd F p o) (upd H p o) :=
  ⟨Ex.upd (e.free hp), e.upd2, Ex.upd hp, fun b h => by
    by_cases q : b = p
    · exact .inr (by rw [q]; exact hp)
    · rw [upd_ne q] at h; exact .inl h⟩
theorem Grow.made {F H : Hp} {p : Addr} {o : HO} (e : Ex F H) (hp : H p = none) : Grow F H F (upd H p o) :=
  ⟨.refl _, e.trans (Ex.upd hp), Ex.upd hp, fun b h => .inl h⟩
/-- what an operation gives -/
def RR0 (K : PySem.W.Frag) (F' H' H : Hp) (v : V) : R → Prop
  | .d x => RD K F' v x
  | .new x => ∃ p, v = .ref p ∧ H p = none ∧ F' p = none ∧ Own K F' H' p x
  | _ => False
def Wants (K : PySem.W.Frag) (F H : Hp) (r : R) (Q : VK) : Prop := ∀ v F' H', Grow F H F' H' → RR0 K F' H' H v r → Q v H'
def OpS (K : PySem.W.Frag) (f : D → D → Option R) : R2 := fun x y H Q => ∃ F dx dy r, Ex F H ∧ RO K F H x dx ∧ RO K F H y dy ∧ f dx dy = some r ∧ Wants K F H r Q
section
variable {X : Cx}
theorem wants_d {K : PySem.W.Frag} {F H : Hp} {d : D} {Q : VK} {v : V} (w : Wants K F H (.d d) Q) (e : Ex F H) (h : RD K F v d) : Q v H := w v F H (.refl e) h
/-- a rule for the data that it serves -/
theorem opS {f : Value → Value → Sem Value} {g : D → D → Option R} {r : R2} (ho : OpR X f r)
    (h : ∀ F H x y dx dy z Q, Ex F H → RO X.K F H x dx → RO X.K F H y dy → g dx dy = some z → Wants X.K F H z Q → r x y H Q) : OpR X f (OpS X.K g) := by
  intro pins s σ H x y v u Q I rx ry ⟨F, dx, dy, z, e, h1, h2, h3, w⟩
  exact ho pins s σ H x y v u Q I rx ry (h F H x y dx dy z Q e h1 h2 h3 w)
end
/-- lists that stand among the module's own or in the heap -/
theorem fits_le {n : Nat} (h : fits n = true) : n ≤ sizeLine := of_decide_eq_true h
end Sm

set_option maxRecDepth 100000
set_option maxHeartbeats 4000000
namespace L2
open PySem PySem.Spec PyProof.Rows
theorem tuple_mulW1 (l : Addr) (items : Array Value) (n : Nat) (dd : Option Addr) (sl : Array (Option Value)) (x : Int) (u : Tok) (c0 : (decide (x < -(2 ^ 63)) || decide (x ≥ 2 ^ 63)) = false) (c1 : (items.isEmpty || x == 1) = true) :
    Meets (Builtin.«tuple.__mul__» ⟨[.ref l, .int x u], []⟩) (fun _ R s => s.heap.get? l = some { cls := .type "tuple", dict := dd, data := .seq items n, slots := sl } ∧
      R (.ok (.ret (Value.ref l))) s) :=
  .of_wp fun prog w A R s h => by
    obtain ⟨hp, g, d, tk, os⟩ := s
    obtain ⟨hl, h⟩ := h
    have f1 := AutoSeq1.idx_int
    wp_walk using wpAny_loadPart' hl
    repeat (first
      | (refine wpAny_ite_false (decide_eq_false (by rw [c0]; exact Bool.false_ne_true)) ?_; wp_walk using wpAny_loadPart' hl)
      | (refine wpAny_ite_true (decide_eq_true (by rw [c1])) ?_; wp_walk using wpAny_loadPart' hl))
    exact ⟨_, rfl, h⟩
theorem tuple_mulW0 (l : Addr) (items : Array Value) (n : Nat) (dd : Option Addr) (sl : Array (Option Value)) (x : Int) (u : Tok) (c0 : (decide (x < -(2 ^ 63)) || decide (x ≥ 2 ^ 63)) = false) (c1 : (items.isEmpty || x == 1) = false) (c2 : (decide (x ≤ 0) || items.isEmpty) = true) :
    Meets (Builtin.«tuple.__mul__» ⟨[.ref l, .int x u], []⟩) (fun _ R s => s.heap.get? l = some { cls := .type "tuple", dict := dd, data := .seq items n, slots := sl } ∧
      R (.ok (.ret (Value.ref s.heap.objs.size))) { s with heap := s.heap.push { cls := Value.type "tuple", data := Data.seq #[] }, toks := s.toks }) :=
  .of_wp fun prog w A R s h => by
    obtain ⟨hp, g, d, tk, os⟩ := s
    obtain ⟨hl, h⟩ := h
    have f1 := AutoSeq1.idx_int
    wp_walk using wpAny_loadPart' hl
    repeat (first
      | (refine wpAny_ite_false (decide_eq_false (by rw [c0]; exact Bool.false_ne_true)) ?_; wp_walk using wpAny_loadPart' hl)
      | (refine wpAny_ite_false (decide_eq_false (by rw [c1]; exact Bool.false_ne_true)) ?_; wp_walk using wpAny_loadPart' hl)
      | (refine wpAny_ite_true (decide_eq_true (by rw [c2])) ?_; wp_walk using wpAny_loadPart' hl))
    exact ⟨_, rfl, h⟩
def rRepA (K : PySem.W.Frag) : R2 := fun x y H Q => ∃ l k xs, x = .ref l ∧ y = .int k ∧ SqT K H l xs ∧ -(2 ^ 63) ≤ k ∧ k < 2 ^ 63 ∧ ((xs = [] ∨ k = 1) → Q (.ref l) H) ∧ (xs ≠ [] → k ≠ 1 → k ≤ 0 → ∀ p, H p = none → Q (.ref p) (upd H p (.tup []))) ∧
  (xs ≠ [] → 2 ≤ k → k ≤ 1000 ∧ xs.length ≤ 1000 ∧ ∀ p, H p = none → Q (.ref p) (upd H p (.tup (List.replicate k.toNat xs).flatten)))
theorem op_repA {X : Cx} : OpR X (binaryOp .Mult) (rRepA X.K) := by
  intro pins s σ H x y v u Q I rx ry h
  obtain ⟨l, k, xs, rfl, rfl, hT, b1, b2, q1, q2, q3⟩ := h
  by_cases hc : xs ≠ [] ∧ 2 ≤ k
  · obtain ⟨z1, z2, z3⟩ := q3 hc.1 hc.2
    exact op_repT pins s σ H _ _ v u Q I rx ry ⟨l, k, xs, rfl, rfl, hT, hc.1, hc.2, z1, z2, z3⟩
  cases rx
  obtain ⟨t, rfl⟩ := ry
  obtain ⟨its, r, ⟨⟨cls, dd, data, sl⟩, ho, hc', n, hd⟩, hs⟩ := I.tuple hT
  simp only at hc' hd
  subst hc' hd
  have hle : its.length = xs.length := r.length.symm
  have c0 : (decide (k < -(2 ^ 63)) || decide (k ≥ 2 ^ 63)) = false := by
    rw [decide_eq_false (by omega), decide_eq_false (by omega)] <;> rfl
  have hemp : its.toArray.isEmpty = xs.isEmpty := by
    cases its <;> cases xs <;> first | rfl | (simp at hle)
  by_cases h1 : xs = [] ∨ k = 1
  · have c1 : (its.toArray.isEmpty || k == 1) = true := by
      rw [hemp, Bool.or_eq_true]
      rcases h1 with h1 | h1
      · subst h1; exact .inl rfl
      · subst h1; exact .inr rfl
    exact wpAny_binaryOp_repeat_ref (T := "tuple") (U := "int") (by decide) ⟨_, ho, rfl⟩ (fun s' => typeIs_int s' k t) noFill_tuple_mul F.fills_int_mul F.slot_int_rmul repeat_tuple F.slot_int_index.lookup
      (call_meets F.slot_int_rmul (typeIs_int s k t) F.entry_int_rmul (F.args_int_rmul_2 _ _) (int_rmul_tuple k t l its.toArray n dd sl)
        ⟨ho, rfl, ⟨_, ho, rfl⟩, call_meets F.slot_tuple_mul ⟨_, ho, rfl⟩ F.entry_tuple_mul (F.args_tuple_mul_2 _ _) (tuple_mulW1 l its.toArray n dd sl k t c0 c1) ⟨ho, ⟨.ref l, H, I, rfl, q1 h1⟩⟩⟩)
  · have hne : xs ≠ [] := fun e => h1 (.inl e)
    have hk1 : k ≠ 1 := fun e => h1 (.inr e)
    have hk0 : k ≤ 0 := by
      by_cases z : 2 ≤ k
      · exact absurd ⟨hne, z⟩ hc
      · omega
    have hx : xs.isEmpty = false := by cases xs with
      | nil => exact absurd rfl hne
      | cons _ _ => rfl
    have c1 : (its.toArray.isEmpty || k == 1) = false := by
      rw [hemp, hx, Bool.false_or]
      exact beq_eq_false_iff_ne.mpr hk1
    have c2 : (decide (k ≤ 0) || its.toArray.isEmpty) = true := by
      rw [decide_eq_true hk0]; rfl
    refine wpAny_binaryOp_repeat_ref (T := "tuple") (U := "int") (by decide) ⟨_, ho, rfl⟩ (fun s' => typeIs_int s' k t) noFill_tuple_mul F.fills_int_mul F.slot_int_rmul repeat_tuple F.slot_int_index.lookup
      (call_meets F.slot_int_rmul (typeIs_int s k t) F.entry_int_rmul (F.args_int_rmul_2 _ _) (int_rmul_tuple k t l its.toArray n dd sl)
        ⟨ho, rfl, ⟨_, ho, rfl⟩, call_meets F.slot_tuple_mul ⟨_, ho, rfl⟩ F.entry_tuple_mul (F.args_tuple_mul_2 _ _) (tuple_mulW0 l its.toArray n dd sl k t c0 c1 c2) ⟨ho, ?_⟩⟩)
    refine ⟨.ref s.heap.objs.size, _, I.laid (t' := s.toks) (o := .tup []) (fun b ob q => Heap.get?_push_of_some _ q) (Nat.le_refl _) ?_, rfl, q2 hne hk1 hk0 _ (I.hok.fresh (Nat.le_refl _))⟩
    exact ⟨Nat.zero_le _, [], .nil, IsTup.new _ _⟩
end L2
namespace Sm
open PySem L2
section
variable {X : Cx}
theorem smallF_lt {i : Int} (h : smallF i = true) : -(2 ^ 64) < i ∧ i < 2 ^ 64 := by
  have h := Nat.le_of_ble_eq_true h
  omega
theorem smallF_of {i j : Int} (h : (smallF i || smallF j) = true) : CMul i j := by
  rw [Bool.or_eq_true] at h
  rcases h with h | h
  · exact .inl (smallF_lt h)
  · exact .inr (smallF_lt h)
theorem posF_of {j : Int} (h : posF j = true) : 0 < j ∧ j < 1073741824 := by
  unfold posF at h
  rw [Bool.and_eq_true] at h
  have h1 := Nat.le_of_ble_eq_true h.1
  have h2 := Nat.le_of_ble_eq_true h.2
  omega
theorem posI_of {j : Int} (h : posI j = true) : 0 < j := by
  have h1 := Nat.le_of_ble_eq_true h
  omega
theorem ifs {α : Type} {c : Bool} {a : α} {z : α} (h : (if c = true then some a else none) = some z) : c = true ∧ a = z := by
  by_cases q : c = true
  · rw [if_pos q] at h; exact ⟨q, Option.some.inj h⟩
  · rw [if_neg q] at h; cases h
/-- a list as it stands in the heap -/
theorem rdList {pins : List (Addr × Obj)} {σ : St} {H : Hp} {s : Shared} {l : Addr} {xs : List V} (I : Inv X pins σ H s) (h : Rd H l (.lst xs)) :
    xs.length ≤ sizeLine ∧ ∃ (its : List Value) (n : Nat), Vals xs its ∧ s.heap.get? l = some { cls := .type "list", data := .seq its.toArray n } := h.ok I.hok
def rCatS : R2 := fun x y H Q => ∃ l b xs zs, x = .ref l ∧ y = .ref b ∧ Rd H l (.lst xs) ∧ Rd H b (.lst zs) ∧ xs.length + zs.length ≤ sizeLine ∧ ∀ p, H p = none → Q (.ref p) (upd H p (.lst (xs ++ zs)))
theorem op_catS : OpR X (binaryOp .Add) rCatS := by
  intro pins s σ H x y v u Q I rx ry ⟨l, b, xs, zs, ex, ey, hl, hb, hz, q⟩
  subst ex ey
  cases rx; cases ry
  obtain ⟨_, i1, n1, r1, g1⟩ := rdList I hl
  obtain ⟨_, i2, n2, r2, g2⟩ := rdList I hb
  have l1 := r1.length
  have l2 := r2.length
  refine PySem.P.add_list g1 g2 ?_ (by simp only [List.size_toArray]; omega)
  have hn := I.lnew (its := i1 ++ i2) (t' := s.toks) (r1.append r2) (by rw [List.length_append]; exact hz)
  refine ⟨.ref _, _, ?_, rfl, q _ I.fresh⟩
  rw [show i1.toArray ++ i2.toArray = (i1 ++ i2).toArray by simp]
  exact hn
theorem sAdd : OpR X (binaryOp .Add) (OpS X.K addD) := by
  refine opS (r := fun x y H Q => (rI0 (fun i j => .int (i + j)) x y H Q) ∨ (∃ i j, x = .str i ∧ y = .str j ∧ i.length + j.length ≤ sizeLine ∧ Q (.str (i ++ j)) H) ∨ rCatS x y H Q ∨ rCatA X.K x y H Q) (op_add.or (op_add_str.or (op_catS.or op_catA))) ?_
  intro F H x y dx dy z Q e hx hy hz w
  cases dx <;> cases dy <;> simp only [addD, reduceCtorEq] at hz
  · cases hz
    exact .inl ⟨_, _, hx.int, hy.int, wants_d w e rfl⟩
  · obtain ⟨c, rfl⟩ := ifs hz
    exact .inr (.inl ⟨_, _, hx.str, hy.str, fits_le c, wants_d w e rfl⟩)
  · obtain ⟨c, rfl⟩ := ifs hz
    obtain ⟨a, vs, rfl, ha, ra⟩ := hx.lst e
    obtain ⟨b, ws, rfl, hb, rb⟩ := hy.lst e
    exact .inr (.inr (.inl ⟨a, b, vs, ws, rfl, rfl, ha, hb, by rw [ra.len, rb.len]; exact fits_le c, fun p hp => w _ _ _ (.made e hp) ⟨p, rfl, hp, e.free hp, _, upd_same, ra.app rb⟩⟩))
  · obtain ⟨c, rfl⟩ := ifs hz
    rename_i ds es
    obtain ⟨a, vs, rfl, ha, ra⟩ := hx.tup e
    obtain ⟨b, ws, rfl, hb, rb⟩ := hy.tup e
    have la := ra.len
    have lb := rb.len
    refine .inr (.inr (.inr ⟨a, b, vs, ws, rfl, rfl, ha, hb, by rw [ra.len, rb.len]; exact fits_le c, fun q => ?_, fun _ q => ?_, fun _ _ p hp => ?_⟩))
    · subst q
      cases ds with
      | nil => rcases hy with hy | ⟨_, _, h⟩
               · exact wants_d w e hy
               · exact h.elim
      | cons _ _ => cases la
    · subst q
      cases es with
      | nil => rcases hx with hx | ⟨_, _, h⟩
               · rw [List.append_nil] at w; exact wants_d w e hx
               · exact h.elim
      | cons _ _ => cases lb
    · exact w _ _ _ (.laid e hp) ⟨p, _, rfl, SqT.of upd_same, RDs.mono (Ex.upd (e.free hp)) _ _ (ra.app rb)⟩
theorem sSub : OpR X (binaryOp .Sub) (OpS X.K subD) := by
  refine opS op_sub ?_
  intro F H x y dx dy z Q e hx hy hz w
  cases dx <;> cases dy <;> simp only [subD, reduceCtorEq] at hz
  cases hz
  exact ⟨_, _, hx.int, hy.int, wants_d w e rfl⟩
theorem idx_of {k : Int} (h : idx k = true) : -(2 ^ 63) ≤ k ∧ k < 2 ^ 63 := by
  have h := Nat.le_of_ble_eq_true h
  omega
theorem sFdiv : OpR X (binaryOp .FloorDiv) (OpS X.K fdivD) := by
  refine opS op_fdiv ?_
  intro F H x y dx dy z Q e hx hy hz w
  cases dx <;> cases dy <;> simp only [fdivD, reduceCtorEq] at hz
  obtain ⟨c, rfl⟩ := ifs hz
  exact ⟨_, _, hx.int, hy.int, posF_of c, wants_d w e rfl⟩
theorem sMod : OpR X (binaryOp .Mod) (OpS X.K modD) := by
  refine opS op_mod ?_
  intro F H x y dx dy z Q e hx hy hz w
  cases dx <;> cases dy <;> simp only [modD, reduceCtorEq] at hz
  obtain ⟨c, rfl⟩ := ifs hz
  exact ⟨_, _, hx.int, hy.int, posI_of c, wants_d w e rfl⟩
theorem sPow : OpR X (binaryOp .Pow) (OpS X.K powD) := by
  refine opS op_pow ?_
  intro F H x y dx dy z Q e hx hy hz w
  cases dx <;> cases dy <;> simp only [powD, reduceCtorEq] at hz
  obtain ⟨c, rfl⟩ := ifs hz
  simp only [Bool.and_eq_true, decide_eq_true_eq] at c
  exact ⟨_, _, hx.int, hy.int, ⟨c.1.1, c.1.2, c.2⟩, wants_d w e rfl⟩
/-! comparisons -/
def OpC (K : PySem.W.Frag) (f : D → D → Option Bool) : R2 := OpS K fun x y => (f x y).map fun b => .d (.bool b)
theorem opC {f : Value → Value → Sem Value} {g : D → D → Option Bool} {r : R2} (ho : OpR X f r)
    (h : ∀ F H x y dx dy b Q, Ex F H → RO X.K F H x dx → RO X.K F H y dy → g dx dy = some b → Q (.bl b) H → r x y H Q) : OpR X f (OpC X.K g) := by
  refine opS ho ?_
  intro F H x y dx dy z Q e hx hy hz w
  cases q : g dx dy with
  | none => rw [q] at hz; cases hz
  | some b =>
    rw [q] at hz
    cases hz
    exact h F H x y dx dy b Q e hx hy q (wants_d w e rfl)
theorem sInts {op : CmpOp} {p : Int → Int → Bool} (ho : OpR X (compareOp op) (rI0 fun i j => .bl (p i j))) : OpR X (compareOp op) (OpC X.K (intsB p)) := by
  refine opC ho ?_
  intro F H x y dx dy b Q e hx hy hz q
  cases dx <;> cases dy <;> simp only [intsB, reduceCtorEq] at hz
  cases hz
  exact ⟨_, _, hx.int, hy.int, q⟩
def rEqT0 (K : PySem.W.Frag) : R2 := fun x y H Q => ∃ a b xs, x = .ref a ∧ y = .ref b ∧ SqT K H a xs ∧ SqT K H b [] ∧ Q (.bl xs.isEmpty) H
theorem op_eqT0 (hu : X.A.units + 65 < cLine) : OpR X (compareOp .Eq) (rEqT0 X.K) := by
  intro pins s σ H x y v u Q I rx ry h
  obtain ⟨a, b, xs, rfl, rfl, h1, h2, q⟩ := h
  cases rx; cases ry
  obtain ⟨ia, ra, ta, _⟩ := I.tuple h1
  obtain ⟨ib, rb, tb, _⟩ := I.tuple h2
  have eb : ib = [] := by
    have := rb.length
    cases ib with
    | nil => rfl
    | cons _ _ => simp at this
  subst eb
  refine PySem.W.eq_tuplesT (n := 0) (e := fun _ => true) ta tb (fun j _ h => absurd h (by simp)) (by omega) ?_
  have la := ra.length
  have : ((List.range (min ia.toArray.size ([] : List Value).toArray.size)).all (fun _ => true) && ia.toArray.size == ([] : List Value).toArray.size) = xs.isEmpty := by
    cases xs with
    | nil => cases ia with
      | nil => rfl
      | cons _ _ => simp at la
    | cons _ _ => cases ia with
      | nil => simp at la
      | cons _ _ => rfl
  rw [this]
  exact ⟨.bl _, H, I, rfl, q⟩
theorem strEq_some {x y : PyData} {b : Bool} (h : strEq x y = some b) : ∃ i j, x = .str i ∧ y = .str j ∧ b = decide (i = j) := by
  cases x <;> cases y <;> simp [strEq] at h
  exact ⟨_, _, rfl, rfl, h.symm⟩
theorem dec_str {i j : Str} : decide (V.str i = V.str j) = decide (i = j) := by
  by_cases h : i = j
  · rw [decide_eq_true h, decide_eq_true (by rw [h])]
  · rw [decide_eq_false h, decide_eq_false (fun z => h (by cases z; rfl))]
def rEqL0 (K : PySem.W.Frag) : R2 := fun x y H Q => ∃ a b xs, x = .ref a ∧ y = .ref b ∧ SqL K H a xs ∧ SqL K H b [] ∧ Q (.bl xs.isEmpty) H
def rNeL0 (K : PySem.W.Frag) : R2 := fun x y H Q => ∃ a b xs, x = .ref a ∧ y = .ref b ∧ SqL K H a xs ∧ SqL K H b [] ∧ Q (.bl (!xs.isEmpty)) H
def rNeT0 (K : PySem.W.Frag) : R2 := fun x y H Q => ∃ a b xs, x = .ref a ∧ y = .ref b ∧ SqT K H a xs ∧ SqT K H b [] ∧ Q (.bl (!xs.isEmpty)) H
theorem rel_nil {its : List Value} (r : Vals [] its) : its = [] := by
  have := r.length
  cases its with
  | nil => rfl
  | cons _ _ => simp at this
theorem rel_ne {x : V} {xs : List V} {its : List Value} (r : Vals (x :: xs) its) : (its.toArray.size != ([] : List Value).toArray.size) = true := by
  have := r.length
  cases its with
  | nil => simp at this
  | cons _ _ => rfl
theorem op_eqL0 (hu : X.A.units + 65 < cLine) : OpR X (compareOp .Eq) (rEqL0 X.K) := by
  intro pins s σ H x y v u Q I rx ry h
  obtain ⟨a, b, xs, rfl, rfl, h1, h2, q⟩ := h
  cases rx; cases ry
  obtain ⟨ia, ra, ta, _⟩ := I.list h1
  obtain ⟨ib, rb, tb, _⟩ := I.list h2
  cases rel_nil rb
  cases xs with
  | nil =>
    cases rel_nil ra
    exact SeqAt.RcAt.lists (e := fun _ => true) ta.isList tb.isList rfl (by omega) (fun j h _ => absurd h (by simp)) X.prog X.w _ _ ⟨.bl true, H, I, rfl, q⟩
  | cons z zs => exact SeqAt.RcAt.lists_lengths ta.isList tb.isList (rel_ne ra) (by omega) X.prog X.w _ _ ⟨.bl false, H, I, rfl, q⟩
theorem op_neL0 (hu : X.A.units + 65 < cLine) : OpR X (compareOp .NotEq) (rNeL0 X.K) := by
  intro pins s σ H x y v u Q I rx ry h
  obtain ⟨a, b, xs, rfl, rfl, h1, h2, q⟩ := h
  cases rx; cases ry
  obtain ⟨ia, ra, ta, _⟩ := I.list h1
  obtain ⟨ib, rb, tb, _⟩ := I.list h2
  cases rel_nil rb
  cases xs with
  | nil =>
    cases rel_nil ra
    exact SeqAt.RcNeAt.lists (e := fun _ => true) ta.isList tb.isList rfl (by omega) (fun j h _ => absurd h (by simp)) X.prog X.w _ _ ⟨.bl false, H, I, rfl, q⟩
  | cons z zs => exact SeqAt.RcNeAt.lists_lengths ta.isList tb.isList (rel_ne ra) (by omega) X.prog X.w _ _ ⟨.bl true, H, I, rfl, q⟩
theorem op_neT0 (hu : X.A.units + 65 < cLine) : OpR X (compareOp .NotEq) (rNeT0 X.K) := by
  intro pins s σ H x y v u Q I rx ry h
  obtain ⟨a, b, xs, rfl, rfl, h1, h2, q⟩ := h
  cases rx; cases ry
  obtain ⟨ia, ra, ta, _⟩ := I.tuple h1
  obtain ⟨ib, rb, tb, _⟩ := I.tuple h2
  cases rel_nil rb
  refine SeqAt.RcNeAt.tuples (e := fun _ => true) ta tb (by omega) (fun j _ h => absurd h (by simp)) X.prog X.w _ _ ?_
  have la := ra.length
  have : (!((List.range (min ia.toArray.size ([] : List Value).toArray.size)).all (fun _ => true) && ia.toArray.size == ([] : List Value).toArray.size)) = !xs.isEmpty := by
    cases xs with
    | nil => cases rel_nil ra; rfl
    | cons _ _ => cases ia with
      | nil => simp at la
      | cons _ _ => rfl
  rw [this]
  exact ⟨.bl _, H, I, rfl, q⟩
theorem eqT0_split {x y : PyData} {b : Bool} (h : eqT0 x y = some b) : (∃ xs, x = .tuple xs ∧ y = .tuple [] ∧ b = xs.isEmpty) ∨ ∃ xs, x = .list xs ∧ y = .list [] ∧ b = xs.isEmpty := by
  unfold eqT0 at h
  split at h
  · cases h; exact .inl ⟨_, rfl, rfl, rfl⟩
  · cases h; exact .inr ⟨_, rfl, rfl, rfl⟩
  · cases h
theorem emp_eq {K : PySem.W.Frag} {F : Hp} {vs : List V} {xs : List PyData} (h : RDs K F vs xs) : vs.isEmpty = xs.isEmpty := by
  have := h.len
  cases vs <;> cases xs <;> first | rfl | (simp at this)
theorem sEq (hu : X.A.units + 65 < cLine) : OpR X (compareOp .Eq) (OpC X.K eqD) := by
  refine opC (r := fun x y H Q => rEqD X.K x y H Q ∨ (rEqT0 X.K x y H Q ∨ (rEqL0 X.K x y H Q ∨ rEq x y H Q))) ((op_eqD (by omega)).or ((op_eqT0 hu).or ((op_eqL0 hu).or op_eq))) ?_
  intro F H x y dx dy b Q e hx hy hz q
  unfold eqD at hz
  split at hz
  · rename_i c e2
    cases hz
    obtain ⟨i, j, rfl, rfl, rfl⟩ := strEq_some e2
    rw [hx.str, hy.str]
    exact .inr (.inr (.inr ⟨rfl, by rw [dec_str]; exact q⟩))
  · split at hz
    · rename_i c
      rw [Bool.and_eq_true] at c
      cases hz
      exact .inl ⟨dx, dy, hx.dp e c.1, hy.dp e c.2, c.1, c.2, q⟩
    · rcases eqT0_split hz with ⟨xs, rfl, rfl, rfl⟩ | ⟨xs, rfl, rfl, rfl⟩
      · obtain ⟨a, vs, rfl, ha, ra⟩ := hx.tup e
        obtain ⟨a2, ws, rfl, hb, rb⟩ := hy.tup e
        cases (show ws = [] from rb)
        exact .inr (.inl ⟨a, a2, vs, rfl, rfl, ha, hb, by rw [emp_eq ra]; exact q⟩)
      · obtain ⟨a, vs, rfl, ha, ra⟩ := hx.lst e
        obtain ⟨a2, ws, rfl, hb, rb⟩ := hy.lst e
        cases (show ws = [] from rb)
        exact .inr (.inr (.inl ⟨a, a2, vs, rfl, rfl, .inl ha, .inl hb, by rw [emp_eq ra]; exact q⟩))
theorem sNe (hu : X.A.units + 65 < cLine) : OpR X (compareOp .NotEq) (OpC X.K neD) := by
  refine opC (r := fun x y H Q => rNeD X.K x y H Q ∨ (rNeT0 X.K x y H Q ∨ (rNeL0 X.K x y H Q ∨ rNe x y H Q))) ((op_neD (by omega)).or ((op_neT0 hu).or ((op_neL0 hu).or op_ne))) ?_
  intro F H x y dx dy b Q e hx hy hz q
  unfold neD at hz
  split at hz
  · rename_i c e2
    cases hz
    obtain ⟨i, j, rfl, rfl, rfl⟩ := strEq_some e2
    rw [hx.str, hy.str]
    exact .inr (.inr (.inr ⟨rfl, by rw [dec_str]; exact q⟩))
  · split at hz
    · rename_i c
      rw [Bool.and_eq_true] at c
      cases hz
      exact .inl ⟨dx, dy, hx.dp e c.1, hy.dp e c.2, c.1, c.2, q⟩
    · obtain ⟨b', hz', rfl⟩ := Option.map_eq_some_iff.mp hz
      rcases eqT0_split hz' with ⟨xs, rfl, rfl, rfl⟩ | ⟨xs, rfl, rfl, rfl⟩
      · obtain ⟨a, vs, rfl, ha, ra⟩ := hx.tup e
        obtain ⟨a2, ws, rfl, hb, rb⟩ := hy.tup e
        cases (show ws = [] from rb)
        exact .inr (.inl ⟨a, a2, vs, rfl, rfl, ha, hb, by rw [emp_eq ra]; exact q⟩)
      · obtain ⟨a, vs, rfl, ha, ra⟩ := hx.lst e
        obtain ⟨a2, ws, rfl, hb, rb⟩ := hy.lst e
        cases (show ws = [] from rb)
        exact .inr (.inr (.inl ⟨a, a2, vs, rfl, rfl, .inl ha, .inl hb, by rw [emp_eq ra]; exact q⟩))
def rInTD (K : PySem.W.Frag) : R2 := fun x y H Q => ∃ d ds, Dp K H x d ∧ Dp K H y (.tuple ds) ∧ SeqAt.shaped d = true ∧ SeqAt.shaped (.tuple ds) = true ∧ Q (.bl (ds.any fun z => PyData.eqv z d)) H
def rNotInTD (K : PySem.W.Frag) : R2 := fun x y H Q => ∃ d ds, Dp K H x d ∧ Dp K H y (.tuple ds) ∧ SeqAt.shaped d = true ∧ SeqAt.shaped (.tuple ds) = true ∧ Q (.bl (!ds.any fun z => PyData.eqv z d)) H
theorem op_inTD (hu : X.A.units + 65 < cLine) : OpR X (compareOp .In) (rInTD X.K) := by
  intro pins s σ H x y v u Q I rx ry ⟨d, ds, hd, he, sd, se, q⟩
  obtain ⟨_, r1⟩ := Dp.reads I d x v hd rx
  obtain ⟨_, r2⟩ := Dp.reads I (.tuple ds) y u he ry
  exact SeqAt.in_tuple_reads r2 r1 (SeqAt.canLay_of_shaped se) (SeqAt.canLay_of_shaped sd) (PyProof.Rows.room_in_shaped sd hu) ⟨.bl _, H, I, rfl, q⟩
theorem op_notInTD (hu : X.A.units + 65 < cLine) : OpR X (compareOp .NotIn) (rNotInTD X.K) := by
  intro pins s σ H x y v u Q I rx ry ⟨d, ds, hd, he, sd, se, q⟩
  obtain ⟨_, r1⟩ := Dp.reads I d x v hd rx
  obtain ⟨_, r2⟩ := Dp.reads I (.tuple ds) y u he ry
  exact SeqAt.notIn_tuple_reads r2 r1 (SeqAt.canLay_of_shaped se) (SeqAt.canLay_of_shaped sd) (PyProof.Rows.room_in_shaped sd hu) ⟨.bl _, H, I, rfl, q⟩
theorem flat_rd {K : PySem.W.Frag} {F : Hp} {v : V} : ∀ {d : PyData}, flatD d = true → RD K F v d → flatV v = true ∧ ∀ {u : V} {e : PyData}, flatD e = true → RD K F u e → eqV v u = PyData.eqv d e
  | .none, _, h => by
    have h : v = .non := h
    subst h
    refine ⟨rfl, fun {u e} he hu => ?_⟩
    cases e <;> first | (cases he; done) | (have hu : u = _ := hu; subst hu; rfl)
  | .bool b, _, h => by
    have h : v = .bl b := h
    subst h
    refine ⟨rfl, fun {u e} he hu => ?_⟩
    cases e <;> first | (cases he; done) | (have hu : u = _ := hu; subst hu; rfl)
  | .int b, _, h => by
    have h : v = .int b := h
    subst h
    refine ⟨rfl, fun {u e} he hu => ?_⟩
    cases e <;> first | (cases he; done) | (have hu : u = _ := hu; subst hu; rfl)
  | .str b, _, h => by
    have h : v = .str b := h
    subst h
    refine ⟨rfl, fun {u e} he hu => ?_⟩
    cases e <;> first | (cases he; done) | (have hu : u = _ := hu; subst hu; rfl)
  | .list _, h, _ => by cases h
  | .tuple _, h, _ => by cases h
  | .dict _, h, _ => by cases h
theorem flat_ro {K : PySem.W.Frag} {F H : Hp} {v : V} {d : PyData} (h : flatD d = true) (r : RO K F H v d) : RD K F v d := by
  rcases r with r | ⟨a, _, r⟩
  · exact r
  · cases d <;> first | (cases h; done) | exact r.elim
theorem flat_rds {K : PySem.W.Frag} {F : Hp} {x : V} {dx : PyData} (hx : flatD dx = true) (rx : RD K F x dx) : ∀ {ds : List PyData} {vs : List V}, ds.all flatD = true → RDs K F vs ds → vs.all flatV = true ∧ inV x vs = ds.any fun z => PyData.eqv z dx
  | [], _, _, h => by have h : _ = [] := h; subst h; exact ⟨rfl, rfl⟩
  | d :: ds, _, c, ⟨v, r, h1, h2, h3⟩ => by
    subst h1
    rw [List.all_cons, Bool.and_eq_true] at c
    obtain ⟨f1, f2⟩ := flat_rd c.1 h2
    obtain ⟨g1, g2⟩ := flat_rds hx rx c.2 h3
    refine ⟨by rw [List.all_cons, f1, g1]; rfl, ?_⟩
    unfold inV at g2 ⊢
    rw [List.any_cons, List.any_cons, g2, f2 hx rx]
theorem sIn (hu : X.A.units + 65 < cLine) : OpR X (compareOp .In) (OpC X.K inD) := by
  refine opC ((op_in_seq).or ((op_inD hu).or (op_inTD hu))) ?_
  intro F H x y dx dy b Q e hx hy hz q
  cases dy <;> simp only [inD, reduceCtorEq] at hz
  · obtain ⟨c, rfl⟩ := ifs hz
    rw [Bool.or_eq_true] at c
    rcases c with c | c <;> rw [Bool.and_eq_true] at c
    · obtain ⟨a, vs, rfl, ha, ra⟩ := hy.lst e
      have rx := flat_ro c.1 hx
      obtain ⟨g1, g2⟩ := flat_rds c.1 rx c.2 ra
      exact .inl ⟨a, vs, rfl, .inl (.inl ha), (flat_rd c.1 rx).1, g1, by rw [g2]; exact q⟩
    · exact .inr (.inl ⟨dx, _, hx.dp e c.1, hy.dp e c.2, c.1, c.2, q⟩)
  · obtain ⟨c, rfl⟩ := ifs hz
    rw [Bool.or_eq_true] at c
    rcases c with c | c <;> rw [Bool.and_eq_true] at c
    · obtain ⟨a, vs, rfl, ha, ra⟩ := hy.tup e
      have rx := flat_ro c.1 hx
      obtain ⟨g1, g2⟩ := flat_rds c.1 rx c.2 ra
      exact .inl ⟨a, vs, rfl, .inr ha, (flat_rd c.1 rx).1, g1, by rw [g2]; exact q⟩
    · exact .inr (.inr ⟨dx, _, hx.dp e c.1, hy.dp e c.2, c.1, c.2, q⟩)
theorem sNotIn (hu : X.A.units + 65 < cLine) : OpR X (compareOp .NotIn) (OpC X.K fun x y => (inD x y).map (!·)) := by
  refine opC ((op_notIn_seq).or ((op_notInD hu).or (op_notInTD hu))) ?_
  intro F H x y dx dy b Q e hx hy hz q
  cases h : inD dx dy with
  | none => rw [h] at hz; cases hz
  | some k =>
    rw [h] at hz
    cases hz
    cases dy <;> simp only [inD, reduceCtorEq] at h
    · obtain ⟨c, rfl⟩ := ifs h
      rw [Bool.or_eq_true] at c
      rcases c with c | c <;> rw [Bool.and_eq_true] at c
      · obtain ⟨a, vs, rfl, ha, ra⟩ := hy.lst e
        have rx := flat_ro c.1 hx
        obtain ⟨g1, g2⟩ := flat_rds c.1 rx c.2 ra
        exact .inl ⟨a, vs, rfl, .inl (.inl ha), (flat_rd c.1 rx).1, g1, by rw [g2]; exact q⟩
      · exact .inr (.inl ⟨dx, _, hx.dp e c.1, hy.dp e c.2, c.1, c.2, q⟩)
    · obtain ⟨c, rfl⟩ := ifs h
      rw [Bool.or_eq_true] at c
      rcases c with c | c <;> rw [Bool.and_eq_true] at c
      · obtain ⟨a, vs, rfl, ha, ra⟩ := hy.tup e
        have rx := flat_ro c.1 hx
        obtain ⟨g1, g2⟩ := flat_rds c.1 rx c.2 ra
        exact .inl ⟨a, vs, rfl, .inr ha, (flat_rd c.1 rx).1, g1, by rw [g2]; exact q⟩
      · exact .inr (.inr ⟨dx, _, hx.dp e c.1, hy.dp e c.2, c.1, c.2, q⟩)
theorem sMul : OpR X (binaryOp .Mult) (OpS X.K mulD) := by
  refine opS (op_mul.or op_repA) ?_
  intro F H x y dx dy z Q e hx hy hz w
  cases dx <;> cases dy <;> simp only [mulD, reduceCtorEq] at hz
  · obtain ⟨c, rfl⟩ := ifs hz
    exact .inl ⟨_, _, hx.int, hy.int, smallF_of c, wants_d w e rfl⟩
  · obtain ⟨c, rfl⟩ := ifs hz
    obtain ⟨a, vs, rfl, ha, ra⟩ := hx.tup e
    rename_i ds k
    rw [Bool.and_eq_true] at c
    obtain ⟨ci, c⟩ := c
    have ci := idx_of ci
    have hself : RD X.K F (.ref a) (.tuple ds) := by
      rcases hx with hx | ⟨_, _, h⟩
      · exact hx
      · exact h.elim
    have hl := ra.len
    refine .inr ⟨a, _, vs, rfl, hy.int, ha, ci.1, ci.2, fun q => ?_, fun q1 q2 q3 p hp => ?_, fun q1 q2 => ?_⟩
    · have : rep k ds = ds := by
        unfold rep
        rcases q with q | q
        · subst q
          cases ds with
          | nil => rw [List.flatten_replicate_nil]
          | cons _ _ => simp at hl
        · subst q
          simp
      rw [this] at w
      exact wants_d w e hself
    · have : rep k ds = [] := by
        unfold rep
        rw [Int.toNat_of_nonpos q3]
        rfl
      rw [this] at w
      exact w _ _ _ (.laid e hp) ⟨p, [], rfl, SqT.of upd_same, rfl⟩
    · have hne : ds.isEmpty = false := by
        cases ds with
        | nil => cases vs with
          | nil => exact absurd rfl q1
          | cons _ _ => simp at hl
        | cons _ _ => rfl
      rw [hne, Bool.false_or, Bool.or_eq_true, Bool.and_eq_true, decide_eq_true_eq, decide_eq_true_eq, decide_eq_true_eq] at c
      rcases c with c | ⟨c1, c2⟩
      · omega
      · exact ⟨c1, by rw [hl]; exact c2, fun p hp => w _ _ _ (.laid e hp) ⟨p, _, rfl, SqT.of upd_same, RDs.mono (Ex.upd (e.free hp)) _ _ (RDs.rep ra _)⟩⟩
theorem sBin (o : BO) (hu : X.A.units + 65 < cLine) : OpR X (binaryOp (match o with | .add => .Add | .sub => .Sub | .mul => .Mult | .fdiv => .FloorDiv | .mod => .Mod | .pow => .Pow)) (OpS X.K (binD o)) := by
  cases o
  · exact sAdd
  · exact sSub
  · exact sMul
  · exact sFdiv
  · exact sMod
  · exact sPow
def opOf : CO → CmpOp
  | .eq => .Eq | .ne => .NotEq | .lt => .Lt | .le => .LtE | .gt => .Gt | .ge => .GtE | .isIn => .In | .notIn => .NotIn
theorem sCmp (o : CO) (hu : X.A.units + 65 < cLine) : OpR X (compareOp (opOf o)) (OpC X.K (cmpD o)) := by
  cases o
  · exact sEq hu
  · exact sNe hu
  · exact sInts op_lt
  · exact sInts op_le
  · exact sInts op_gt
  · exact sInts op_ge
  · exact sIn hu
  · exact sNotIn hu
/-! items, slices -/
theorem dget_rd {K : PySem.W.Frag} {F : Hp} {q : Key} {d : D} : ∀ {kvs : List (D × D)} {es : List (Key × V)}, RDk K F es kvs → dget kvs q = some d → ∃ v, valV es q = some v ∧ RD K F v d
  | [], _, _, e => by cases e
  | (k, d') :: r, es, ⟨p, v, s, e1, e2, h1, h2⟩, e => by
    subst e1 e2
    have kk : kEqD (kD p) q = decide (p = q) := by
      cases p <;> cases q <;> simp [kEqD, kD]
    have e : (if kEqD (kD p) q = true then some d' else dget r q) = some d := e
    rw [kk] at e
    unfold valV
    rw [List.find?_cons]
    by_cases c : p = q
    · rw [if_pos (decide_eq_true c)] at e
      cases e
      simp only [c, decide_true]
      exact ⟨v, rfl, h1⟩
    · rw [if_neg (by rw [decide_eq_true_eq]; exact c)] at e
      simp only [c, decide_false]
      exact dget_rd h2 e
theorem ro_dk {K : PySem.W.Frag} {F H : Hp} {v : V} {kvs : List (D × D)} {q : Key} {d : D} (e : Ex F H) (h : RO K F H v (.dict kvs)) (hd : dget kvs q = some d) : ∃ a es, v = .ref a ∧ H a = some (.dK es) ∧ RDk K F es kvs := by
  rcases h with (⟨a, es, rfl, h1, h2⟩ | ⟨_, _, _, _, _, rfl, _⟩) | ⟨a, rfl, es, h1, h2⟩
  · exact ⟨a, es, rfl, e _ _ h1, h2⟩
  · cases hd
  · exact ⟨a, es, rfl, h1, h2⟩
theorem ix_dk {X : Cx} (a b : Expr) (pins : List (Addr × Obj)) (s : Shared) (σ : St) (H : Hp) (p : Addr) (es : List (Key × V)) (k : Key) (v u : Value) (z : V) (Q : VK) (I : Inv X pins σ H s) (rx : RelV (V.ref p) v) (ry : RelV (kV k) u) (hp : H p = some (.dK es)) (hz : valV es k = some z) (q : Q z H)
    (hs : subscripted b false v u = operate [v, u] (getItem v u)) : wpAny (model X.prog X.w) X.A (PyProof.Rows.subscriptTail a b v u) (EP X pins σ Q) X.xe s := by
  cases rx
  obtain ⟨zz, hd, vs, rel, dd⟩ := dk_of I.hok hp
  obtain ⟨w', hw, rw'⟩ := RelO.some_of (v := z) (o := valueAt vs k) (by rw [← hz]; exact rel.val k)
  exact PyProof.Rows.subscriptTail_builtinR (x := w') dd.typeIs PySem.F.slot_dict_getitem.lookup (wpAny_getItem_of (Q := fun r s' => r = w' ∧ EP X pins σ Q r s') (kV_is ry) dd.mapOf hw ⟨rfl, z, H, I.tok _, rw', q⟩) hs
def IxS (K : PySem.W.Frag) : R2 := OpS K fun x y => (ixD x y).map .d
theorem atI_rd {K : PySem.W.Frag} {F : Hp} {ds : List D} {vs : List V} {i : Int} {d : D} (h : RDs K F vs ds) (e : atI ds i = some d) : ∃ v, atI vs i = some v ∧ RD K F v d := by
  unfold atI at *
  rw [h.len]
  cases q : ixN ds.length i with
  | none => rw [q] at e; cases e
  | some j =>
    rw [q] at e
    exact h.get (i := j) e
theorem sIx : IxR X (IxS X.K) := by
  intro a b pins s σ H x y v u Q I rx ry ⟨F, dx, dy, z, e, hx, hy, hz, w⟩ hs
  dsimp only at hz
  cases q : ixD dx dy with
  | none => rw [q] at hz; cases hz
  | some d =>
    rw [q] at hz
    cases hz
    cases dx <;> cases dy <;> simp only [ixD, reduceCtorEq] at q
    · obtain ⟨p, vs, rfl, hp, r⟩ := hx.lst e
      obtain ⟨v', h1, h2⟩ := atI_rd r q
      exact ix_list a b pins s σ H _ y v u Q I rx ry ⟨p, vs, _, v', rfl, hy.int, .inl hp, h1, wants_d w e h2⟩ hs
    · obtain ⟨p, vs, rfl, hp, r⟩ := hx.tup e
      obtain ⟨v', h1, h2⟩ := atI_rd r q
      exact ix_tup a b pins s σ H _ y v u Q I rx ry ⟨p, vs, _, v', rfl, hy.int, hp, h1, wants_d w e h2⟩ hs
    · obtain ⟨p, es, rfl, hp, r⟩ := ro_dk e hx q
      obtain ⟨v', h1, h2⟩ := dget_rd r q
      have hi := hy.int
      subst hi
      exact ix_dk a b pins s σ H p es (.inl _) v u v' Q I rx ry hp h1 (wants_d w e h2) hs
    · obtain ⟨p, es, rfl, hp, r⟩ := ro_dk e hx q
      obtain ⟨v', h1, h2⟩ := dget_rd r q
      have hi := hy.str
      subst hi
      exact ix_dk a b pins s σ H p es (.inr _) v u v' Q I rx ry hp h1 (wants_d w e h2) hs
def SlS (K : PySem.W.Frag) : V → Option Int → Option Int → Hp → VK → Prop := fun x lo hi H Q => ∃ F dx z, Ex F H ∧ RO K F H x dx ∧ slD dx lo hi = some z ∧ Wants K F H z Q
theorem cut_rd {K : PySem.W.Frag} {F : Hp} {ds : List D} {vs : List V} {lo hi : Option Int} (h : RDs K F vs ds) : RDs K F (cutV vs lo hi) (cutD ds lo hi) := by
  unfold cutV cutD
  rw [h.len]
  exact (h.drop _).take _
theorem sSl : SlR X (SlS X.K) := by
  intro pins s σ H x v vl vu lo hi sl Q I rx hs pl pu ⟨F, dx, z, e, hx, hz, w⟩
  cases dx <;> simp only [slD, reduceCtorEq] at hz
  · cases hz
    obtain ⟨a, vs, rfl, ha, ra⟩ := hx.lst e
    exact sl_list pins s σ H _ v vl vu lo hi sl Q I rx hs pl pu ⟨a, vs, rfl, .inl ha, fun p hp => w _ _ _ (.made e hp) ⟨p, rfl, hp, e.free hp, _, upd_same, cut_rd ra⟩⟩
  · cases hz
    rename_i ds
    obtain ⟨a, vs, rfl, ha, ra⟩ := hx.tup e
    have l := ra.len
    refine sl_tupA pins s σ H _ v vl vu lo hi sl Q I rx hs pl pu ⟨a, vs, rfl, ha, fun q => ?_, fun _ p hp => w _ _ _ (.laid e hp) ⟨p, _, rfl, SqT.of upd_same, RDs.mono (Ex.upd (e.free hp)) _ _ (cut_rd ra)⟩⟩
    have : cutD ds lo hi = ds := by
      unfold cutD
      rw [l] at q
      rw [q.1, q.2]
      simp
    rw [this] at w
    rcases hx with hx | ⟨_, _, h⟩
    · exact wants_d w e hx
    · exact h.elim
/-! built-in calls -/
def CallS (K : PySem.W.Frag) (f : D → Option R) : List V → Hp → VK → Prop := fun xs H Q => ∃ F x dx z, xs = [x] ∧ Ex F H ∧ RO K F H x dx ∧ f dx = some z ∧ Wants K F H z Q
theorem callS {f : Value} {g : D → Option R} {r : List V → Hp → VK → Prop} (ho : CallR X f r)
    (h : ∀ F H x dx z Q, Ex F H → RO X.K F H x dx → g dx = some z → Wants X.K F H z Q → r [x] H Q) : CallR X f (CallS X.K g) := by
  intro pins s σ H xs us Q I rx ⟨F, x, dx, z, e0, e, h1, h2, w⟩
  subst e0
  exact ho pins s σ H _ us Q I rx (h F H x dx z Q e h1 h2 w)
theorem sLen : CallR X (.builtin "len") (CallS X.K (biD .len)) := by
  refine callS call_len ?_
  intro F H x dx z Q e hx hz w
  cases dx <;> simp only [biD, lenD, Option.map_none, Option.map_some, reduceCtorEq] at hz
  · rename_i y
    by_cases c : fits y.length = true
    · rw [if_pos c] at hz
      cases hz
      have := hx.str
      subst this
      exact ⟨_, y.length, rfl, ⟨fits_le c, rfl⟩, wants_d w e rfl⟩
    · rw [if_neg c] at hz; cases hz
  · cases hz
    obtain ⟨a, vs, rfl, ha, ra⟩ := hx.lst e
    exact ⟨_, _, rfl, .inl ⟨vs, .inl ha, ra.len.symm⟩, wants_d w e rfl⟩
  · cases hz
    obtain ⟨a, vs, rfl, ha, ra⟩ := hx.tup e
    exact ⟨_, _, rfl, .inr ⟨vs, ha, ra.len.symm⟩, wants_d w e rfl⟩
theorem sInt : CallR X (.type "int") (CallS X.K (biD .int)) := by
  refine callS call_int1 ?_
  intro F H x dx z Q e hx hz w
  cases dx <;> simp only [biD, intD, Option.map_none, Option.map_some, reduceCtorEq] at hz
  · cases hz
    have := hx.bool
    subst this
    exact .inr ⟨_, rfl, wants_d w e rfl⟩
  · cases hz
    have := hx.int
    subst this
    exact .inl ⟨_, rfl, wants_d w e rfl⟩
theorem sList : CallR X (.type "list") (CallS X.K (biD .list)) := by
  refine callS call_list_of ?_
  intro F H x dx z Q e hx hz w
  cases dx <;> simp only [biD, seqD, Option.map_none, Option.map_some, reduceCtorEq] at hz
  · cases hz
    obtain ⟨a, vs, rfl, ha, ra⟩ := hx.lst e
    exact ⟨a, vs, rfl, .inl (.inl ha), fun p hp => w _ _ _ (.made e hp) ⟨p, rfl, hp, e.free hp, _, upd_same, ra⟩⟩
  · cases hz
    obtain ⟨a, vs, rfl, ha, ra⟩ := hx.tup e
    exact ⟨a, vs, rfl, .inr ha, fun p hp => w _ _ _ (.made e hp) ⟨p, rfl, hp, e.free hp, _, upd_same, ra⟩⟩
theorem sTuple : CallR X (.type "tuple") (CallS X.K (biD .tuple)) := by
  refine callS call_tuple_of ?_
  intro F H x dx z Q e hx hz w
  cases dx <;> simp only [biD, seqD, Option.map_none, Option.map_some, reduceCtorEq] at hz
  · cases hz
    obtain ⟨a, vs, rfl, ha, ra⟩ := hx.lst e
    exact ⟨a, vs, rfl, .inl ⟨.inl ha, fun p hp => w _ _ _ (.laid e hp) ⟨p, _, rfl, SqT.of upd_same, RDs.mono (Ex.upd (e.free hp)) _ _ ra⟩⟩⟩
  · cases hz
    rcases hx with hx | ⟨_, _, h⟩
    · obtain ⟨a, vs, rfl, ha, ra⟩ := hx
      exact ⟨a, vs, rfl, .inr ⟨e.t ha, wants_d w e ⟨a, vs, rfl, ha, ra⟩⟩⟩
    · exact h.elim
theorem bools_rd {K : PySem.W.Frag} {F : Hp} : ∀ {ds : List D} {vs : List V} {bs : List Bool}, RDs K F vs ds → boolsD ds = some bs → vs = bs.map V.bl
  | [], _, bs, h, q => by
    have h : _ = [] := h
    subst h
    cases q
    rfl
  | d :: ds, _, bs, ⟨v, r, h1, h2, h3⟩, q => by
    subst h1
    cases d <;> simp only [boolsD, reduceCtorEq] at q
    cases z : boolsD ds with
    | none => rw [z] at q; cases q
    | some b2 =>
      rw [z] at q
      cases q
      have h2 : v = V.bl _ := h2
      rw [bools_rd h3 z, h2]
      rfl
theorem sAll (hc : X.calm = true) : CallR X (.builtin "all") (CallS X.K (biD .all)) := by
  refine callS (cr_all hc) ?_
  intro F H x dx z Q e hx hz w
  cases dx <;> simp only [biD, reduceCtorEq] at hz
  rename_i ds
  cases q : boolsD ds with
  | none => rw [q] at hz; cases hz
  | some bs =>
    rw [q] at hz
    cases hz
    obtain ⟨a, vs, rfl, ha, ra⟩ := hx.lst e
    have := bools_rd ra q
    subst this
    exact ⟨a, bs, rfl, .inl ha, wants_d w e rfl⟩
/-! isinstance -/
/-- the class of a datum -/
def clsD : D → String
  | .none => "NoneType" | .bool _ => "bool" | .int _ => "int" | .str _ => "str" | .list _ => "list" | .tuple _ => "tuple" | .dict _ => "dict"
/-- what isinstance asks of a value: its class -/
def TyE (K : PySem.W.Frag) (H : Hp) (v : V) (T : Value) : Prop := TyX K H v T ∨ ∃ a C φ, v = .ref a ∧ T = .ref C ∧ H a = some (.ext φ) ∧ XcI C a φ ∧ ExcC K C
/-- the class that a datum has, as isTy tells it -/
def ClsOk (K : PySem.W.Frag) (d : D) (T : Value) : Prop := ∀ t : Ty, PySem.W.kitOne K T (.type (tyN t)) = some (isTy d t)
def psD : D → Bool
  | .dict kvs => psB kvs
  | _ => false
theorem kit1 (d : D) (t : Ty) (h : psD d = false) : kitB (clsD d) (tyN t) = some (isTy d t) := by
  cases d with
  | dict kvs =>
    have h : psB kvs = false := h
    cases t <;> (simp only [clsD, tyN, isTy, h]; decide +kernel)
  | _ => cases t <;> (simp only [clsD, tyN, isTy]; decide +kernel)
theorem own_ps {K : PySem.W.Frag} {F : Hp} {es : List (Key × V)} : ∀ {kvs : List (D × D)}, RDk K F es kvs → psB kvs = false
  | [], _ => rfl
  | (k, d) :: r, ⟨q, v, s, e1, e2, h1, h2⟩ => by
    subst e2
    cases q <;> rfl
theorem ty_of {K : PySem.W.Frag} {F H : Hp} {v : V} {d : D} (e : Ex F H) (h : RO K F H v d) : ∃ T, TyE K H v T ∧ ClsOk K d T ∧ ∀ H2, Ex H H2 → TyE K H2 v T := by
  have base : ∀ {T : String}, (∀ H2, Ex H H2 → TyX K H2 v (.type T)) → T = clsD d → psD d = false → ∃ T, TyE K H v T ∧ ClsOk K d T ∧ ∀ H2, Ex H H2 → TyE K H2 v T := fun {T} h1 h2 h3 =>
    ⟨.type T, .inl (h1 H (.refl H)), fun t => kit_ty (by rw [h2]; exact kit1 d t h3), fun H2 x => .inl (h1 H2 x)⟩
  cases d with
  | none => rw [h.non] at base ⊢; exact base (fun _ _ => .base .non) rfl rfl
  | bool b => rw [h.bool] at base ⊢; exact base (fun _ _ => .base (.bl b)) rfl rfl
  | int i => rw [h.int] at base ⊢; exact base (fun _ _ => .base (.int i)) rfl rfl
  | str x => rw [h.str] at base ⊢; exact base (fun _ _ => .base (.str x)) rfl rfl
  | list ds =>
    obtain ⟨a, vs, rfl, ha, ra⟩ := h.lst e
    rcases ha with ha | ⟨o, ha⟩
    · exact base (fun H2 x => .base (.lst (x a _ ha))) rfl rfl
    · exact base (fun H2 x => .base (.frz (x a _ ha))) rfl rfl
  | tuple ds =>
    obtain ⟨a, vs, rfl, ha, ra⟩ := h.tup e
    rcases ha with (ha | ⟨o, ha⟩) | ⟨o, its, n, h1, h2, _⟩
    · exact base (fun H2 x => .base (.tup (x a _ ha))) rfl rfl
    · exact base (fun H2 x => .fTuple (x a _ ha)) rfl rfl
    · exact base (fun _ _ => .kTuple h1 h2) rfl rfl
  | dict kvs =>
    rcases h with (⟨a, es, rfl, ha, ra⟩ | ⟨a, C, φ, y, rfl, rfl, ha, hi, hc⟩) | ⟨a, rfl, es, ha, ra⟩
    · exact base (fun H2 x => .base (.dK (x a _ (e a _ ha)))) rfl (own_ps ra)
    · exact ⟨.ref C, .inr ⟨a, C, φ, rfl, rfl, e a _ ha, hi, hc.ec⟩, fun t => by rw [hc.ty t]; cases t <;> rfl, fun H2 x => .inr ⟨a, C, φ, rfl, rfl, x a _ (e a _ ha), hi, hc.ec⟩⟩
    · exact base (fun H2 x => .base (.dK (x a _ ha))) rfl (own_ps ra)
theorem kitN {K : PySem.W.Frag} {d : D} {T : Value} (h : ClsOk K d T) : ∀ ts : List Ty, PySem.W.kitAny K T (ts.map fun t => Value.type (tyN t)) = some (ts.any (isTy d))
  | [] => rfl
  | t :: ts => by
    refine kitAny_cons (h t) (fun h1 => ?_) (fun h1 => ?_)
    · rw [List.any_cons, h1, Bool.false_or]; exact kitN h ts
    · rw [List.any_cons, h1, Bool.true_or]
/-- isinstance of such a value -/
theorem kit_ofE {X : Cx} {pins : List (Addr × Obj)} {σ : St} {H : Hp} {s : Shared} {x : V} {u t : Value} (I : Inv X pins σ H s) (rx : RelV x u) (ty : TyE X.K H x t) :
    ∃ P : Heap → Prop, PySem.W.KitX X.K u t P ∧ P s.heap ∧ u ≠ .builtin "__main__.__loader__#opaque" := by
  rcases ty with ty | ⟨a, C, φ, rfl, rfl, ha, hi, hc⟩
  · exact kit_of I rx ty
  · cases (show u = Value.ref a from rx)
    obtain ⟨hφ, _, _⟩ := (show ObjOk X.prog X.w H s.heap a (.ext φ) from I.hok a _ ha)
    obtain ⟨oe, vs, ho, hz, hd⟩ := hi _ hφ
    have J : PySem.W.InstAt s.heap a oe C none := by
      obtain ⟨oc, od, oda, osl⟩ := oe
      obtain ⟨z1, z2⟩ := hz
      dsimp only at z1 z2 hd
      subst z1 z2 hd
      exact ⟨ho, rfl, rfl, trivial⟩
    exact ⟨_, PySem.W.handS_kitx_exc hc.hg hc.hk hc.hs hc.hd hc.ha hc.hn hc.ht hc.hm, J, fun z => nomatch z⟩
def rIsE1 (K : PySem.W.Frag) : List V → Hp → VK → Prop := fun xs H Q => ∃ (x c : V) (t u : Value) (b : Bool), xs = [x, c] ∧ ClsV c u ∧ TyE K H x t ∧ PySem.W.kitOne K t u = some b ∧ Q (.bl b) H
def rIsET (K : PySem.W.Frag) : List V → Hp → VK → Prop := fun xs H Q => ∃ (x : V) (tp : Addr) (cs : List V) (t : Value) (us : List Value) (b : Bool), xs = [x, .ref tp] ∧ H tp = some (.tup cs) ∧ Paired ClsV cs us ∧ TyE K H x t ∧ PySem.W.kitAny K t us = some b ∧ Q (.bl b) H
theorem call_isE1 {X : Cx} : CallR X (.builtin "isinstance") (rIsE1 X.K) := by
  intro pins s σ H xs us Q I r h
  obtain ⟨x, c, t, w, b, rfl, kc, ty, ek, q⟩ := h
  obtain ⟨u1, u2, rfl, r1, r2⟩ := vals2 r
  cases kc.eq r2
  obtain ⟨P, Z, p, hx⟩ := kit_ofE I r1 ty
  exact PySem.W.kia_one Z I.kIn p ek hx fun k => ⟨.bl b, H, I.tok k, rfl, q⟩
theorem call_isET {X : Cx} : CallR X (.builtin "isinstance") (rIsET X.K) := by
  intro pins s σ H xs us Q I r h
  obtain ⟨x, tp, cs, t, ws, b, rfl, tupAt, kc, ty, ek, q⟩ := h
  obtain ⟨u1, u2, rfl, r1, r2⟩ := vals2 r
  cases (show u2 = Value.ref tp from r2)
  obtain ⟨P, Z, p, hx⟩ := kit_ofE I r1 ty
  obtain ⟨_, its, rv, ⟨oc, od, dt, osl⟩, g1, g2, n, g3⟩ := (show ObjOk X.prog X.w H s.heap tp (.tup cs) from I.hok tp _ tupAt)
  cases ClsV.all kc rv
  simp only at g2 g3
  subst g2 g3
  exact PySem.W.kia_tup Z I.kIn p g1 ek hx fun k => ⟨.bl b, H, I.tok k, rfl, q⟩
end
end Sm

set_option maxRecDepth 100000
set_option maxHeartbeats 4000000
namespace Sm
open PySem L2
/-! ### a def's entry: what stays, the heap, the own arguments -/
structure Gh where
  F0 : Hp
  H0 : Hp
  ins : List (Nat × Addr)
abbrev At (e : Sm.Env) (i : Nat) (v : SV) : Prop := e[i]? = some (some v)
abbrev Sl (σ : St) (i : Nat) (v : V) : Prop := σ[i]? = some (some v)
def SlotR (K : PySem.W.Frag) (G : Gh) (F H : Hp) (i : Nat) (v : V) : SV → Prop
  | .d x => RD K F v x
  | .own x b => ∃ a, v = .ref a ∧ F a = none ∧ Own K F H a x ∧ (b = true → (i, a) ∈ G.ins) ∧ (b = false → G.H0 a = none)
  | .exc _ => False
structure Rel (K : PySem.W.Frag) (G : Gh) (F : Hp) (env : Sm.Env) (σ : St) (H : Hp) : Prop where
  fh : Ex F H
  f0 : Ex G.F0 F
  keep : ∀ b o, G.H0 b = some o → (∀ p ∈ G.ins, p.2 ≠ b) → H b = some o
  new : ∀ b, F b ≠ none → G.F0 b ≠ none ∨ G.H0 b = none
  len : env.length = σ.length
  slot : ∀ i sv, At env i sv → ∃ v, Sl σ i v ∧ SlotR K G F H i v sv
  sep : ∀ i j x b y c, i ≠ j → At env i (SV.own x b) → At env j (SV.own y c) → σ[i]? ≠ σ[j]?
  arg : ∀ p ∈ G.ins, ∃ x, At env p.1 (SV.own x true) ∧ Sl σ p.1 (V.ref p.2)
/-- an address of an own one -/
def OwnA (env : Sm.Env) (σ : St) (p : Addr) : Prop := ∃ i x b, At env i (SV.own x b) ∧ Sl σ i (V.ref p)
structure Step (env env' : Sm.Env) (σ : St) (F H F' H' : Hp) : Prop where
  f : Ex F F'
  keep : ∀ p o, H p = some o → ¬ OwnA env σ p → H' p = some o
  new : ∀ p, F' p ≠ none → F p ≠ none ∨ H p = none ∨ OwnA env σ p
  own : ∀ p, OwnA env' σ p → OwnA env σ p
  there : ∀ p o, H p = some o → ∃ o', H' p = some o'
def RR (K : PySem.W.Frag) (G : Gh) (σ : St) (r : R) (F : Hp) (env : Sm.Env) (H : Hp) (v : V) : Prop := match r with
  | .d x => RD K F v x
  | .new x => ∃ p, v = .ref p ∧ G.H0 p = none ∧ F p = none ∧ Own K F H p x ∧ ¬ OwnA env σ p
  | .al i => Sl σ i v ∧ ∃ p, v = .ref p
  | .exc _ => False
section
variable {K : PySem.W.Frag} {G : Gh} {F F' F1 F2 H H' H1 H2 : Hp} {env env' env1 env2 : Sm.Env} {σ : St}
theorem Own.some {a : Addr} : ∀ {x : D}, Own K F H a x → ∃ o, H a = some o
  | .list _, ⟨_, h, _⟩ => ⟨_, h⟩
  | .dict _, ⟨_, h, _⟩ => ⟨_, h⟩
theorem Rel.ownAt (r : Rel K G F env σ H) {i : Nat} {x : D} {b : Bool} (h : At env i (SV.own x b)) : ∃ a, Sl σ i (V.ref a) ∧ F a = none ∧ Own K F H a x ∧ (b = true → (i, a) ∈ G.ins) ∧ (b = false → G.H0 a = none) := by
  obtain ⟨v, h3, a, rfl, h4⟩ := r.slot i _ h
  exact ⟨a, h3, h4⟩
theorem Rel.ownSome (r : Rel K G F env σ H) {p : Addr} (h : OwnA env σ p) : F p = none ∧ ∃ o, H p = some o := by
  obtain ⟨i, x, b, h1, h2⟩ := h
  obtain ⟨a, h3, h4, h5, _⟩ := r.ownAt h1
  have : some (some (V.ref a)) = some (some (V.ref p)) := h3.symm.trans h2
  cases this
  exact ⟨h4, h5.some⟩
theorem Rel.h0 (r : Rel K G F env σ H) {p : Addr} (h : H p = none) : G.H0 p = none := by
  cases q : G.H0 p with
  | none => rfl
  | some o =>
    by_cases c : ∀ z ∈ G.ins, z.2 ≠ p
    · rw [r.keep p o q c] at h; cases h
    · simp only [Classical.not_forall, ne_eq, Classical.not_not] at c
      obtain ⟨z, hz, rfl⟩ := c
      obtain ⟨x, e1, e2⟩ := r.arg z hz
      obtain ⟨_, o, ho⟩ := r.ownSome ⟨z.1, x, true, e1, e2⟩
      rw [ho] at h; cases h
theorem Step.refl : Step env env σ F H F H := ⟨.refl _, fun _ _ h _ => h, fun _ h => .inl h, fun _ h => h, fun _ o h => ⟨o, h⟩⟩
theorem Step.none (s : Step env env' σ F H F' H') {p : Addr} (h : H' p = none) : H p = none := by
  cases q : H p with
  | none => rfl
  | some o =>
    obtain ⟨u, e⟩ := s.there p o q
    rw [h] at e; cases e
theorem Step.trans (a : Step env env1 σ F H F1 H1) (b : Step env1 env2 σ F1 H1 F2 H2) : Step env env2 σ F H F2 H2 where
  f := a.f.trans b.f
  keep := fun p o h n => b.keep p o (a.keep p o h n) fun q => n (a.own p q)
  new := fun p h => by
    rcases b.new p h with h | h | h
    · exact a.new p h
    · cases q : H p with
      | none => exact .inr (.inl rfl)
      | some o =>
        by_cases c : OwnA env σ p
        · exact .inr (.inr c)
        · rw [a.keep p o q c] at h; cases h
    · exact .inr (.inr (a.own p h))
  own := fun p h => a.own p (b.own p h)
  there := fun p o h => let ⟨o', h'⟩ := a.there p o h; b.there p o' h'
/-- a result still stands behind a step -/
theorem RR.lift {r : R} {v : V} (h : RR K G σ r F1 env1 H1 v) (s : Step env1 env2 σ F1 H1 F2 H2) : RR K G σ r F2 env2 H2 v := by
  cases r with
  | d x => exact RD.mono s.f x v h
  | new x =>
    obtain ⟨p, rfl, h0, hF, ho, hn⟩ := h
    obtain ⟨o, hp⟩ := ho.some
    refine ⟨p, rfl, h0, ?_, Own.new s.f ((s.keep p o hp hn).trans hp.symm) ho, fun q => hn (s.own p q)⟩
    cases q : F2 p with
    | none => rfl
    | some u =>
      rcases s.new p (by rw [q]; simp) with z | z | z
      · exact absurd hF z
      · rw [hp] at z; cases z
      · exact absurd z hn
  | al i => exact h
  | exc c => exact h
theorem RR.ro {r : R} {v : V} {x : D} (rel : Rel K G F env σ H) (h : RR K G σ r F env H v) (e : r.rd env = some x) : RO K F H v x := by
  cases r with
  | d y => cases e; exact .inl h
  | new y =>
    cases e
    obtain ⟨p, rfl, _, _, ho, _⟩ := h
    exact .inr ⟨p, rfl, ho⟩
  | al i =>
    have h : Sl σ i v := h.1
    have e : (match env[i]? with | some (some (SV.own x _)) => some x | _ => none) = some x := e
    split at e
    · rename_i y b q
      cases e
      obtain ⟨a, h1, _, h2, _⟩ := rel.ownAt q
      have : some (some v) = some (some (V.ref a)) := h.symm.trans h1
      cases this
      exact .inr ⟨a, rfl, h2⟩
    · cases e
  | exc c => exact h.elim
theorem SlotR.mono {i : Nat} {v : V} {sv : SV} (h : SlotR K G F H i v sv) (hf : Ex F F') (hn : ∀ a, v = .ref a → (∃ x b, sv = SV.own x b) → F' a = none ∧ H' a = H a) : SlotR K G F' H' i v sv := by
  cases sv with
  | d x => exact RD.mono hf x v h
  | own x b =>
    obtain ⟨a, rfl, h1, h2, h3⟩ := h
    obtain ⟨n1, n2⟩ := hn a rfl ⟨x, b, rfl⟩
    exact ⟨a, rfl, n1, Own.new hf n2 h2, h3⟩
  | exc c => exact h
/-- the heap has grown -/
theorem Rel.grow (r : Rel K G F env σ H) (g : Grow F H F' H') : Rel K G F' env σ H' where
  fh := g.fh
  f0 := r.f0.trans g.f
  keep := fun b o h n => g.h b o (r.keep b o h n)
  new := fun b h => by
    rcases g.n b h with h | h
    · exact r.new b h
    · exact .inr (r.h0 h)
  len := r.len
  slot := fun i sv h => by
    obtain ⟨v, h1, h2⟩ := r.slot i sv h
    refine ⟨v, h1, h2.mono g.f fun a e ⟨x, b, e2⟩ => ?_⟩
    subst e e2
    obtain ⟨hF, o, ho⟩ := r.ownSome (p := a) ⟨i, x, b, h, h1⟩
    refine ⟨?_, (g.h a o ho).trans ho.symm⟩
    cases q : F' a with
    | none => rfl
    | some u =>
      rcases g.n a (by rw [q]; simp) with z | z
      · exact absurd hF z
      · rw [ho] at z; cases z
  sep := r.sep
  arg := r.arg
theorem Grow.step (g : Grow F H F' H') : Step env env σ F H F' H' := ⟨g.f, fun p o h _ => g.h p o h, fun p h => by
  rcases g.n p h with h | h
  · exact .inl h
  · exact .inr (.inl h), fun _ h => h, fun p o h => ⟨o, g.h p o h⟩⟩
theorem RR.of0 {r : R} {v : V} (rel : Rel K G F env σ H) (g : Grow F H F' H') (h : RR0 K F' H' H v r) : RR K G σ r F' env H' v := by
  cases r with
  | d x => exact h
  | new x =>
    obtain ⟨p, rfl, h1, h2, h3⟩ := h
    refine ⟨p, rfl, rel.h0 h1, h2, h3, fun q => ?_⟩
    obtain ⟨_, o, ho⟩ := rel.ownSome q
    rw [h1] at ho; cases ho
  | al i => exact h.elim
  | exc c => exact h.elim
end
/-! ### readings by the small machine -/
/-- what an end's worth is: by the slots, the heap at the start; F, the slots' worths and the heap at the end -/
structure Rl (α β : Type) where
  r : St → Hp → α → Hp → Sm.Env → Hp → β → Prop
  mono : ∀ (σ : St) (H H1 : Hp) (a : α) (F : Hp) (env : Sm.Env) (H2 : Hp) (b : β), (∀ p, H1 p = none → H p = none) → r σ H1 a F env H2 b → r σ H a F env H2 b
structure Ctx where
  K : PySem.W.Frag
  G : Gh
  W : WX
  cl : Nat → Value
section
variable (C : Ctx)
def GoF {α β : Type} (rl : Rl α β) (m : M α) (F : Hp) (env : Sm.Env) (σ : St) (H : Hp) (Q : β → Hp → Prop) : Prop :=
  ∃ o env', m env = some (o, env') ∧ match o with
    | .ok a => ∀ b F' H', Rel C.K C.G F' env' σ H' → Step env env' σ F H F' H' → rl.r σ H a F' env' H' b → Q b H'
    | .rs c => ∀ F' H', Rel C.K C.G F' env' σ H' → Step env env' σ F H F' H' → C.W (C.cl c) none σ H'
def Go {α β : Type} (rl : Rl α β) (m : M α) : St → Hp → (β → Hp → Prop) → Prop := fun σ H Q => ∃ F env, Rel C.K C.G F env σ H ∧ GoF C rl m F env σ H Q
end
section
variable {C : Ctx} {α β γ δ : Type} {rl : Rl α β} {rl2 : Rl γ δ} {m : M α} {f : α → M γ} {σ : St} {F F1 H H1 : Hp} {env env1 : Sm.Env}
/-- first the one, then the other; what is wanted is told from the start -/
theorem GoF.bind {Q : δ → Hp → Prop} (h : GoF C rl2 (m.bind f) F env σ H Q) :
    GoF C rl m F env σ H fun b H1 => ∃ a F1 env1, Rel C.K C.G F1 env1 σ H1 ∧ Step env env1 σ F H F1 H1 ∧ rl.r σ H a F1 env1 H1 b ∧
      ∃ o env', f a env1 = some (o, env') ∧ match o with
        | .ok a => ∀ b F' H', Rel C.K C.G F' env' σ H' → Step env env' σ F H F' H' → rl2.r σ H a F' env' H' b → Q b H'
        | .rs c => ∀ F' H', Rel C.K C.G F' env' σ H' → Step env env' σ F H F' H' → C.W (C.cl c) none σ H' := by
  obtain ⟨o, env', e, q⟩ := h
  unfold M.bind at e
  split at e
  · cases e
  · rename_i c e' z
    cases e
    exact ⟨.rs c, env', z, q⟩
  · rename_i a e' z
    exact ⟨.ok a, e', z, fun b F1 H1 r1 s1 h1 => ⟨a, F1, e', r1, s1, h1, o, env', e, q⟩⟩
/-- .. from where one stands -/
theorem GoF.from {m : M γ} {Q : δ → Hp → Prop} (s : Step env env1 σ F H F1 H1)
    (h : ∃ o env', m env1 = some (o, env') ∧ match o with
        | .ok a => ∀ b F' H', Rel C.K C.G F' env' σ H' → Step env env' σ F H F' H' → rl2.r σ H a F' env' H' b → Q b H'
        | .rs c => ∀ F' H', Rel C.K C.G F' env' σ H' → Step env env' σ F H F' H' → C.W (C.cl c) none σ H') : GoF C rl2 m F1 env1 σ H1 Q := by
  obtain ⟨o, env', e, q⟩ := h
  refine ⟨o, env', e, ?_⟩
  cases o with
  | ok c => exact fun d F2 H2 r2 s2 h2 => q d F2 H2 r2 (s.trans s2) (rl2.mono _ _ _ _ _ _ _ _ (fun p => s.none) h2)
  | rs c => exact fun F2 H2 r2 s2 => q F2 H2 r2 (s.trans s2)
/-- one after the other -/
theorem GoF.seq {Q : δ → Hp → Prop} (h : GoF C rl2 (m.bind f) F env σ H Q) :
    GoF C rl m F env σ H fun b H1 => ∃ a F1 env1, Rel C.K C.G F1 env1 σ H1 ∧ Step env env1 σ F H F1 H1 ∧ rl.r σ H a F1 env1 H1 b ∧ GoF C rl2 (f a) F1 env1 σ H1 Q := by
  obtain ⟨o, env', e, q⟩ := h.bind (rl := rl)
  refine ⟨o, env', e, ?_⟩
  cases o with
  | ok a =>
    intro b F' H' r s h
    obtain ⟨a', F1, env1, r1, s1, h1, h2⟩ := q b F' H' r s h
    exact ⟨a', F1, env1, r1, s1, h1, GoF.from s1 h2⟩
  | rs c => exact q
theorem GoF.opt {o : Option α} {Q : β → Hp → Prop} (h : GoF C rl (M.opt o) F env σ H Q) :
    ∃ a, o = some a ∧ ∀ b F' H', Rel C.K C.G F' env σ H' → Step env env σ F H F' H' → rl.r σ H a F' env H' b → Q b H' := by
  obtain ⟨w, env', e, q⟩ := h
  unfold M.opt at e
  cases o with
  | none => cases e
  | some a => cases e; exact ⟨a, rfl, q⟩
theorem GoF.ret {a : α} {Q : β → Hp → Prop} (h : GoF C rl (M.ret a) F env σ H Q) :
    ∀ b F' H', Rel C.K C.G F' env σ H' → Step env env σ F H F' H' → rl.r σ H a F' env H' b → Q b H' := by
  obtain ⟨w, env', e, q⟩ := h
  cases e
  exact q
theorem GoF.rd {x : R} {f : D → M γ} {Q : δ → Hp → Prop} (h : GoF C rl2 ((rdM x).bind f) F env σ H Q) : ∃ d, x.rd env = some d ∧ GoF C rl2 (f d) F env σ H Q := by
  obtain ⟨w, env', e, q⟩ := h
  unfold M.bind rdM at e
  cases z : x.rd env with
  | none => rw [z] at e; cases e
  | some d =>
    rw [z] at e
    exact ⟨d, rfl, w, env', e, q⟩
end
/-! an expression, a test, a part of a slice, items, arguments -/
def freshR (H : Hp) (r : R) (v : V) : Prop := match r with
  | .new _ => ∀ p, v = .ref p → H p = none
  | _ => True
def rlE (K : PySem.W.Frag) (G : Gh) : Rl R V := ⟨fun σ H r F env H' v => RR K G σ r F env H' v ∧ freshR H r v, fun σ H H1 r F env H2 v m ⟨h1, h2⟩ => ⟨h1, by
  cases r with
  | new x => exact fun p e => m p (h2 p e)
  | _ => trivial⟩⟩
def rlB : Rl Bool Bool := ⟨fun _ _ a _ _ _ b => b = a, fun _ _ _ _ _ _ _ _ _ h => h⟩
def rlO : Rl (Option Int) (Option Int) := ⟨fun _ _ a _ _ _ b => b = a, fun _ _ _ _ _ _ _ _ _ h => h⟩
def rlA (K : PySem.W.Frag) : Rl (List D) (List V) := ⟨fun _ _ ds F _ _ vs => RDs K F vs ds, fun _ _ _ _ _ _ _ _ _ h => h⟩
def RRs (K : PySem.W.Frag) (G : Gh) (σ : St) (F : Hp) (env : Sm.Env) (H : Hp) : List R → List V → Prop
  | [], vs => vs = []
  | r :: rs, vs => ∃ v ws, vs = v :: ws ∧ RR K G σ r F env H v ∧ RRs K G σ F env H rs ws
def rlR (K : PySem.W.Frag) (G : Gh) : Rl (List R) (List V) := ⟨fun σ _ rs F env H vs => RRs K G σ F env H rs vs, fun _ _ _ _ _ _ _ _ _ h => h⟩
abbrev tE (C : Ctx) (m : M R) : TE := Go C (rlE C.K C.G) m
abbrev tT (C : Ctx) (m : M Bool) : TT := Go C rlB m
abbrev tO (C : Ctx) (m : M (Option Int)) : TO := Go C rlO m
abbrev tA (C : Ctx) (m : M (List D)) : TA := Go C (rlA C.K) m
abbrev tR (C : Ctx) (m : M (List R)) : TA := Go C (rlR C.K C.G) m
/-- a weaker reading -/
theorem PE.imp {X : Cx} {e : Expr} {t t' : TE} (h : PE X e t) (i : ∀ σ H Q, t' σ H Q → t σ H Q) : PE X e t' := ⟨fun pins s σ H Q I w => h.run pins s σ H Q I (i σ H Q w)⟩
theorem PT.imp {X : Cx} {e : Expr} {t t' : TT} (h : PT X e t) (i : ∀ σ H Q, t' σ H Q → t σ H Q) : PT X e t' := ⟨fun pins s σ H Q I w => h.run pins s σ H Q I (i σ H Q w)⟩
theorem PW.imp {X : Cx} {e : Expr} {t t' : TT} (h : PW X e t) (i : ∀ σ H Q, t' σ H Q → t σ H Q) : PW X e t' := ⟨fun wh pins s σ H Q I w => h.run wh pins s σ H Q I (i σ H Q w)⟩
theorem PA.imp {X : Cx} {es : List Expr} {t t' : TA} (h : PA X es t) (i : ∀ σ H Q, t' σ H Q → t σ H Q) : PA X es t' := ⟨fun pos pins s σ H Q I w => h.run pos pins s σ H Q I (i σ H Q w)⟩
theorem PO.imp {X : Cx} {e : Option Expr} {t t' : TO} (h : PO X e t) (i : ∀ σ H Q, t' σ H Q → t σ H Q) : PO X e t' := ⟨fun pins s σ H Q I w => h.run pins s σ H Q I (i σ H Q w)⟩
theorem PS.imp {X : Cx} {e : Stmt} {t t' : TS} (h : PS X e t) (i : ∀ D σ H, t' D σ H → t D σ H) : PS X e t' := ⟨fun pins s σ H Q I w => h.run pins s σ H Q I (i Q σ H w)⟩
theorem PSs.imp {X : Cx} {e : List Stmt} {t t' : TS} (h : PSs X e t) (i : ∀ D σ H, t' D σ H → t D σ H) : PSs X e t' := ⟨fun pins s σ H Q I w => h.run pins s σ H Q I (i Q σ H w)⟩
end Sm

set_option maxRecDepth 100000
set_option maxHeartbeats 4000000
namespace Sm
open PySem L2
/-! ### the text against the small machine's terms -/
def visB (sc : Scope) (x : Str) : Bool := match sc.names.lookup x with
  | some .local => true
  | some .cell => true
  | some .free => true
  | _ => false
def glB (sc : Scope) (x : Str) : Bool := decide (sc.names.lookup x = some .globalImplicit)
def plainN (x : Str) : Bool := !(x == ("__debug__" : Str)) && !(x == ("__classdict__" : Str)) && !(x == ("" : Str))
def biN : BI → Str
  | .len => "len" | .int => "int" | .list => "list" | .tuple => "tuple" | .all => "all"
def opB : BO → Operator
  | .add => .Add | .sub => .Sub | .mul => .Mult | .fdiv => .FloorDiv | .mod => .Mod | .pow => .Pow
def litB : Const → D → Bool
  | .none, .none => true
  | .bool a, .bool b => a == b
  | .int a, .int b => a == b
  | .str a, .str b => decide (a = b)
  | _, _ => false
def tyB : List Expr → List Ty → Scope → Bool
  | [], [], _ => true
  | .Name x _ :: es, t :: ts, sc => decide (x = Str.ofString (tyN t)) && glB sc x && tyB es ts sc
  | _, _, _ => false
/-- a test that is the truth of its value -/
def valT : Expr → Bool
  | .UnaryOp .Not _ _ => false
  | .BoolOp _ _ _ => false
  | .IfExp _ _ _ _ => false
  | .Compare _ _ _ _ => false
  | _ => true
/-- own exception classes, by number; classes that are asked of or caught, and which of those are of them -/
structure XI where
  xs : List Str
  ec : List (Str × List (Str × Bool))
structure Tab where
  fn : Nat → Str
  cn : Nat → Str
  dn : Nat → Str
  rp : Bool
  xi : XI
def keysB : List Str → List (Option Expr) → Bool
  | [], [] => true
  | k :: ks, some (.Constant (.str x) _ _) :: r => decide (x = k) && keysB ks r
  | _, _ => false
mutual
def chTg (N : List Str) (sc : Scope) (fnB : Str → Bool) : T → Expr → Bool
  | .nm i, .Name x _ => decide (N[i]? = some x) && (match sc.names.lookup x with | some .local => true | some .cell => fnB x | _ => false)
  | .tup ts, .Tuple es _ _ => chTgs N sc fnB ts es
  | _, _ => false
def chTgs (N : List Str) (sc : Scope) (fnB : Str → Bool) : Ts → List Expr → Bool
  | .nil, [] => true
  | .cons t r, e :: es => chTg N sc fnB t e && chTgs N sc fnB r es
  | _, _ => false
end
section
variable (tb : Tab) (N : List Str)
mutual
def slT : T → List Nat
  | .nm i => [i]
  | .tup ts => slTs ts
def slTs : Ts → List Nat
  | .nil => []
  | .cons t r => slT t ++ slTs r
end
def names (own : List Nat) : List (Str × Nat) := own.map fun i => (N.getD i "", i)
mutual
def chE (sc : Scope) : E → Expr → Bool
  | .nm i, .Name x _ => decide (N[i]? = some x) && visB sc x && plainN x
  | .cst k, .Name x _ => decide (x = tb.cn k) && glB sc x && plainN x
  | .lit d, .Constant c _ _ => litB c d
  | .bin o a b, .BinOp a' p b' _ => decide (p = opB o) && chE sc a a' && chE sc b b'
  | .neg a, .UnaryOp .USub a' _ => chE sc a a'
  | .cmp o a b, .Compare a' [p] [b'] _ => decide (p = opOf o) && chE sc a a' && chE sc b b'
  | .isN a false, .Compare a' [.Is] [.Constant .none _ _] _ => chE sc a a'
  | .isN a true, .Compare a' [.IsNot] [.Constant .none _ _] _ => chE sc a a'
  | .isB a k false, .Compare a' [.Is] [.Constant (.bool k') _ _] _ => chE sc a a' && k == k'
  | .isB a k true, .Compare a' [.IsNot] [.Constant (.bool k') _ _] _ => chE sc a a' && k == k'
  | .ch o p a b c, .Compare a' [o', p'] [b', c'] _ => decide (o' = opOf o) && decide (p' = opOf p) && chE sc a a' && chE sc b b' && chE sc c c'
  | .and as, .BoolOp .And es _ => !es.isEmpty && chA sc as es
  | .or as, .BoolOp .Or es _ => !es.isEmpty && chA sc as es
  | .not a, .UnaryOp .Not a' _ => chE sc a a'
  | .ife c a b, .IfExp c' a' b' _ => chE sc c c' && chE sc a a' && chE sc b b'
  | .ix a b, .Subscript a' b' _ => chE sc a a' && chE sc b b'
  | .sl a lo hi, .Subscript a' (.Slice l h none _) _ => chE sc a a' && chO sc lo l && chO sc hi h
  | .tup as, .Tuple es _ _ => chA sc as es
  | .lst as, .List es _ => chA sc as es
  | .lc elt t it cs own, .ListComp elt' [⟨tg, iter, ifs, 0⟩] scope _ =>
    chI sc it iter && blkC N sc scope (names N own) && decide (∀ i ∈ slT t, i ∈ own) && (match t with
      | .tup _ => true
      | .nm _ => !tupIt it) && chTg N (relS scope sc) (fun x => scope.names.lookup x == some .cell) t tg && chE (relS scope sc) elt elt' && chA (relS scope sc) cs ifs
  | .call f as, .Call (.Name x _) es [] _ => decide (x = tb.fn f) && glB sc x && plainN x && !es.isEmpty && chA sc as es
  | .calls f as, .Call (.Name x _) es [] _ => decide (x = tb.fn f) && glB sc x && plainN x && !es.isEmpty && chA sc as es
  | .bi b a, .Call (.Name x _) [e] [] _ => decide (x = biN b) && glB sc x && chE sc a e
  | .isi a [t] false, .Call (.Name x _) [e, .Name y _] [] _ => decide (x = "isinstance") && glB sc x && chE sc a e && tyB [.Name y ⟨0, 0, 0, 0⟩] [t] sc
  | .isi a ts true, .Call (.Name x _) [e, .Tuple ys _ _] [] _ => decide (x = "isinstance") && glB sc x && chE sc a e && tyB ys ts sc && decide (ts.length ≤ 100)
  | .rep a, .Call (.Name x _) [a'] [] _ => tb.rp && decide (x = "repr") && glB sc x && chE sc a a'
  | .rv a, .Subscript a' (.Slice none none (some (.UnaryOp .USub (.Constant (.int 1) _ _) _)) _) _ => chE sc a a'
  | .mx a b, .Call (.Name x _) [a', b'] [] _ => decide (x = "max") && glB sc x && chE sc a a' && chE sc b b'
  | .cin k a false, .Compare a' [.In] [.Name x _] _ => decide (x = tb.dn k) && glB sc x && plainN x && chE sc a a'
  | .cin k a true, .Compare a' [.NotIn] [.Name x _] _ => decide (x = tb.dn k) && glB sc x && plainN x && chE sc a a'
  | .cix k a, .Subscript (.Name x _) a' _ => decide (x = tb.dn k) && glB sc x && plainN x && chE sc a a'
  | .dd ks as, .Dict keys vals _ => keysB ks keys && decide ks.Nodup && decide (ks.length ≤ 15) && decide (ks.length = vals.length) && chA sc as vals
  | .star a b, .Tuple [.Starred a' _, b'] _ _ => chE sc a a' && chE sc b b'
  | .isx a x ys, .Call (.Name f _) [a', .Name y _] [] _ => decide (f = "isinstance") && glB sc f && chE sc a a' && decide (y = x) && glB sc y && plainN y && decide ((x, ys) ∈ tb.xi.ec)
  | .mkx x a, .Call (.Name f _) [a'] [] _ => decide (f = x) && glB sc f && plainN f && decide (x ∈ tb.xi.xs) && chE sc a a'
  | .frz a, e => valT e && chE sc a e
  | _, _ => false
def chO (sc : Scope) : OE → Option Expr → Bool
  | .no, none => true
  | .yes e, some e' => chE sc e e'
  | _, _ => false
def chA (sc : Scope) : A → List Expr → Bool
  | .nil, [] => true
  | .cons a r, e :: es => chE sc a e && chA sc r es
  | _, _ => false
def chI (sc : Scope) : I → Expr → Bool
  | .sq a, e => chE sc a e
  | .r1 a, .Call (.Name x _) [e] [] _ => decide (x = "range") && glB sc x && chE sc a e
  | .r2 a b, .Call (.Name x _) [e, e'] [] _ => decide (x = "range") && glB sc x && chE sc a e && chE sc b e'
  | .zip a b, .Call (.Name x _) [e, e'] [] _ => decide (x = "zip") && glB sc x && chE sc a e && chE sc b e'
  | .enum a, .Call (.Name x _) [e] [] _ => decide (x = "enumerate") && glB sc x && chE sc a e
  | .zip3 a b c, .Call (.Name x _) [e, e', e''] [] _ => decide (x = "zip") && glB sc x && chE sc a e && chE sc b e' && chE sc c e''
  | _, _ => false
end
end
end Sm

set_option maxRecDepth 100000
set_option maxHeartbeats 4000000
namespace Sm
open PySem L2
/-! ### shapes of expressions -/
def okE : Expr → Bool
  | .Slice _ _ _ _ => false
  | .Starred _ _ => false
  | .Set _ _ _ => false
  | _ => true
section
variable {tb : Tab} {N : List Str} {sc : Scope}
theorem chE_ok : ∀ (m : E) (e : Expr), chE tb N sc m e = true → okE e = true
  | .frz a, e, h => chE_ok a e (by
    have h : (valT e && chE tb N sc a e) = true := by cases e <;> exact h
    rw [Bool.and_eq_true] at h
    exact h.2)
  | .nm _, e, h => by cases e <;> first | rfl | (simp [chE] at h)
  | .cst _, e, h => by cases e <;> first | rfl | (simp [chE] at h)
  | .lit _, e, h => by cases e <;> first | rfl | (simp [chE] at h)
  | .bin _ _ _, e, h => by cases e <;> first | rfl | (simp [chE] at h)
  | .neg _, e, h => by cases e <;> first | rfl | (simp [chE] at h)
  | .cmp _ _ _, e, h => by cases e <;> first | rfl | (simp [chE] at h)
  | .isN _ b, e, h => by cases b <;> cases e <;> first | rfl | (simp [chE] at h)
  | .isB _ _ b, e, h => by cases b <;> cases e <;> first | rfl | (simp [chE] at h)
  | .ch _ _ _ _ _, e, h => by cases e <;> first | rfl | (simp [chE] at h)
  | .and _, e, h => by cases e <;> first | rfl | (simp [chE] at h)
  | .or _, e, h => by cases e <;> first | rfl | (simp [chE] at h)
  | .not _, e, h => by cases e <;> first | rfl | (simp [chE] at h)
  | .ife _ _ _, e, h => by cases e <;> first | rfl | (simp [chE] at h)
  | .ix _ _, e, h => by cases e <;> first | rfl | (simp [chE] at h)
  | .sl _ _ _, e, h => by cases e <;> first | rfl | (simp [chE] at h)
  | .tup _, e, h => by cases e <;> first | rfl | (simp [chE] at h)
  | .lst _, e, h => by cases e <;> first | rfl | (simp [chE] at h)
  | .lc _ _ _ _ _, e, h => by cases e <;> first | rfl | (simp [chE] at h)
  | .calls _ _, e, h => by cases e <;> first | rfl | (simp [chE] at h)
  | .call _ _, e, h => by cases e <;> first | rfl | (simp [chE] at h)
  | .bi _ _, e, h => by cases e <;> first | rfl | (simp [chE] at h)
  | .isi _ _ _, e, h => by cases e <;> first | rfl | (simp [chE] at h)
  | .rep _, e, h => by cases e <;> first | rfl | (simp [chE] at h)
  | .isx _ _ _, e, h => by cases e <;> first | rfl | (simp [chE] at h)
  | .mkx _ _, e, h => by cases e <;> first | rfl | (simp [chE] at h)
  | .star _ _, e, h => by cases e <;> first | rfl | (simp [chE] at h)
  | .rv _, e, h => by cases e <;> first | rfl | (simp [chE] at h)
  | .mx _ _, e, h => by cases e <;> first | rfl | (simp [chE] at h)
  | .cin _ _ b, e, h => by cases b <;> cases e <;> first | rfl | (simp [chE] at h)
  | .cix _ _, e, h => by cases e <;> first | rfl | (simp [chE] at h)
  | .dd _ _, e, h => by cases e <;> first | rfl | (simp [chE] at h)
end
theorem ok_star {e : Expr} (h : okE e = true) (es : List Expr) (env : PySem.Env) : starEach (e :: es) env = (false, eval e env) :: starEach es env := by
  cases e <;> first | rfl | (simp [okE] at h)
theorem ok_plain {e : Expr} (h : okE e = true) : PlainIx e := by
  cases e <;> first | (intro _ _; rfl) | (simp [okE] at h)
theorem ok_mark {e : Expr} (h : okE e = true) (op : CmpOp) : behindInMarks op e = false := by
  cases e <;> first | rfl | (simp [okE] at h)
theorem ok_fold {e : Expr} (h : okE e = true) (env : PySem.Env) (x : Value) : foldedSetIterable e env x = pure x := by
  cases e <;> first | rfl | (simp [okE] at h)
def okEs : List Expr → Bool
  | [] => true
  | e :: es => okE e && okEs es
theorem ok_noStar : ∀ (es : List Expr) (env : PySem.Env) (pos : Pos), okEs es = true → (backTo pos (starEach es env)).any (·.1) = false
  | [], _, _, _ => rfl
  | e :: es, env, pos, h => by
    have h' : okE e = true ∧ okEs es = true := by simpa [okEs] using h
    rw [ok_star h'.1]
    have := ok_noStar es env pos h'.2
    simp only [backTo, List.map_cons, List.any_cons, Bool.false_or] at this ⊢
    exact this
theorem chA_ok {tb : Tab} {N : List Str} {sc : Scope} : ∀ (as : A) (es : List Expr), chA tb N sc as es = true → okEs es = true
  | .nil, [], _ => rfl
  | .nil, _ :: _, h => by simp [chA] at h
  | .cons _ _, [], h => by simp [chA] at h
  | .cons a r, e :: es, h => by
    have h' : chE tb N sc a e = true ∧ chA tb N sc r es = true := by simpa [chA] using h
    simp only [okEs, Bool.and_eq_true]
    exact ⟨chE_ok a e h'.1, chA_ok r es h'.2⟩
theorem val_true {e : Expr} (h : valT e = true) (env : PySem.Env) : ∀ whole, isTrue e env whole = (do let v ← whole; standAt e.pos; holding [v] (truthy v)) := by
  cases e <;> first
    | (intro _; rfl)
    | (rename_i o _ _; cases o <;> first | (intro _; rfl) | (simp [valT] at h))
    | (simp [valT] at h)
/-! ### freezing -/
section
variable {K : PySem.W.Frag} {G : Gh} {F H : Hp} {env env' : Sm.Env} {σ : St}
theorem own_ne {p : Addr} {i : Nat} {x : D} {b : Bool} (n : ¬ OwnA env σ p) (h : At env i (SV.own x b)) {v : V} (hv : Sl σ i v) : v ≠ .ref p := fun e => n ⟨i, x, b, h, by rw [← e]; exact hv⟩
/-- a new one, new since the start, becomes a datum -/
theorem holdR {F0 H0 : Hp} {env0 : Sm.Env} {x : D} {v : V} (rel : Rel K G F env σ H) (st : Step env0 env σ F0 H0 F H) (h : RR K G σ (.new x) F env H v) (hf : freshR H0 (.new x) v) :
    ∃ F', Rel K G F' env σ H ∧ Step env0 env σ F0 H0 F' H ∧ RD K F' v x := by
  obtain ⟨p, rfl, h0, hF, ho, hn⟩ := h
  have hp := hf p rfl
  obtain ⟨o, ho1, ho2, ho3⟩ := ho.rd hF
  refine ⟨upd F p o, ⟨?_, rel.f0.trans ho3, rel.keep, ?_, rel.len, ?_, rel.sep, rel.arg⟩, ⟨st.f.trans ho3, st.keep, ?_, st.own, st.there⟩, ho2⟩
  · intro a u e
    by_cases q : a = p
    · subst q; rw [upd_same] at e; cases e; exact ho1
    · rw [upd_ne q] at e; exact rel.fh a u e
  · intro b e
    by_cases q : b = p
    · subst q; exact .inr h0
    · rw [upd_ne q] at e; exact rel.new b e
  · intro i sv e
    obtain ⟨w, h1, h2⟩ := rel.slot i sv e
    refine ⟨w, h1, h2.mono ho3 fun a ea ⟨y, b, es⟩ => ⟨?_, rfl⟩⟩
    subst es ea
    have : a ≠ p := fun q => own_ne hn e h1 (by rw [q])
    rw [upd_ne this]
    exact (rel.ownSome ⟨i, y, b, e, h1⟩).1
  · intro b e
    by_cases q : b = p
    · subst q; exact .inr (.inl hp)
    · rw [upd_ne q] at e; exact st.new b e
/-- held by the datum that it is -/
theorem holdRR {F0 H0 : Hp} {env0 : Sm.Env} {r : R} {v : V} (rel : Rel K G F env σ H) (st : Step env0 env σ F0 H0 F H) (h : RR K G σ r F env H v) (hf : freshR H0 r v) :
    ∃ F', Rel K G F' env σ H ∧ Step env0 env σ F0 H0 F' H ∧ RR K G σ r.hold F' env H v := by
  cases r with
  | new x => exact holdR rel st h hf
  | d x => exact ⟨F, rel, st, h⟩
  | al i => exact ⟨F, rel, st, h⟩
  | exc c => exact ⟨F, rel, st, h⟩
theorem at_set {e : Sm.Env} {i j : Nat} {v w : SV} (h : At (e.set i (some v)) j w) : (j = i ∧ w = v) ∨ (j ≠ i ∧ At e j w) := by
  unfold At at h
  rw [List.getElem?_set] at h
  by_cases q : i = j
  · subst q
    rw [if_pos rfl] at h
    split at h
    · cases h; exact .inl ⟨rfl, rfl⟩
    · cases h
  · rw [if_neg q] at h; exact .inr ⟨fun z => q z.symm, h⟩
/-- .. or the one in a slot, for good -/
theorem frzR {F0 H0 : Hp} {env0 : Sm.Env} {r : R} {v : V} {x : D} (rel : Rel K G F env σ H) (st : Step env0 env σ F0 H0 F H) (h : RR K G σ r F env H v) (hf : freshR H0 r v) (e : frz r env = some (.ok x, env')) :
    ∃ F', Rel K G F' env' σ H ∧ Step env0 env' σ F0 H0 F' H ∧ RD K F' v x := by
  cases r with
  | d y => cases e; exact ⟨F, rel, st, h⟩
  | new y => cases e; exact holdR rel st h hf
  | exc c => cases e
  | al i =>
    have h : Sl σ i v := h.1
    have e : (match env[i]? with | some (some (SV.own x false)) => some (Out.ok x, env.set i (some (.d x))) | _ => none) = some (Out.ok x, env') := e
    split at e
    · rename_i y q
      cases e
      have q : At env i (SV.own x false) := q
      obtain ⟨p, h1, hF, ho, _, h0⟩ := rel.ownAt q
      have : v = .ref p := by
        have : some (some v) = some (some (V.ref p)) := h.symm.trans h1
        cases this; rfl
      subst this
      obtain ⟨o, ho1, ho2, ho3⟩ := ho.rd hF
      have hil : i < env.length := (List.getElem?_eq_some_iff.mp q).1
      refine ⟨upd F p o, ⟨?_, rel.f0.trans ho3, rel.keep, ?_, by rw [List.length_set]; exact rel.len, ?_, ?_, ?_⟩, ⟨st.f.trans ho3, st.keep, ?_, ?_, st.there⟩, ho2⟩
      · intro a u e
        by_cases z : a = p
        · subst z; rw [upd_same] at e; cases e; exact ho1
        · rw [upd_ne z] at e; exact rel.fh a u e
      · intro b e
        by_cases z : b = p
        · subst z; exact .inr (h0 rfl)
        · rw [upd_ne z] at e; exact rel.new b e
      · intro j sv e
        rcases at_set e with ⟨rfl, rfl⟩ | ⟨nj, e⟩
        · exact ⟨_, h1, ho2⟩
        · obtain ⟨w, k1, k2⟩ := rel.slot j sv e
          refine ⟨w, k1, k2.mono ho3 fun a ea ⟨y, b, es⟩ => ⟨?_, rfl⟩⟩
          subst es ea
          have : a ≠ p := fun z => rel.sep j i y b x false nj e q (by rw [show σ[j]? = _ from k1, show σ[i]? = _ from h1, z])
          rw [upd_ne this]
          exact (rel.ownSome ⟨j, y, b, e, k1⟩).1
      · intro j k y b z c njk ej ek
        rcases at_set ej with ⟨_, w⟩ | ⟨_, ej⟩
        · cases w
        · rcases at_set ek with ⟨_, w⟩ | ⟨_, ek⟩
          · cases w
          · exact rel.sep j k y b z c njk ej ek
      · intro a ha
        obtain ⟨y, e1, e2⟩ := rel.arg a ha
        refine ⟨y, ?_, e2⟩
        have : i ≠ a.1 := fun z => by
          rw [← z] at e1
          have : some (some (SV.own y true)) = some (some (SV.own x false)) := e1.symm.trans q
          cases this
        show (env.set i _)[a.1]? = _
        rw [List.getElem?_set_ne this]
        exact e1
      · intro b e
        by_cases z : b = p
        · subst z; exact .inr (.inr (st.own _ ⟨i, x, false, q, h1⟩))
        · rw [upd_ne z] at e; exact st.new b e
      · intro a ⟨j, y, b, e1, e2⟩
        rcases at_set e1 with ⟨_, w⟩ | ⟨_, e1⟩
        · cases w
        · exact st.own a ⟨j, y, b, e1, e2⟩
    · cases e
end
end Sm

set_option maxRecDepth 100000
set_option maxHeartbeats 4000000
namespace Sm
open PySem L2
/-! ### a def's promise by the small machine -/
def ArgsR (K : PySem.W.Frag) (F H : Hp) : List V → List Arg → List Addr → Prop
  | [], [], [] => True
  | v :: vs, .d x :: as, ps => RD K F v x ∧ ArgsR K F H vs as ps
  | v :: vs, .bor x :: as, p :: ps => v = .ref p ∧ F p = none ∧ Own K F H p x ∧ ArgsR K F H vs as ps
  | _, _, _ => False
def OutsR (K : PySem.W.Frag) (F H : Hp) : List Addr → List D → Prop
  | [], [] => True
  | p :: ps, x :: xs => Own K F H p x ∧ OutsR K F H ps xs
  | _, _ => False
structure CallStep (F H F' H' : Hp) (ps : List Addr) : Prop where
  f : Ex F F'
  fh : Ex F' H'
  keep : ∀ b o, H b = some o → b ∉ ps → H' b = some o
  new : New F F' H
  there : ∀ b o, H b = some o → ∃ o', H' b = some o'
def RC (K : PySem.W.Frag) (H F' H' : Hp) (v : V) : R → Prop
  | .d x => RD K F' v x
  | .new x => ∃ p, v = .ref p ∧ H p = none ∧ F' p = none ∧ Own K F' H' p x
  | _ => False
def spOf (K : PySem.W.Frag) (cl : Nat → Value) (φ : Spec) : Sp := fun vs H Q E => ∃ F as ps o outs, Ex F H ∧ ArgsR K F H vs as ps ∧ ps.Nodup ∧ φ as = some (o, outs) ∧ match o with
  | .ok r => ∀ v F' H', CallStep F H F' H' ps → OutsR K F' H' ps outs → RC K H F' H' v r → Q v H'
  | .rs c => ∀ F' H', CallStep F H F' H' ps → OutsR K F' H' ps outs → E (cl c) none H'
def bnames : List Str := ["len", "int", "list", "tuple", "all", "isinstance", "range", "zip", "enumerate", "bool", "str", "dict", "max", "repr"]
/-- a dict of the module with texts as keys -/
def KdOk (K : PySem.W.Frag) (w : World) (mg : Str → Option Value) (x : Str) (d : PyData) : Prop := ∃ (a : Addr) (es : Array DictEntry) (n : Nat) (kvs : List (PyData × PyData)), d = .dict kvs ∧ mg x = some (.ref a) ∧ KDict K w a es n ∧
  ∀ z, (dget kvs (.inr z) = none → PySem.W.nsIn K a z = some none) ∧ ∀ y, dget kvs (.inr z) = some y → ∃ u v, PySem.W.nsIn K a z = some (some u) ∧ RelV v u ∧ ∀ F, RD K F v y
/-- a def that is called by its name -/
def Callee (X : Cx) (K : PySem.W.Frag) (cl : Nat → Value) (φ : Spec) (x : Str) : Prop := ∃ (k : Nat) (fa : Addr) (fd : FuncData) (ps : List Str) (dvs : List V) (ds : List Value) (sp : Sp),
  FnOk X.prog X.w X.K X.mg X.base (L2.CX X.prog X.w) k fa fd ps sp ∧ Room k X.A ∧ X.mg x = some (.ref fa) ∧ PySem.W.keepIn X.K (.ref fa) = true ∧ Binds X.K fd ps ds ∧ Vals dvs ds ∧
    ∀ vs H Q E, spOf K cl φ vs H Q E → sp (vs ++ dvs) H Q E
/-- an own exception class of that name -/
def OwnX (K : PySem.W.Frag) (mg : Str → Option Value) (x : Str) (u : Value) : Prop := ∃ Ca, u = .ref Ca ∧ mg x = some (.ref Ca) ∧ XcC K x Ca ∧ PySem.W.excIn K Ca He.veBase "ValueError.__new__" = true ∧ PySem.W.keepIn K (.ref Ca) = true ∧
  PySem.W.subIn K (.ref Ca) (.type "BaseException") = some true ∧ PySem.W.typeIn K (.ref Ca) = some (.type "type")
/-- a class that is asked of or caught -/
def EcOk (K : PySem.W.Frag) (mg : Str → Option Value) (p : Str × List (Str × Bool)) : Prop := ∃ (v : V) (u : Value), (mg p.1 = some u ∨ (mg p.1 = none ∧ bootBuiltins p.1 = some u ∧ p.1 ≠ "__name__")) ∧ RelV v u ∧ ClsV v u ∧ PySem.W.kitOne K (.type "NoneType") u = some false ∧
  ∀ q ∈ p.2, ∀ Ca, XcC K q.1 Ca → PySem.W.exmOne K (.ref Ca) u = some q.2 ∧ PySem.W.kitOne K (.ref Ca) u = some q.2
structure Good (X : Cx) (C : Ctx) (sc : Scope) (tb : Tab) (N : List Str) (Φ : Nat → Spec) (cs : Nat → D) : Prop where
  sc : X.env.scope = sc
  kd : X.env.scope.kind = .function
  k : X.K = C.K
  n : X.N = N
  nd : N.Nodup
  calm : X.calm = true
  un : X.A.units + 65 < cLine
  bi : ∀ x ∈ bnames, X.mg x = none
  cn : ∀ k x, tb.cn k = x → x ≠ "" → ∃ v u, X.mg x = some u ∧ RelV v u ∧ ∀ F, RD C.K F v (cs k)
  cd : ∀ k x, tb.dn k = x → x ≠ "" → KdOk X.K X.w X.mg x (cs k)
  rp : tb.rp = true → X.A.guards = some [] ∧ ∃ o, X.base.get? sysModules = some o ∧ o.cls = .type "dict"
  po : PassesOwn (model X.prog X.w) X.A X.env X.xe
  tk : Takes X C.W
  fns : ∀ (f : Nat) (x : Str), tb.fn f = x → x ≠ "" → Callee X C.K C.cl (Φ f) x
  xs : ∀ (c : Nat) (x : Str), tb.xi.xs[c]? = some x → OwnX X.K X.mg x (C.cl c)
  ec : ∀ p ∈ tb.xi.ec, EcOk X.K X.mg p
section
variable {X : Cx} {C : Ctx} {sc : Scope} {tb : Tab} {N : List Str} {Φ : Nat → Spec} {cs : Nat → D}
theorem Good.gl (g : Good X C sc tb N Φ cs) {x : Str} (h : glB sc x = true) : Gl X x := by
  show X.env.scope.names.lookup x = _
  rw [g.sc]
  exact of_decide_eq_true h
theorem Good.vis (g : Good X C sc tb N Φ cs) {x : Str} (h : visB sc x = true) : Vis X.env.scope x := by
  rw [g.sc]
  unfold visB at h
  unfold Vis
  split at h
  · exact .inl (by assumption)
  · exact .inr (.inl (by assumption))
  · exact .inr (.inr (by assumption))
  · cases h
theorem plain_of {x : Str} (h : plainN x = true) : (x == ("__debug__" : Str)) = false ∧ (x == ("__classdict__" : Str)) = false := by
  unfold plainN at h
  simp only [Bool.and_eq_true, Bool.not_eq_true'] at h
  exact h.1
theorem plain_ne {x : Str} (h : plainN x = true) : x ≠ "" := by
  unfold plainN at h
  simp only [Bool.and_eq_true, Bool.not_eq_true'] at h
  intro e
  subst e
  exact absurd h.2 (by decide)
theorem Good.call (g : Good X C sc tb N Φ cs) {f : Nat} {x : Str} {p pos : Pos} {es : List Expr} {t : TA} (hf : tb.fn f = x) (hg : Gl X x) (hp : plainN x = true) (he : okEs es = true) (hn : es.isEmpty = false) (ha : PA X es t) :
    ∃ (sp : Sp) (dvs : List V), (∀ vs H Q E, spOf C.K C.cl (Φ f) vs H Q E → sp (vs ++ dvs) H Q E) ∧ PE X (.Call (.Name x p) es [] pos) (tCallSD sp dvs (fun σ => WE C.W σ) t) := by
  obtain ⟨k, fa, fd, ps, dvs, ds, sp, F, hr, hm, hk, hb, hd, himp⟩ := g.fns f x hf (plain_ne hp)
  cases es with
  | nil => cases hn
  | cons e es =>
    have he' : okE e = true ∧ okEs es = true := by simpa [okEs] using he
    exact ⟨sp, dvs, himp, pe_callSD F hr hg hm hk hb hd (fun σ => passAt g.tk σ) ha (plain_of hp).1 (ok_star he'.1 es _) (ok_noStar es _ _ he'.2)⟩
theorem Good.nodbg {x : Str} (h : x ∈ bnames) : (x == ("__debug__" : Str)) = false ∧ x ≠ "__name__" := by
  revert x
  decide +kernel
/-- a value's reading behind an operation -/
theorem wantsGo {F H : Hp} {env : Sm.Env} {σ : St} {r : R} {Q : VK} (rel : Rel C.K C.G F env σ H) 
    (q : ∀ v F' H', Rel C.K C.G F' env σ H' → Step env env σ F H F' H' → (rlE C.K C.G).r σ H r F' env H' v → Q v H') : Wants C.K F H r Q := by
  intro v F' H' gr h
  refine q v F' H' (rel.grow gr) gr.step ⟨RR.of0 rel gr h, ?_⟩
  cases r with
  | new x =>
    obtain ⟨p, rfl, hp, _⟩ := h
    intro p' e
    cases e
    exact hp
  | _ => trivial
/-- first one, then what is behind it, over the same slots -/
theorem go1 {α β γ δ : Type} {rl : Rl α β} {rl2 : Rl γ δ} {m : M α} {f : α → M γ} {σ : St} {H : Hp} {Q : δ → Hp → Prop} {P : β → Hp → Prop} (h : Go C rl2 (m.bind f) σ H Q)
    (k : ∀ a F env H1 b, Rel C.K C.G F env σ H1 → (∀ p, H1 p = none → H p = none) → rl.r σ H a F env H1 b → GoF C rl2 (f a) F env σ H1 Q → P b H1) : Go C rl m σ H P := by
  obtain ⟨F, env, rel, h⟩ := h
  refine ⟨F, env, rel, ?_⟩
  obtain ⟨o, env', e, q⟩ := h.seq (rl := rl)
  refine ⟨o, env', e, ?_⟩
  cases o with
  | rs c => exact q
  | ok a =>
    intro b F1 H1 r1 s1 h1
    obtain ⟨a', F1', env1, r1', s1', hx, h2⟩ := q b F1 H1 r1 s1 h1
    exact k a' F1' env1 H1 b r1' (fun p => s1'.none) hx h2
/-- .. with what the step was -/
theorem go1s {α β γ δ : Type} {rl : Rl α β} {rl2 : Rl γ δ} {m : M α} {f : α → M γ} {σ : St} {H F : Hp} {env : Sm.Env} {Q : δ → Hp → Prop} {P : β → Hp → Prop} (rel : Rel C.K C.G F env σ H) (h : GoF C rl2 (m.bind f) F env σ H Q)
    (k : ∀ a F1 env1 H1 b, Rel C.K C.G F1 env1 σ H1 → Step env env1 σ F H F1 H1 → rl.r σ H a F1 env1 H1 b → GoF C rl2 (f a) F1 env1 σ H1 Q → P b H1) : Go C rl m σ H P := by
  refine ⟨F, env, rel, ?_⟩
  obtain ⟨o, env', e, q⟩ := h.seq (rl := rl)
  refine ⟨o, env', e, ?_⟩
  cases o with
  | rs c => exact q
  | ok a =>
    intro b F1 H1 r1 s1 h1
    obtain ⟨a', F1', env1, r1', s1', hx, h2⟩ := q b F1 H1 r1 s1 h1
    exact k a' F1' env1 H1 b r1' s1' hx h2
/-- two operands, then an operation on the data that they are -/
theorem op2 {ma mb : M R} {f : D → D → Option R} {σ : St} {H : Hp} {Q : VK}
    (h : tE C (ma.bind fun x => mb.bind fun y => (rdM x).bind fun dx => (rdM y).bind fun dy => .opt (f dx dy)) σ H Q) : tOp (OpS C.K f) (tE C ma) (tE C mb) σ H Q := by
  refine go1 (rl := rlE C.K C.G) h fun x F1 env1 H1 v r1 _ hx h => ?_
  refine go1s (rl := rlE C.K C.G) r1 h fun y F2 env2 H2 u r2 s2 hy h => ?_
  obtain ⟨dx, ex, h⟩ := h.rd
  obtain ⟨dy, ey, h⟩ := h.rd
  obtain ⟨r, er, q⟩ := h.opt
  exact ⟨F2, dx, dy, r, r2.fh, (hx.1.lift s2).ro r2 ex, hy.1.ro r2 ey, er, wantsGo r2 q⟩
/-- a bool at its end -/
def boolM (m : M R) : Prop := ∀ env r env', m env = some (.ok r, env') → ∃ b, r = .d (.bool b)
theorem testOf {m : M R} (hb : boolM m) {σ : St} {H : Hp} {Q : Bool → Hp → Prop} (h : tT C (m.bind fun x => (rdM x).bind fun dx => .opt (truD dx)) σ H Q) : tE C m σ H fun x H' => ∃ k, x = .bl k ∧ Q k H' := by
  obtain ⟨F, env, rel, h⟩ := h
  refine ⟨F, env, rel, ?_⟩
  obtain ⟨o, env', e, q⟩ := h.seq (rl := rlE C.K C.G)
  refine ⟨o, env', e, ?_⟩
  cases o with
  | rs c => exact q
  | ok r =>
    obtain ⟨b, rfl⟩ := hb _ _ _ e
    intro v F1 H1 r1 s1 h1
    have hv : v = .bl b := h1.1
    subst hv
    obtain ⟨a', F1', env1, r1', s1', hx, h2⟩ := q _ F1 H1 r1 s1 h1
    refine ⟨b, rfl, ?_⟩
    obtain ⟨d, ed, h2⟩ := h2.rd
    obtain ⟨k, ek, q2⟩ := h2.opt
    have hro := hx.1.ro r1' ed
    have : d = .bool b := by
      cases d with
      | bool c => have := hro.bool; cases this; rfl
      | none => have := hro.non; cases this
      | int i => have := hro.int; cases this
      | str i => have := hro.str; cases this
      | list ds => obtain ⟨_, _, z, _⟩ := hro.lst r1'.fh; cases z
      | tuple ds => obtain ⟨_, _, z, _⟩ := hro.tup r1'.fh; cases z
      | dict ds => rcases hro with (⟨_, _, z, _⟩ | ⟨_, _, _, _, z, _⟩) | ⟨_, z, _⟩ <;> cases z
    subst this
    cases ek
    exact q2 _ F1' H1 r1' .refl rfl
/-- a value's truth -/
theorem truthOf {m : M R} {σ : St} {H : Hp} {Q : Bool → Hp → Prop} (h : tT C (m.bind fun x => (rdM x).bind fun dx => .opt (truD dx)) σ H Q) : tE C m σ H fun x H' => ∃ k, TruV C.K x H' k ∧ Q k H' := by
  refine go1 (rl := rlE C.K C.G) h fun x F1 env1 H1 v r1 _ hx h => ?_
  obtain ⟨d, ed, h⟩ := h.rd
  obtain ⟨k, ek, q⟩ := h.opt
  have hro := hx.1.ro r1 ed
  refine ⟨k, ?_, q _ F1 H1 r1 .refl rfl⟩
  cases d with
  | none => rw [hro.non]; cases ek; rfl
  | bool c => rw [hro.bool]; cases ek; rfl
  | int i => rw [hro.int]; cases ek; rfl
  | str i =>
    rw [hro.str]
    obtain ⟨c, rfl⟩ := ifs ek
    exact ⟨fits_le c, rfl⟩
  | list ds =>
    obtain ⟨a, vs, rfl, ha, ra⟩ := hro.lst r1.fh
    cases ek
    refine .inl ⟨vs, .inl ha, ?_⟩
    have := ra.len
    cases vs <;> cases ds <;> first | rfl | (simp at this)
  | tuple ds =>
    obtain ⟨a, vs, rfl, ha, ra⟩ := hro.tup r1.fh
    cases ek
    refine .inr (.inl ⟨vs, ha, ?_⟩)
    have := ra.len
    cases vs <;> cases ds <;> first | rfl | (simp at this)
  | dict ds => cases ek
theorem bool_opt {α : Type} {m : M α} {f : α → M R} (h : ∀ a, boolM (f a)) : boolM (m.bind f) := by
  intro env r env' e
  unfold M.bind at e
  split at e
  · cases e
  · cases e
  · exact h _ _ _ _ e
theorem bool_map {o : Option Bool} : boolM (.opt (o.map fun b => .d (.bool b))) := by
  intro env r env' e
  cases o with
  | none => cases e
  | some b => cases e; exact ⟨b, rfl⟩
theorem bool_ret {b : Bool} : boolM (.ret (.d (.bool b))) := by
  intro env r env' e
  cases e
  exact ⟨b, rfl⟩
end
end Sm

set_option maxRecDepth 100000
set_option maxHeartbeats 4000000
namespace Sm
open PySem L2
section
variable {X : Cx} {C : Ctx} {sc : Scope} {tb : Tab} {N : List Str} {Φ : Nat → Spec} {cs : Nat → D}
/-! ### one construct after the other -/
theorem sNm (g : Good X C sc tb N Φ cs) {i : Nat} {x : Str} {pos : Pos} (h : decide (N[i]? = some x) = true) (hv : visB sc x = true) (hp : plainN x = true) : PE X (.Name x pos) (tE C (evE Φ cs (.nm i))) := by
  refine PE.imp (pe_var (i := i) (by rw [g.n]; exact of_decide_eq_true h) (g.vis hv) (plain_of hp).1 (plain_of hp).2) ?_
  intro σ H Q ⟨F, env, rel, o, env', e, q⟩
  have e : nmM i env = some (o, env') := e
  unfold nmM at e
  split at e
  · rename_i d z
    cases e
    obtain ⟨v, h1, h2⟩ := rel.slot i (.d d) z
    exact ⟨v, h1, q v F H rel .refl ⟨h2, trivial⟩⟩
  · rename_i d b z
    cases e
    obtain ⟨a, h1, _⟩ := rel.ownAt z
    exact ⟨_, h1, q _ F H rel .refl ⟨⟨h1, _, rfl⟩, trivial⟩⟩
  · rename_i c z
    cases e
    obtain ⟨v, h1, h2⟩ := rel.slot i (.exc c) z
    exact h2.elim
  · cases e
theorem dE {d : D} {v : V} {σ : St} {H : Hp} {Q : VK} (h : tE C (.ret (.d d)) σ H Q) (hd : ∀ F, RD C.K F v d) : Q v H := by
  obtain ⟨F, env, rel, h⟩ := h
  exact h.ret v F H rel .refl ⟨hd F, trivial⟩
theorem sCst (g : Good X C sc tb N Φ cs) {k : Nat} {x : Str} {pos : Pos} (h : decide (x = tb.cn k) = true) (hv : glB sc x = true) (hp : plainN x = true) : PE X (.Name x pos) (tE C (evE Φ cs (.cst k))) := by
  obtain ⟨v, u, hm, r, hd⟩ := g.cn k x (of_decide_eq_true h).symm (plain_ne hp)
  exact PE.imp (pe_glob (g.gl hv) hm r (plain_of hp).1) fun σ H Q h => dE h hd
theorem sLit {c : Const} {k : Nat} {pos : Pos} {d : D} (h : litB c d = true) : PE X (.Constant c k pos) (tE C (evE Φ cs (.lit d))) := by
  cases c <;> cases d <;> simp only [litB, Bool.false_eq_true, decide_eq_true_eq, beq_iff_eq] at h
  · exact PE.imp pe_non fun σ H Q h => dE h fun _ => rfl
  · subst h
    exact PE.imp pe_bl fun σ H Q h => dE h fun _ => rfl
  · subst h
    exact PE.imp pe_int fun σ H Q h => dE h fun _ => rfl
  · subst h
    exact PE.imp pe_str fun σ H Q h => dE h fun _ => rfl
theorem opK (g : Good X C sc tb N Φ cs) {f : Value → Value → Sem Value} {h : D → D → Option R} (k : OpR X f (OpS X.K h)) : OpR X f (OpS C.K h) := by rw [← g.k]; exact k
theorem sBinE (g : Good X C sc tb N Φ cs) {o : BO} {ma mb : E} {a b : Expr} {pos : Pos} (ha : PE X a (tE C (evE Φ cs ma))) (hb : PE X b (tE C (evE Φ cs mb))) : PE X (.BinOp a (opB o) b pos) (tE C (evE Φ cs (.bin o ma mb))) := by
  have := opK g (sBin (X := X) o g.un)
  cases o <;> exact PE.imp (pe_op this ha hb) fun σ H Q h => op2 h
theorem sNegE {ma : E} {a : Expr} {pos : Pos} (ha : PE X a (tE C (evE Φ cs ma))) : PE X (.UnaryOp .USub a pos) (tE C (evE Φ cs (.neg ma))) := by
  refine PE.imp (pe_un un_neg ha) fun σ H Q h => ?_
  refine go1 (rl := rlE C.K C.G) h fun x F1 env1 H1 v r1 _ hx h => ?_
  obtain ⟨d, ed, h⟩ := h.rd
  obtain ⟨r, er, q⟩ := h.opt
  have ro := hx.1.ro r1 ed
  cases d <;> simp only [negD, reduceCtorEq, Option.some.injEq] at er
  subst er
  exact ⟨_, ro.int, q _ F1 H1 r1 .refl ⟨rfl, trivial⟩⟩
theorem boolCmp {o : CO} {ma mb : E} : boolM (evE Φ cs (.cmp o ma mb)) :=
  bool_opt (m := evE Φ cs ma) fun _ => bool_opt (m := evE Φ cs mb) fun _ => bool_opt fun _ => bool_opt fun _ => bool_map
theorem sCmpE (g : Good X C sc tb N Φ cs) {o : CO} {ma mb : E} {a b : Expr} {pos : Pos} (ha : PE X a (tE C (evE Φ cs ma))) (hb : PE X b (tE C (evE Φ cs mb))) (kb : okE b = true) :
    PE X (.Compare a [opOf o] [b] pos) (tE C (evE Φ cs (.cmp o ma mb))) ∧ PT X (.Compare a [opOf o] [b] pos) (tT C (evT Φ cs (.cmp o ma mb))) := by
  have k := opK g (sCmp (X := X) o g.un)
  exact ⟨PE.imp (pe_cmpR k ha hb (ok_mark kb _)) fun σ H Q h => op2 h, PT.imp (pt_cmpR k ha hb (ok_mark kb _)) fun σ H Q h => op2 (f := fun x y => (cmpD o x y).map fun b => .d (.bool b)) (testOf boolCmp h)⟩
theorem none_of {K : PySem.W.Frag} {G : Gh} {F H : Hp} {env : Sm.Env} {σ : St} {v : V} {r : R} (h : RR K G σ r F env H v) : decide (v = .non) = noneR r := by
  cases r with
  | d x =>
    have h : RD K F v x := h
    cases x with
    | none => have h : v = .non := h; subst h; rfl
    | bool c => have h : v = .bl c := h; subst h; rfl
    | int c => have h : v = .int c := h; subst h; rfl
    | str c => have h : v = .str c := h; subst h; rfl
    | list ds => obtain ⟨a, _, rfl, _⟩ := h; rfl
    | tuple ds => obtain ⟨a, _, rfl, _⟩ := h; rfl
    | dict ds => rcases h with ⟨a, _, rfl, _⟩ | ⟨a, _, _, _, rfl, _⟩ <;> rfl
  | new x => obtain ⟨p, rfl, _⟩ := h; rfl
  | al i => obtain ⟨_, p, rfl⟩ := h; rfl
  | exc c => exact h.elim
theorem isN1 {ma : E} {no : Bool} {σ : St} {H : Hp} {Q : VK} (h : tE C ((evE Φ cs ma).bind (isNM no)) σ H Q) : tE C (evE Φ cs ma) σ H fun x H1 => Q (.bl (decide (x = .non) != no)) H1 := by
  refine go1 (rl := rlE C.K C.G) h fun x F1 env1 H1 v r1 _ hx h => ?_
  rw [none_of hx.1]
  exact h.ret _ F1 H1 r1 .refl ⟨rfl, trivial⟩
theorem boolN {ma : E} {no : Bool} : boolM (evE Φ cs (.isN ma no)) := bool_opt (m := evE Φ cs ma) fun _ => bool_ret
theorem sIsN {ma : E} {a : Expr} {pos p2 : Pos} {k : Nat} (ha : PE X a (tE C (evE Φ cs ma))) :
    PE X (.Compare a [.Is] [.Constant .none k p2] pos) (tE C (evE Φ cs (.isN ma false))) ∧ PT X (.Compare a [.Is] [.Constant .none k p2] pos) (tT C (evT Φ cs (.isN ma false))) := by
  refine ⟨PE.imp (pe_cmpR op_isN ha pe_non (nomark _)) fun σ H Q h => ?_, PT.imp (pt_cmpR op_isN ha pe_non (nomark _)) fun σ H Q h => ?_⟩
  · have := isN1 h
    simp only [Bool.bne_false] at this
    obtain ⟨F, env, rel, o, env', e, q⟩ := this
    refine ⟨F, env, rel, o, env', e, ?_⟩
    cases o with
    | ok r => exact fun b F' H' r' s' h' => ⟨rfl, q b F' H' r' s' h'⟩
    | rs c => exact q
  · have := isN1 (testOf boolN h)
    simp only [Bool.bne_false] at this
    obtain ⟨F, env, rel, o, env', e, q⟩ := this
    refine ⟨F, env, rel, o, env', e, ?_⟩
    cases o with
    | ok r => exact fun b F' H' r' s' h' => ⟨rfl, q b F' H' r' s' h'⟩
    | rs c => exact q
theorem sNotN {ma : E} {a : Expr} {pos p2 : Pos} {k : Nat} (ha : PE X a (tE C (evE Φ cs ma))) :
    PE X (.Compare a [.IsNot] [.Constant .none k p2] pos) (tE C (evE Φ cs (.isN ma true))) ∧ PT X (.Compare a [.IsNot] [.Constant .none k p2] pos) (tT C (evT Φ cs (.isN ma true))) := by
  refine ⟨PE.imp (pe_cmpR op_notN ha pe_non (nomark _)) fun σ H Q h => ?_, PT.imp (pt_cmpR op_notN ha pe_non (nomark _)) fun σ H Q h => ?_⟩
  · have := isN1 h
    simp only [Bool.bne_true] at this
    obtain ⟨F, env, rel, o, env', e, q⟩ := this
    refine ⟨F, env, rel, o, env', e, ?_⟩
    cases o with
    | ok r => exact fun b F' H' r' s' h' => ⟨rfl, q b F' H' r' s' h'⟩
    | rs c => exact q
  · have := isN1 (testOf boolN h)
    simp only [Bool.bne_true] at this
    obtain ⟨F, env, rel, o, env', e, q⟩ := this
    refine ⟨F, env, rel, o, env', e, ?_⟩
    cases o with
    | ok r => exact fun b F' H' r' s' h' => ⟨rfl, q b F' H' r' s' h'⟩
    | rs c => exact q
theorem isB1 {ma : E} {k no : Bool} {σ : St} {H : Hp} {Q : VK} (h : tE C ((evE Φ cs ma).bind (isBM k no)) σ H Q) : tE C (evE Φ cs ma) σ H fun x H1 => ∃ b, x = .bl b ∧ Q (.bl ((b == k) != no)) H1 := by
  refine go1 (rl := rlE C.K C.G) h fun x F1 env1 H1 v r1 _ hx h => ?_
  obtain ⟨o, env', e, q⟩ := h
  unfold isBM at e
  split at e
  · rename_i b
    cases e
    exact ⟨b, hx.1, q _ F1 H1 r1 .refl ⟨rfl, trivial⟩⟩
  · cases e
theorem boolB {ma : E} {k no : Bool} : boolM (evE Φ cs (.isB ma k no)) := bool_opt (m := evE Φ cs ma) fun x => by
  intro env r env' e
  unfold isBM at e
  split at e
  · cases e; exact ⟨_, rfl⟩
  · cases e
theorem dec_beq (a b : Bool) : decide (a = b) = (a == b) := by cases a <;> cases b <;> rfl
theorem sIsB {ma : E} {a : Expr} {pos p2 : Pos} {j : Nat} {k : Bool} (ha : PE X a (tE C (evE Φ cs ma))) :
    PE X (.Compare a [.Is] [.Constant (.bool k) j p2] pos) (tE C (evE Φ cs (.isB ma k false))) ∧ PT X (.Compare a [.Is] [.Constant (.bool k) j p2] pos) (tT C (evT Φ cs (.isB ma k false))) := by
  have go : ∀ {σ H} {Q : VK}, tE C (evE Φ cs (.isB ma k false)) σ H Q → tOp rIsB (tE C (evE Φ cs ma)) (tC (.bl k)) σ H Q := fun {σ H Q} h => by
    obtain ⟨F, env, rel, o, env', e, q⟩ := isB1 h
    refine ⟨F, env, rel, o, env', e, ?_⟩
    cases o with
    | ok r =>
      intro v F' H' r' s' h'
      obtain ⟨b, rfl, z⟩ := q v F' H' r' s' h'
      exact ⟨b, k, rfl, rfl, by rw [dec_beq]; simpa using z⟩
    | rs c => exact q
  exact ⟨PE.imp (pe_cmpR op_isBl ha pe_bl (nomark _)) fun σ H Q h => go h, PT.imp (pt_cmpR op_isBl ha pe_bl (nomark _)) fun σ H Q h => go (testOf boolB h)⟩
theorem sNotB {ma : E} {a : Expr} {pos p2 : Pos} {j : Nat} {k : Bool} (ha : PE X a (tE C (evE Φ cs ma))) :
    PE X (.Compare a [.IsNot] [.Constant (.bool k) j p2] pos) (tE C (evE Φ cs (.isB ma k true))) ∧ PT X (.Compare a [.IsNot] [.Constant (.bool k) j p2] pos) (tT C (evT Φ cs (.isB ma k true))) := by
  have go : ∀ {σ H} {Q : VK}, tE C (evE Φ cs (.isB ma k true)) σ H Q → tOp rNotB (tE C (evE Φ cs ma)) (tC (.bl k)) σ H Q := fun {σ H Q} h => by
    obtain ⟨F, env, rel, o, env', e, q⟩ := isB1 h
    refine ⟨F, env, rel, o, env', e, ?_⟩
    cases o with
    | ok r =>
      intro v F' H' r' s' h'
      obtain ⟨b, rfl, z⟩ := q v F' H' r' s' h'
      exact ⟨b, k, rfl, rfl, by rw [dec_beq]; simpa using z⟩
    | rs c => exact q
  exact ⟨PE.imp (pe_cmpR op_notBl ha pe_bl (nomark _)) fun σ H Q h => go h, PT.imp (pt_cmpR op_notBl ha pe_bl (nomark _)) fun σ H Q h => go (testOf boolB h)⟩
/-- a bool's value from its datum -/
theorem ro_bool {F H : Hp} {v : V} {b : Bool} {x : R} {env : Sm.Env} {σ : St} (rel : Rel C.K C.G F env σ H) (h : RR C.K C.G σ x F env H v) (e : x.rd env = some (.bool b)) : v = .bl b := (h.ro rel e).bool
theorem chain1 {o p : CO} {ma mb mc : M R} {σ : St} {H : Hp} {Q : VK} (h : tE C (chM o p ma mb mc) σ H Q) : tChain (OpC C.K (cmpD o)) (OpC C.K (cmpD p)) (tE C ma) (tE C mb) (tE C mc) σ H Q := by
  refine go1 (rl := rlE C.K C.G) h fun x F1 env1 H1 v r1 _ hx h => ?_
  refine go1s (rl := rlE C.K C.G) r1 h fun y F2 env2 H2 u r2 s2 hy h => ?_
  obtain ⟨dx, ex, h⟩ := h.rd
  obtain ⟨dy, ey, h⟩ := h.rd
  obtain ⟨w, env', e, q⟩ := h
  unfold M.bind M.opt at e
  cases z : cmpD o dx dy with
  | none => rw [z] at e; cases e
  | some k =>
    rw [z] at e
    refine ⟨F2, dx, dy, .d (.bool k), r2.fh, (hx.1.lift s2).ro r2 ex, hy.1.ro r2 ey, by simp only [z, Option.map_some], fun v' F' H' gr hv => ?_⟩
    have hv : v' = .bl k := hv
    subst hv
    refine ⟨k, rfl, ?_⟩
    have r3 := r2.grow gr
    have s3 : Step env2 env2 σ F2 H2 F' H' := gr.step
    cases k with
    | false =>
      have e : some (Out.ok (R.d (.bool false)), env2) = some (w, env') := e
      cases e
      rw [if_neg Bool.false_ne_true]
      exact q _ F' H' r3 s3 ⟨rfl, trivial⟩
    | true =>
      rw [if_pos rfl]
      have g3 : GoF C (rlE C.K C.G) (mc.bind fun z => (rdM y).bind fun dy => (rdM z).bind fun dz => .opt ((cmpD p dy dz).map fun b => .d (.bool b))) F' env2 σ H' Q := GoF.from s3 ⟨w, env', e, q⟩
      refine go1s (rl := rlE C.K C.G) r3 g3 fun z F4 env4 H4 u4 r4 s4 hz h => ?_
      obtain ⟨dy', ey', h⟩ := h.rd
      obtain ⟨dz, ez, h⟩ := h.rd
      obtain ⟨r, er, q⟩ := h.opt
      exact ⟨F4, dy', dz, r, r4.fh, ((hy.1.lift s3).lift s4).ro r4 ey', hz.1.ro r4 ez, er, wantsGo r4 q⟩
theorem boolCh {o p : CO} {ma mb mc : E} : boolM (evE Φ cs (.ch o p ma mb mc)) :=
  bool_opt (m := evE Φ cs ma) fun _ => bool_opt (m := evE Φ cs mb) fun _ => bool_opt fun _ => bool_opt fun _ => bool_opt fun k => by
    cases k
    · exact bool_ret
    · exact bool_opt (m := evE Φ cs mc) fun _ => bool_opt fun _ => bool_opt fun _ => bool_map
theorem sChE (g : Good X C sc tb N Φ cs) {o p : CO} {ma mb mc : E} {a b c : Expr} {pos : Pos} (ha : PE X a (tE C (evE Φ cs ma))) (hb : PE X b (tE C (evE Φ cs mb))) (hc : PE X c (tE C (evE Φ cs mc))) (kc : okE c = true) :
    PE X (.Compare a [opOf o, opOf p] [b, c] pos) (tE C (evE Φ cs (.ch o p ma mb mc))) ∧ PT X (.Compare a [opOf o, opOf p] [b, c] pos) (tT C (evT Φ cs (.ch o p ma mb mc))) := by
  have k1 := opK g (sCmp (X := X) o g.un)
  have k2 := opK g (sCmp (X := X) p g.un)
  have m : lastMarks [opOf o, opOf p] [b, c] = false := ok_mark kc _
  exact ⟨PE.imp (pe_chain k1 k2 ha hb hc m) fun σ H Q h => chain1 h, PT.imp (pt_chain k1 k2 ha hb hc m) fun σ H Q h => chain1 (testOf boolCh h)⟩
end
end Sm

set_option maxRecDepth 100000
set_option maxHeartbeats 4000000
namespace Sm
open PySem L2
section
variable {X : Cx} {C : Ctx} {sc : Scope} {tb : Tab} {N : List Str} {Φ : Nat → Spec} {cs : Nat → D}
/-- one operand, then an operation on the datum that it is -/
theorem op1 {ma : M R} {f : D → Option R} {σ : St} {H : Hp} {Q : VK} (h : tE C (ma.bind fun x => (rdM x).bind fun dx => .opt (f dx)) σ H Q) :
    tE C ma σ H fun v H1 => ∃ F dx r, Ex F H1 ∧ RO C.K F H1 v dx ∧ f dx = some r ∧ Wants C.K F H1 r Q := by
  refine go1 (rl := rlE C.K C.G) h fun x F1 env1 H1 v r1 _ hx h => ?_
  obtain ⟨d, ed, h⟩ := h.rd
  obtain ⟨r, er, q⟩ := h.opt
  exact ⟨F1, d, r, r1.fh, hx.1.ro r1 ed, er, wantsGo r1 q⟩
theorem sIxE (g : Good X C sc tb N Φ cs) {ma mb : E} {a b : Expr} {pos : Pos} (ha : PE X a (tE C (evE Φ cs ma))) (hb : PE X b (tE C (evE Φ cs mb))) (kb : okE b = true) : PE X (.Subscript a b pos) (tE C (evE Φ cs (.ix ma mb))) := by
  have k : IxR X (IxS C.K) := by rw [← g.k]; exact sIx
  exact PE.imp (pe_ix k ha hb (ok_plain kb)) fun σ H Q h => op2 (f := fun x y => (ixD x y).map .d) h
theorem sSlE (g : Good X C sc tb N Φ cs) {ma : E} {ml mh : OE} {a : Expr} {l h : Option Expr} {p2 pos : Pos} (ha : PE X a (tE C (evE Φ cs ma))) (hl : PO X l (tO C (evO Φ cs ml))) (hh : PO X h (tO C (evO Φ cs mh))) :
    PE X (.Subscript a (.Slice l h none p2) pos) (tE C (evE Φ cs (.sl ma ml mh))) := by
  have k : SlR X (SlS C.K) := by rw [← g.k]; exact sSl
  refine PE.imp (pe_slice k ha hl hh) fun σ H Q h => ?_
  refine go1 (rl := rlE C.K C.G) h fun x F1 env1 H1 v r1 _ hx h => ?_
  refine go1s (rl := rlO) r1 h fun lo F2 env2 H2 lo' r2 s2 hlo h => ?_
  have hlo : lo' = lo := hlo
  subst hlo
  refine go1s (rl := rlO) r2 h fun hi F3 env3 H3 hi' r3 s3 hhi h => ?_
  have hhi : hi' = hi := hhi
  subst hhi
  obtain ⟨d, ed, h⟩ := h.rd
  obtain ⟨r, er, q⟩ := h.opt
  exact ⟨F3, d, r, r3.fh, ((hx.1.lift s2).lift s3).ro r3 ed, er, wantsGo r3 q⟩
theorem sO1 {ma : E} {a : Expr} (ha : PE X a (tE C (evE Φ cs ma))) : PO X (some a) (tO C (evO Φ cs (.yes ma))) := by
  refine PO.imp (po_some ha) fun σ H Q h => ?_
  refine go1 (rl := rlE C.K C.G) h fun x F1 env1 H1 v r1 _ hx h => ?_
  obtain ⟨d, ed, h⟩ := h.rd
  obtain ⟨r, er, q⟩ := h.opt
  have ro := hx.1.ro r1 ed
  cases d <;> simp only [partD, reduceCtorEq, Option.some.injEq] at er
  subst er
  exact ⟨_, ro.int, q _ F1 H1 r1 .refl rfl⟩
theorem sO0 : PO X none (tO C (evO Φ cs .no)) := PO.imp po_none fun σ H Q ⟨F, env, rel, h⟩ => h.ret none F H rel .refl rfl
theorem sNotE {ma : E} {a : Expr} {pos : Pos} (hs : PT X a (tT C (evT Φ cs ma))) : PT X (.UnaryOp .Not a pos) (tT C (evT Φ cs (.not ma))) := by
  refine PT.imp (pt_not hs) fun σ H Q h => ?_
  refine go1 (rl := rlB) h fun x F1 env1 H1 v r1 _ hx h => ?_
  have hx : v = x := hx
  subst hx
  exact h.ret _ F1 H1 r1 .refl rfl
theorem sNotV {ma : E} {a : Expr} {pos : Pos} (g : Good X C sc tb N Φ cs) (ha : PE X a (tE C (evE Φ cs ma))) : PE X (.UnaryOp .Not a pos) (tE C (evE Φ cs (.not ma))) := by
  refine PE.imp (pe_notT ha) fun σ H Q h => ?_
  rw [g.k]
  refine truthOf (go1 (rl := rlB) h fun x F1 env1 H1 v r1 _ hx h => ?_)
  have hx : v = x := hx
  subst hx
  exact h.ret _ F1 H1 r1 .refl ⟨rfl, trivial⟩
theorem sIfE {mc ma mb : E} {c a b : Expr} {pos : Pos} (hc : PT X c (tT C (evT Φ cs mc))) (ha : PE X a (tE C (evE Φ cs ma))) (hb : PE X b (tE C (evE Φ cs mb))) : PE X (.IfExp c a b pos) (tE C (evE Φ cs (.ife mc ma mb))) := by
  refine PE.imp (pe_ifExp hc ha hb) fun σ H Q h => ?_
  refine go1 (rl := rlB) h fun x F1 env1 H1 v r1 _ hx h => ?_
  have hx : v = x := hx
  subst hx
  cases v with
  | true => rw [if_pos rfl] at h ⊢; exact ⟨F1, env1, r1, h⟩
  | false => rw [if_neg Bool.false_ne_true] at h ⊢; exact ⟨F1, env1, r1, h⟩
/-! items, displays -/
theorem sANil : PA X [] (tA C (evA Φ cs .nil)) := PA.imp pa_nil fun σ H Q ⟨F, env, rel, h⟩ => h.ret [] F H rel .refl (show RDs C.K F [] [] from rfl)
theorem frz_ok {r : R} {e e' : Sm.Env} {o : Out D} (h : frz r e = some (o, e')) : ∃ d, o = .ok d := by
  cases r <;> simp only [frz, reduceCtorEq, Option.some.injEq, Prod.mk.injEq] at h
  · exact ⟨_, h.1.symm⟩
  · exact ⟨_, h.1.symm⟩
  · split at h
    · simp only [Option.some.injEq, Prod.mk.injEq] at h; exact ⟨_, h.1.symm⟩
    · cases h
/-- what an expression gives becomes a datum, then the rest -/
theorem goFrz {γ δ : Type} {rl2 : Rl γ δ} {ma : M R} {f : D → M γ} {σ : St} {H : Hp} {Q : δ → Hp → Prop} {P : VK} (h : Go C rl2 (ma.bind fun x => (frz x).bind f) σ H Q)
    (k : ∀ d F env H1 v, Rel C.K C.G F env σ H1 → (∀ p, H1 p = none → H p = none) → RD C.K F v d → GoF C rl2 (f d) F env σ H1 Q → P v H1) : tE C ma σ H P := by
  obtain ⟨F, env, rel, h⟩ := h
  refine ⟨F, env, rel, ?_⟩
  obtain ⟨o, env', e, q⟩ := h.bind (rl := rlE C.K C.G)
  refine ⟨o, env', e, ?_⟩
  cases o with
  | rs c => exact q
  | ok a =>
    intro v F1 H1 r1 s1 h1
    obtain ⟨a', F1', env1, r1', s1', hx, o2, env2, e2, q2⟩ := q v F1 H1 r1 s1 h1
    unfold M.bind at e2
    split at e2
    · cases e2
    · rename_i c e' z
      obtain ⟨d, hd⟩ := frz_ok z
      cases hd
    · rename_i d e' z
      obtain ⟨F2, r2, s2, hd⟩ := frzR r1' s1' hx.1 hx.2 z
      exact k d F2 e' H1 v r2 (fun p => s2.none) hd (GoF.from s2 ⟨o2, env2, e2, q2⟩)
theorem goFrzs {γ δ : Type} {rl2 : Rl γ δ} {ma : M R} {f : D → M γ} {σ : St} {H F : Hp} {env : Sm.Env} {Q : δ → Hp → Prop} {P : VK} (rel : Rel C.K C.G F env σ H) (h : GoF C rl2 (ma.bind fun x => (frz x).bind f) F env σ H Q)
    (k : ∀ d F1 env1 H1 v, Rel C.K C.G F1 env1 σ H1 → Step env env1 σ F H F1 H1 → RD C.K F1 v d → GoF C rl2 (f d) F1 env1 σ H1 Q → P v H1) : tE C ma σ H P := by
  refine ⟨F, env, rel, ?_⟩
  obtain ⟨o, env', e, q⟩ := h.bind (rl := rlE C.K C.G)
  refine ⟨o, env', e, ?_⟩
  cases o with
  | rs c => exact q
  | ok a =>
    intro v F1 H1 r1 s1 h1
    obtain ⟨a', F1', env1, r1', s1', hx, o2, env2, e2, q2⟩ := q v F1 H1 r1 s1 h1
    unfold M.bind at e2
    split at e2
    · cases e2
    · rename_i c e' z
      obtain ⟨d, hd⟩ := frz_ok z
      cases hd
    · rename_i d e' z
      obtain ⟨F2, r2, s2, hd⟩ := frzR r1' s1' hx.1 hx.2 z
      exact k d F2 e' H1 v r2 s2 hd (GoF.from s2 ⟨o2, env2, e2, q2⟩)
theorem sACons {ma : E} {mr : A} {a : Expr} {es : List Expr} (ha : PE X a (tE C (evE Φ cs ma))) (hr : PA X es (tA C (evA Φ cs mr))) (ka : okE a = true) : PA X (a :: es) (tA C (evA Φ cs (.cons ma mr))) := by
  refine PA.imp (pa_cons ha hr (ok_star ka es _)) fun σ H Q h => ?_
  refine goFrz h fun d F1 env1 H1 v r1 n1 hd h => ?_
  refine go1s (rl := rlA C.K) r1 h fun ds F2 env2 H2 vs r2 s2 hds h => ?_
  exact h.ret _ F2 H2 r2 .refl (RDs.cons (RD.mono s2.f d v hd) hds)
theorem sTupE {ma : A} {es : List Expr} {k : Nat} {pos : Pos} (ha : PA X es (tA C (evA Φ cs ma))) : PE X (.Tuple es k pos) (tE C (evE Φ cs (.tup ma))) := by
  refine PE.imp (pe_tup ha) fun σ H Q h => ?_
  refine go1 (rl := rlA C.K) h fun ds F1 env1 H1 vs r1 _ hx h => ?_
  have hx : RDs C.K F1 vs ds := hx
  obtain ⟨r, er, q⟩ := h.opt
  obtain ⟨c, rfl⟩ := ifs er
  refine ⟨by rw [hx.len]; exact fits_le c, fun p hp => wantsGo r1 q _ _ _ (.laid r1.fh hp) ⟨p, _, rfl, SqT.of upd_same, RDs.mono (Ex.upd (r1.fh.free hp)) _ _ hx⟩⟩
theorem GoF.optb {α γ δ : Type} {rl2 : Rl γ δ} {o : Option α} {f : α → M γ} {σ : St} {F H : Hp} {env : Sm.Env} {Q : δ → Hp → Prop} (h : GoF C rl2 ((M.opt o).bind f) F env σ H Q) : ∃ a, o = some a ∧ GoF C rl2 (f a) F env σ H Q := by
  obtain ⟨w, env', e, q⟩ := h
  unfold M.bind M.opt at e
  cases o with
  | none => cases e
  | some a => exact ⟨a, rfl, w, env', e, q⟩
theorem sStarE (g : Good X C sc tb N Φ cs) {ma mb : E} {a b : Expr} {k : Nat} {p pos : Pos} (ha : PE X a (tE C (evE Φ cs ma))) (hb : PE X b (tE C (evE Φ cs mb))) (kb : okE b = true) :
    PE X (.Tuple [.Starred a p, b] k pos) (tE C (evE Φ cs (.star ma mb))) := by
  refine PE.imp (pe_tup (StX.pa_star ha (pa_cons hb pa_nil (ok_star kb [] _)))) fun σ H Q h => ?_
  rw [g.k]
  refine goFrz h fun d F1 env1 H1 v r1 n1 hd h => ?_
  obtain ⟨xs, ex, h⟩ := h.optb
  cases d <;> simp only [tupX, reduceCtorEq, Option.some.injEq] at ex
  subst ex
  obtain ⟨p1, vs, rfl, hp, rp⟩ := id hd
  refine ⟨p1, vs, rfl, .inl (r1.fh.t hp), ?_⟩
  refine goFrzs r1 h fun d' F2 env2 H2 u r2 s2 hd' h => ?_
  obtain ⟨r, er, q⟩ := h.opt
  obtain ⟨c, rfl⟩ := ifs er
  have rp2 := (show RDs C.K F2 vs _ from RDs.mono s2.f _ _ rp).app (show RDs C.K F2 [u] [d'] from ⟨u, [], rfl, hd', rfl⟩)
  have l := rp2.len
  rw [List.length_append, List.length_append] at l
  refine ⟨by rw [rp2.len, List.length_append]; exact fits_le c, fun p hp => wantsGo r2 q _ _ _ (.laid r2.fh hp) ⟨p, _, rfl, SqT.of upd_same, RDs.mono (Ex.upd (r2.fh.free hp)) _ _ rp2⟩⟩
theorem sLstE {ma : A} {es : List Expr} {pos : Pos} (ha : PA X es (tA C (evA Φ cs ma))) : PE X (.List es pos) (tE C (evE Φ cs (.lst ma))) := by
  refine PE.imp (pe_lst ha) fun σ H Q h => ?_
  refine go1 (rl := rlA C.K) h fun ds F1 env1 H1 vs r1 _ hx h => ?_
  have hx : RDs C.K F1 vs ds := hx
  obtain ⟨r, er, q⟩ := h.opt
  obtain ⟨c, rfl⟩ := ifs er
  refine ⟨by rw [hx.len]; exact fits_le c, fun p hp => wantsGo r1 q _ _ _ (.made r1.fh hp) ⟨p, rfl, hp, r1.fh.free hp, _, upd_same, hx⟩⟩
theorem sFrzE {ma : E} {a : Expr} (ha : PE X a (tE C (evE Φ cs ma))) : PE X a (tE C (evE Φ cs (.frz ma))) := by
  refine PE.imp ha fun σ H Q h => ?_
  refine goFrz h fun d F1 env1 H1 v r1 n1 hd h => ?_
  exact h.ret v F1 H1 r1 .refl ⟨hd, trivial⟩
/-! arguments, calls of built-ins -/
theorem sRNil : PA X [] (tR C (evR Φ cs .nil)) := PA.imp pa_nil fun σ H Q ⟨F, env, rel, h⟩ => h.ret [] F H rel .refl rfl
theorem RRs.lift {K : PySem.W.Frag} {G : Gh} {σ : St} {F1 F2 H1 H2 : Hp} {env1 env2 : Sm.Env} (s : Step env1 env2 σ F1 H1 F2 H2) : ∀ {rs : List R} {vs : List V}, RRs K G σ F1 env1 H1 rs vs → RRs K G σ F2 env2 H2 rs vs
  | [], _, h => h
  | _ :: _, _, ⟨v, ws, h1, h2, h3⟩ => ⟨v, ws, h1, h2.lift s, RRs.lift s h3⟩
theorem sRCons {ma : E} {mr : A} {a : Expr} {es : List Expr} (ha : PE X a (tE C (evE Φ cs ma))) (hr : PA X es (tR C (evR Φ cs mr))) (ka : okE a = true) : PA X (a :: es) (tR C (evR Φ cs (.cons ma mr))) := by
  refine PA.imp (pa_cons ha hr (ok_star ka es _)) fun σ H Q h => ?_
  obtain ⟨F, env, rel, h⟩ := h
  refine ⟨F, env, rel, ?_⟩
  obtain ⟨o, env', e, q⟩ := h.bind (rl := rlE C.K C.G)
  refine ⟨o, env', e, ?_⟩
  cases o with
  | rs c => exact q
  | ok a =>
    intro v F1 H1 r1 s1 h1
    obtain ⟨x, F1', env1, r1', s1', hx, hq⟩ := q v F1 H1 r1 s1 h1
    obtain ⟨F2, r2, s2, hx2⟩ := holdRR r1' s1' hx.1 hx.2
    refine go1s (rl := rlR C.K C.G) r2 (GoF.from s2 hq) fun rs F3 env3 H3 vs r3 s3 hrs h => ?_
    exact h.ret _ F3 H3 r3 .refl ⟨v, vs, rfl, hx2.lift s3, hrs⟩
theorem mem_b {b : BI} : biN b ∈ bnames := by cases b <;> decide +kernel
theorem sBiE (g : Good X C sc tb N Φ cs) {b : BI} {ma : E} {a : Expr} {p pos : Pos} {x : Str} (hx : x = biN b) (hg : glB sc x = true) (ha : PE X a (tE C (evE Φ cs ma))) (ka : okE a = true) : PE X (.Call (.Name x p) [a] [] pos) (tE C (evE Φ cs (.bi b ma))) := by
  have hm := g.bi x (by rw [hx]; exact mem_b)
  have hG := g.gl hg
  have pa : PA X [a] (tCons (tE C (evE Φ cs ma)) tNil) := pa_cons ha pa_nil (ok_star ka [] _)
  have hs := ok_star ka [] X.env
  have imp : ∀ {σ H Q}, tE C (evE Φ cs (.bi b ma)) σ H Q → tCB (CallS C.K (biD b)) (tCons (tE C (evE Φ cs ma)) tNil) σ H Q := fun {σ H Q} h => by
    obtain ⟨F, env, rel, o, env', e, q⟩ := op1 h
    refine ⟨F, env, rel, o, env', e, ?_⟩
    cases o with
    | rs c => exact q
    | ok r =>
      intro v F' H' r' s' h'
      obtain ⟨F1, dx, z, k1, k2, k3, k4⟩ := q v F' H' r' s' h'
      exact ⟨F1, v, dx, z, rfl, k1, k2, k3, k4⟩
  subst hx
  rw [← g.k] at imp
  cases b with
  | len => exact PE.imp (pe_callB sLen hG hm PySem.boot_len pa (by decide +kernel) (by decide +kernel) hs (by rfl)) fun σ H Q h => imp h
  | int => exact PE.imp (pe_callTy sInt hG hm (by decide +kernel) pa (by decide +kernel) (by decide +kernel) hs (by rfl)) fun σ H Q h => imp h
  | list => exact PE.imp (pe_callTy sList hG hm (by decide +kernel) pa (by decide +kernel) (by decide +kernel) hs (by rfl)) fun σ H Q h => imp h
  | tuple => exact PE.imp (pe_callTy sTuple hG hm (by decide +kernel) pa (by decide +kernel) (by decide +kernel) hs (by rfl)) fun σ H Q h => imp h
  | all => exact PE.imp (pe_callB (sAll g.calm) hG hm (by decide +kernel) pa (by decide +kernel) (by decide +kernel) hs (by rfl)) fun σ H Q h => imp h
end
end Sm

set_option maxRecDepth 100000
set_option maxHeartbeats 4000000
namespace Sm
open PySem L2
/-! ### a call, from the caller's side -/
def SlP (σ : St) : List Nat → List Addr → Prop
  | [], [] => True
  | i :: is, p :: ps => Sl σ i (V.ref p) ∧ SlP σ is ps
  | _, _ => False
section
variable {K : PySem.W.Frag} {G : Gh} {F H : Hp} {env : Sm.Env} {σ : St}
theorem SlP.mem : ∀ {is : List Nat} {ps : List Addr} {p : Addr}, SlP σ is ps → p ∈ ps → ∃ i ∈ is, Sl σ i (V.ref p)
  | [], [], _, _, h => by cases h
  | i :: is, q :: ps, p, ⟨h1, h2⟩, h => by
    rcases List.mem_cons.mp h with rfl | h
    · exact ⟨i, List.mem_cons_self, h1⟩
    · obtain ⟨j, h3, h4⟩ := SlP.mem h2 h
      exact ⟨j, List.mem_cons_of_mem _ h3, h4⟩
theorem args_of (rel : Rel K G F env σ H) : ∀ (rs : List R) (vs : List V) (as : List Arg) (is : List Nat), RRs K G σ F env H rs vs → argsOf rs env = some (as, is) →
    ∃ ps, ArgsR K F H vs as ps ∧ SlP σ is ps ∧ is.Nodup ∧ (∀ i ∈ is, ∃ x b, At env i (SV.own x b))
  | [], vs, as, is, h, e => by
    have h : vs = [] := h
    subst h
    cases e
    exact ⟨[], trivial, trivial, List.nodup_nil, fun i h => by cases h⟩
  | .d x :: rs, _, as, is, ⟨v, ws, rfl, h1, h2⟩, e => by
    cases q : argsOf rs env with
    | none => simp [argsOf, q] at e
    | some z =>
      simp only [argsOf, q, Option.map_some, Option.some.injEq, Prod.mk.injEq] at e
      obtain ⟨ps, k1, k2, k3, k4⟩ := args_of rel rs ws z.1 z.2 h2 q
      obtain ⟨rfl, rfl⟩ := e
      exact ⟨ps, ⟨h1, k1⟩, k2, k3, k4⟩
  | .new x :: rs, _, as, is, _, e => by simp [argsOf] at e
  | .exc c :: rs, _, as, is, _, e => by simp [argsOf] at e
  | .al i :: rs, _, as, is, ⟨v, ws, rfl, h1, h2⟩, e => by
    simp only [argsOf] at e
    split at e
    · rename_i x b hat
      cases q : argsOf rs env with
      | none => simp [q] at e
      | some z =>
        simp only [q, Option.bind_some] at e
        split at e
        · cases e
        · rename_i hc
          simp only [Option.some.injEq, Prod.mk.injEq] at e
          obtain ⟨rfl, rfl⟩ := e
          obtain ⟨ps, k1, k2, k3, k4⟩ := args_of rel rs ws z.1 z.2 h2 q
          obtain ⟨a, g1, g2, g3, _⟩ := rel.ownAt hat
          have hv : v = .ref a := by
            have : some (some v) = some (some (V.ref a)) := (show σ[i]? = _ from h1.1).symm.trans g1
            cases this; rfl
          subst hv
          refine ⟨a :: ps, ⟨rfl, g2, g3, k1⟩, ⟨g1, k2⟩, List.nodup_cons.mpr ⟨fun m => hc (by simpa using m), k3⟩, fun j hj => ?_⟩
          rcases List.mem_cons.mp hj with rfl | hj
          · exact ⟨x, b, hat⟩
          · exact k4 j hj
    · cases e
theorem ps_nodup (rel : Rel K G F env σ H) : ∀ {is : List Nat} {ps : List Addr}, SlP σ is ps → is.Nodup → (∀ i ∈ is, ∃ x b, At env i (SV.own x b)) → ps.Nodup
  | [], [], _, _, _ => List.nodup_nil
  | i :: is, p :: ps, ⟨h1, h2⟩, hn, ho => by
    obtain ⟨n1, n2⟩ := List.nodup_cons.mp hn
    refine List.nodup_cons.mpr ⟨fun m => ?_, ps_nodup rel h2 n2 fun j hj => ho j (List.mem_cons_of_mem _ hj)⟩
    obtain ⟨j, hj, hs⟩ := h2.mem m
    obtain ⟨x, b, e1⟩ := ho i List.mem_cons_self
    obtain ⟨y, c, e2⟩ := ho j (List.mem_cons_of_mem _ hj)
    exact rel.sep i j x b y c (fun q => n1 (by rw [q]; exact hj)) e1 e2 (h1.trans hs.symm)
theorem put_own {i j : Nat} {x : D} {sv : SV} (h : At (putOwn env i x) j sv) : (j ≠ i ∧ At env j sv) ∨ (j = i ∧ ((∃ y b, At env i (SV.own y b) ∧ sv = SV.own x b) ∨ ((∀ y b, ¬ At env i (SV.own y b)) ∧ At env j sv))) := by
  unfold putOwn at h
  split at h
  · rename_i y b q
    rcases at_set h with ⟨rfl, rfl⟩ | ⟨n, h⟩
    · exact .inr ⟨rfl, .inl ⟨y, b, q, rfl⟩⟩
    · exact .inl ⟨n, h⟩
  · rename_i q
    by_cases e : j = i
    · exact .inr ⟨e, .inr ⟨fun y b z => q y b z, h⟩⟩
    · exact .inl ⟨e, h⟩
theorem putOwn_len {i : Nat} {x : D} : (putOwn env i x).length = env.length := by
  unfold putOwn
  split
  · rw [List.length_set]
  · rfl
/-- the slots behind a call -/
theorem outs_at : ∀ {is : List Nat} {outs : List D} {env env' : Sm.Env}, putOuts env is outs = some env' → is.Nodup → (∀ i ∈ is, ∃ x b, At env i (SV.own x b)) →
    env'.length = env.length ∧ (∀ j sv, At env' j sv → (j ∉ is ∧ At env j sv) ∨ (∃ (k : Nat) (x y : D) (b : Bool), is[k]? = some j ∧ outs[k]? = some x ∧ At env j (SV.own y b) ∧ sv = SV.own x b)) ∧
      (∀ j y b, At env j (SV.own y b) → ∃ z, At env' j (SV.own z b)) ∧ outs.length = is.length
  | [], [], env, env', e, _, _ => by cases e; exact ⟨rfl, fun j sv h => .inl ⟨by simp, h⟩, fun j y b h => ⟨y, h⟩, rfl⟩
  | [], _ :: _, _, _, e, _, _ => by cases e
  | _ :: _, [], _, _, e, _, _ => by cases e
  | i :: is, x :: outs, env, env', e, hn, ho => by
    obtain ⟨n1, n2⟩ := List.nodup_cons.mp hn
    have e : putOuts (putOwn env i x) is outs = some env' := e
    obtain ⟨y0, b0, h0⟩ := ho i List.mem_cons_self
    have keep : ∀ j y b, At env j (SV.own y b) → ∃ z, At (putOwn env i x) j (SV.own z b) := fun j y b h => by
      unfold putOwn
      split
      · rename_i y1 b1 q
        by_cases z : i = j
        · subst z
          have : some (some (SV.own y1 b1)) = some (some (SV.own y b)) := q.symm.trans h
          cases this
          exact ⟨x, by show (env.set i _)[i]? = _; rw [List.getElem?_set_self (List.getElem?_eq_some_iff.mp q).1]⟩
        · exact ⟨y, by show (env.set i _)[j]? = _; rw [List.getElem?_set_ne z]; exact h⟩
      · exact ⟨y, h⟩
    obtain ⟨l1, l2, l3, l4⟩ := outs_at e n2 fun j hj => by
      obtain ⟨y, b, h⟩ := ho j (List.mem_cons_of_mem _ hj)
      obtain ⟨z, h⟩ := keep j y b h
      exact ⟨z, b, h⟩
    refine ⟨l1.trans putOwn_len, fun j sv h => ?_, fun j y b h => ?_, by simp [l4]⟩
    · rcases l2 j sv h with ⟨hj, h⟩ | ⟨k, z, y, b, k1, k2, k3, k4⟩
      · rcases put_own h with ⟨nj, h⟩ | ⟨rfl, ⟨y, b, h1, h2⟩ | ⟨h1, _⟩⟩
        · exact .inl ⟨by simp [nj, hj], h⟩
        · exact .inr ⟨0, x, y, b, rfl, rfl, h1, h2⟩
        · exact absurd h0 (h1 y0 b0)
      · have hji : j ≠ i := fun q => n1 (by rw [← q]; exact List.mem_of_getElem? k1)
        rcases put_own k3 with ⟨_, h⟩ | ⟨q, _⟩
        · exact .inr ⟨k + 1, z, y, b, by simpa using k1, by simpa using k2, h, k4⟩
        · exact absurd q hji
    · obtain ⟨z, h⟩ := keep j y b h
      exact l3 j z b h
theorem outsR_get {F' H' : Hp} : ∀ {ps : List Addr} {is : List Nat} {outs : List D} {k : Nat} {j : Nat} {x : D}, SlP σ is ps → OutsR K F' H' ps outs → is[k]? = some j → outs[k]? = some x → ∃ p ∈ ps, Sl σ j (V.ref p) ∧ Own K F' H' p x
  | [], [], _, _, _, _, _, _, h, _ => by simp at h
  | [], _ :: _, _, _, _, _, h, _, _, _ => h.elim
  | _ :: _, [], _, _, _, _, h, _, _, _ => h.elim
  | p :: ps, i :: is, [], _, _, _, _, h, _, _ => h.elim
  | p :: ps, i :: is, y :: outs, 0, j, x, ⟨h1, h2⟩, ⟨h3, h4⟩, e1, e2 => by
    simp only [List.getElem?_cons_zero, Option.some.injEq] at e1 e2
    subst e1 e2
    exact ⟨p, List.mem_cons_self, h1, h3⟩
  | p :: ps, i :: is, y :: outs, k + 1, j, x, ⟨h1, h2⟩, ⟨h3, h4⟩, e1, e2 => by
    obtain ⟨q, m1, m2, m3⟩ := outsR_get (k := k) h2 h4 (by simpa using e1) (by simpa using e2)
    exact ⟨q, List.mem_cons_of_mem _ m1, m2, m3⟩
/-- behind a call -/
theorem after_call {F' H' : Hp} {env' : Sm.Env} {is : List Nat} {ps : List Addr} {outs : List D} (rel : Rel K G F env σ H) (cs : CallStep F H F' H' ps) (ho : OutsR K F' H' ps outs) (sl : SlP σ is ps) (nd : is.Nodup)
    (own : ∀ i ∈ is, ∃ x b, At env i (SV.own x b)) (e : putOuts env is outs = some env') : Rel K G F' env' σ H' ∧ Step env env' σ F H F' H' := by
  obtain ⟨l1, l2, l3, _⟩ := outs_at e nd own
  have psOwn : ∀ p ∈ ps, OwnA env σ p := fun p hp => by
    obtain ⟨i, hi, hs⟩ := sl.mem hp
    obtain ⟨x, b, h⟩ := own i hi
    exact ⟨i, x, b, h, hs⟩
  have fnone : ∀ p, OwnA env σ p → F' p = none := fun p hp => by
    obtain ⟨h1, o, h2⟩ := rel.ownSome hp
    cases q : F' p with
    | none => rfl
    | some u =>
      rcases cs.new p (by rw [q]; simp) with z | z
      · exact absurd h1 z
      · rw [h2] at z; cases z
  have back : ∀ j y b, At env' j (SV.own y b) → ∃ z, At env j (SV.own z b) := fun j y b h => by
    rcases l2 j _ h with ⟨_, h⟩ | ⟨k, x, z, c, _, _, h, q⟩
    · exact ⟨y, h⟩
    · cases q; exact ⟨z, h⟩
  refine ⟨⟨cs.fh, rel.f0.trans cs.f, fun b o h n => cs.keep b o (rel.keep b o h n) fun m => ?_, fun b h => ?_, l1.trans rel.len, fun j sv h => ?_, fun i j x b y c n h1 h2 => ?_, fun p hp => ?_⟩, ⟨cs.f, fun p o h n => cs.keep p o h fun m => n (psOwn p m), fun p h => ?_, fun p ⟨i, x, b, h1, h2⟩ => ?_, cs.there⟩⟩
  · obtain ⟨i, x, c, h1, h2⟩ := psOwn b m
    obtain ⟨a, g1, g2, g3, g4, g5⟩ := rel.ownAt h1
    have : some (some (V.ref a)) = some (some (V.ref b)) := g1.symm.trans h2
    cases this
    cases c with
    | true => exact n _ (g4 rfl) rfl
    | false => rw [g5 rfl] at h; cases h
  · rcases cs.new b h with h | h
    · exact rel.new b h
    · exact .inr (rel.h0 h)
  · rcases l2 j sv h with ⟨hj, h⟩ | ⟨k, x, y, b, k1, k2, k3, rfl⟩
    · obtain ⟨v, h1, h2⟩ := rel.slot j sv h
      refine ⟨v, h1, h2.mono cs.f fun a ea ⟨x, b, es⟩ => ?_⟩
      subst es ea
      refine ⟨fnone a ⟨j, x, b, h, h1⟩, ?_⟩
      obtain ⟨_, o, ho⟩ := rel.ownSome ⟨j, x, b, h, h1⟩
      refine (cs.keep a o ho fun m => ?_).trans ho.symm
      obtain ⟨i, hi, hs⟩ := sl.mem m
      obtain ⟨y, c, e2⟩ := own i hi
      exact rel.sep j i x b y c (fun q => hj (by rw [q]; exact hi)) h e2 (h1.trans hs.symm)
    · obtain ⟨p, hp, h1, h2⟩ := outsR_get sl ho k1 k2
      obtain ⟨a, g1, g2, g3, g4, g5⟩ := rel.ownAt k3
      have : some (some (V.ref a)) = some (some (V.ref p)) := g1.symm.trans h1
      cases this
      exact ⟨_, h1, p, rfl, fnone p ⟨j, y, b, k3, h1⟩, h2, g4, g5⟩
  · obtain ⟨x', h1⟩ := back i x b h1
    obtain ⟨y', h2⟩ := back j y c h2
    exact rel.sep i j x' b y' c n h1 h2
  · obtain ⟨x, h1, h2⟩ := rel.arg p hp
    obtain ⟨z, h1⟩ := l3 _ _ _ h1
    exact ⟨z, h1, h2⟩
  · rcases cs.new p h with h | h
    · exact .inl h
    · exact .inr (.inl h)
  · obtain ⟨z, h1⟩ := back i x b h1
    exact ⟨i, z, b, h1, h2⟩
end
section
variable {X : Cx} {C : Ctx} {sc : Scope} {tb : Tab} {N : List Str} {Φ : Nat → Spec} {cs : Nat → D}
theorem runCall_ok {φ : Spec} {rs : List R} {vs : List V} {F H : Hp} {env : Sm.Env} {σ : St} {Q : VK} (rel : Rel C.K C.G F env σ H) (hr : RRs C.K C.G σ F env H rs vs)
    (h : GoF C (rlE C.K C.G) (runCall φ rs) F env σ H Q) : spOf C.K C.cl φ vs H Q fun cls d H' => C.W cls d σ H' := by
  obtain ⟨o, env', e, q⟩ := h
  unfold runCall at e
  split at e
  · cases e
  · rename_i as is ha
    split at e
    · cases e
    · rename_i o2 outs hsp
      split at e
      · cases e
      · rename_i e2 hp
        cases e
        obtain ⟨ps, k1, k2, k3, k4⟩ := args_of rel rs vs as is hr ha
        refine ⟨F, as, ps, o, outs, rel.fh, k1, ps_nodup rel k2 k3 k4, hsp, ?_⟩
        cases o with
        | rs c =>
          intro F' H' st ho
          obtain ⟨r2, s2⟩ := after_call rel st ho k2 k3 k4 hp
          exact q F' H' r2 s2
        | ok r =>
          intro v F' H' st ho hv
          obtain ⟨r2, s2⟩ := after_call rel st ho k2 k3 k4 hp
          refine q v F' H' r2 s2 ⟨?_, ?_⟩
          · cases r with
            | d x => exact hv
            | new x =>
              obtain ⟨p, rfl, h1, h2, h3⟩ := hv
              refine ⟨p, rfl, rel.h0 h1, h2, h3, fun z => ?_⟩
              obtain ⟨_, o, ho⟩ := rel.ownSome (s2.own p z)
              rw [h1] at ho; cases ho
            | al i => exact hv.elim
            | exc c => exact hv.elim
          · cases r with
            | new x =>
              obtain ⟨p, rfl, h1, _⟩ := hv
              intro p' e'
              cases e'
              exact h1
            | _ => trivial
/-- what is lent stands in F, and is taken out again -/
def lend (F H : Hp) (ps : List Addr) : Hp := fun b => if b ∈ ps then H b else F b
def takeOut (F : Hp) (ps : List Addr) : Hp := fun b => if b ∈ ps then none else F b
theorem args_s {F H : Hp} {env : Sm.Env} {σ : St} (rel : Rel C.K C.G F env σ H) : ∀ (rs : List R) (vs : List V) (as : List Arg), RRs C.K C.G σ F env H rs vs → argsS rs env = some as →
    ∃ ps : List Addr, (∀ F2, Ex F F2 → (∀ p ∈ ps, F2 p = H p) → ArgsR C.K F2 H vs as []) ∧ ∀ p ∈ ps, OwnA env σ p
  | [], vs, as, h, e => by
    have h : vs = [] := h
    subst h
    cases e
    exact ⟨[], fun _ _ _ => trivial, fun p h => by cases h⟩
  | .d x :: rs, _, as, ⟨v, ws, rfl, h1, h2⟩, e => by
    cases q : argsS rs env with
    | none => simp [argsS, q] at e
    | some z =>
      simp only [argsS, q, Option.map_some, Option.some.injEq] at e
      subst e
      obtain ⟨ps, k1, k2⟩ := args_s rel rs ws z h2 q
      exact ⟨ps, fun F2 f n => ⟨RD.mono f x v h1, k1 F2 f n⟩, k2⟩
  | .new x :: rs, _, as, _, e => by simp [argsS] at e
  | .exc c :: rs, _, as, _, e => by simp [argsS] at e
  | .al i :: rs, _, as, ⟨v, ws, rfl, h1, h2⟩, e => by
    simp only [argsS] at e
    split at e
    · rename_i x b hat
      cases q : argsS rs env with
      | none => simp [q] at e
      | some z =>
        simp only [q, Option.map_some, Option.some.injEq] at e
        subst e
        obtain ⟨ps, k1, k2⟩ := args_s rel rs ws z h2 q
        obtain ⟨a, g1, g2, g3, _⟩ := rel.ownAt hat
        have hv : v = .ref a := by
          have : some (some v) = some (some (V.ref a)) := (show σ[i]? = _ from h1.1).symm.trans g1
          cases this; rfl
        subst hv
        refine ⟨a :: ps, fun F2 f n => ⟨?_, k1 F2 f fun p hp => n p (List.mem_cons_of_mem _ hp)⟩, fun p hp => ?_⟩
        · have na := n a List.mem_cons_self
          cases x with
          | list ds => obtain ⟨us, w1, w2⟩ := g3; exact ⟨a, us, rfl, .inl (na.trans w1), RDs.mono f ds us w2⟩
          | dict ds => obtain ⟨us, w1, w2⟩ := g3; exact .inl ⟨a, us, rfl, na.trans w1, RDk.mono f ds us w2⟩
          | _ => exact g3.elim
        · rcases List.mem_cons.mp hp with rfl | hp
          · exact ⟨i, x, b, hat, g1⟩
          · exact k2 p hp
    · cases e
/-- an own one is a list or a dict -/
theorem own_kind {F H : Hp} {env : Sm.Env} {σ : St} (rel : Rel C.K C.G F env σ H) {p : Addr} (h : OwnA env σ p) : (∃ xs, H p = some (.lst xs)) ∨ ∃ es, H p = some (.dK es) := by
  obtain ⟨i, x, b, h1, h2⟩ := h
  obtain ⟨a, h3, h4, h5, _⟩ := rel.ownAt h1
  have : some (some (V.ref a)) = some (some (V.ref p)) := h3.symm.trans h2
  cases this
  cases x with
  | list ds => obtain ⟨vs, w, _⟩ := h5; exact .inl ⟨vs, w⟩
  | dict ds => obtain ⟨vs, w, _⟩ := h5; exact .inr ⟨vs, w⟩
  | _ => exact h5.elim
section
variable {K : PySem.W.Frag} {F' : Hp} {ps : List Addr}
theorem sqt_out (hp : ∀ p ∈ ps, (∃ xs, F' p = some (.lst xs)) ∨ ∃ es, F' p = some (.dK es)) {a : Addr} {vs : List V} (h : SqT K F' a vs) : SqT K (takeOut F' ps) a vs := by
  rcases h with h | h
  · have na : a ∉ ps := fun m => by
      rcases hp a m with ⟨xs, e⟩ | ⟨es, e⟩
      · rcases h with h | ⟨o, h⟩ <;> (rw [e] at h; cases h)
      · rcases h with h | ⟨o, h⟩ <;> (rw [e] at h; cases h)
    have e : takeOut F' ps a = F' a := if_neg na
    rcases h with h | ⟨o, h⟩
    · exact .inl (.inl (e.trans h))
    · exact .inl (.inr ⟨o, e.trans h⟩)
  · exact .inr h
mutual
theorem tup_out (hp : ∀ p ∈ ps, (∃ xs, F' p = some (.lst xs)) ∨ ∃ es, F' p = some (.dK es)) : ∀ (d : D) (v : V), tupD d = true → RD K F' v d → RD K (takeOut F' ps) v d
  | .none, _, _, h => h
  | .bool _, _, _, h => h
  | .int _, _, _, h => h
  | .str _, _, _, h => h
  | .list _, _, c, _ => by cases c
  | .dict _, _, c, _ => by cases c
  | .tuple ds, _, c, ⟨a, vs, h1, h2, h3⟩ => ⟨a, vs, h1, sqt_out hp h2, tups_out hp ds vs c h3⟩
theorem tups_out (hp : ∀ p ∈ ps, (∃ xs, F' p = some (.lst xs)) ∨ ∃ es, F' p = some (.dK es)) : ∀ (ds : List D) (vs : List V), tupDs ds = true → RDs K F' vs ds → RDs K (takeOut F' ps) vs ds
  | [], _, _, h => h
  | d :: ds, _, c, ⟨v, r, h1, h2, h3⟩ => by
    have c' : tupD d = true ∧ tupDs ds = true := by simpa [tupDs] using c
    exact ⟨v, r, h1, tup_out hp d v c'.1 h2, tups_out hp ds r c'.2 h3⟩
end
end
theorem after_s {F H F' H' : Hp} {env : Sm.Env} {σ : St} {ps : List Addr} (rel : Rel C.K C.G F env σ H) (ho : ∀ p ∈ ps, OwnA env σ p) (cs : CallStep (lend F H ps) H F' H' []) :
    Rel C.K C.G (takeOut F' ps) env σ H' ∧ Step env env σ F H (takeOut F' ps) H' := by
  have ff : Ex F (takeOut F' ps) := fun b o h => by
    have nb : b ∉ ps := fun m => by rw [(rel.ownSome (ho b m)).1] at h; cases h
    unfold takeOut
    rw [if_neg nb]
    exact cs.f b o (by unfold lend; rw [if_neg nb]; exact h)
  have hk : Ex H H' := fun b o h => cs.keep b o h (by simp)
  have nw : ∀ b, takeOut F' ps b ≠ none → F b ≠ none ∨ H b = none := fun b h => by
    unfold takeOut at h
    by_cases m : b ∈ ps
    · rw [if_pos m] at h; exact absurd rfl h
    · rw [if_neg m] at h
      rcases cs.new b h with z | z
      · unfold lend at z; rw [if_neg m] at z; exact .inl z
      · exact .inr z
  have fh : Ex (takeOut F' ps) H' := fun b o h => by
    unfold takeOut at h
    by_cases m : b ∈ ps
    · rw [if_pos m] at h; cases h
    · rw [if_neg m] at h; exact cs.fh b o h
  have g : Grow F H (takeOut F' ps) H' := ⟨ff, fh, hk, nw⟩
  exact ⟨rel.grow g, g.step⟩
theorem runCallS_ok {φ : Spec} {rs : List R} {vs : List V} {F H : Hp} {env : Sm.Env} {σ : St} {Q : VK} (rel : Rel C.K C.G F env σ H) (hr : RRs C.K C.G σ F env H rs vs)
    (h : GoF C (rlE C.K C.G) (runCallS φ rs) F env σ H Q) : spOf C.K C.cl φ vs H Q fun cls d H' => C.W cls d σ H' := by
  obtain ⟨o, env', e, q⟩ := h
  unfold runCallS at e
  split at e
  · cases e
  · rename_i as ha
    obtain ⟨ps, k1, k2⟩ := args_s rel rs vs as hr ha
    have el : Ex F (lend F H ps) := fun b u hb => by
      unfold lend
      by_cases m : b ∈ ps
      · rw [(rel.ownSome (k2 b m)).1] at hb; cases hb
      · rw [if_neg m]; exact hb
    have eh : Ex (lend F H ps) H := fun b u hb => by
      unfold lend at hb
      by_cases m : b ∈ ps
      · rw [if_pos m] at hb; exact hb
      · rw [if_neg m] at hb; exact rel.fh b u hb
    have ar := k1 _ el fun p hp => by unfold lend; rw [if_pos hp]
    have kinds : ∀ F' : Hp, Ex (lend F H ps) F' → ∀ p ∈ ps, (∃ xs, F' p = some (.lst xs)) ∨ ∃ es, F' p = some (.dK es) := fun F' ex p hp => by
      have hl : lend F H ps p = H p := by unfold lend; rw [if_pos hp]
      rcases own_kind rel (k2 p hp) with ⟨xs, w⟩ | ⟨es, w⟩
      · exact .inl ⟨xs, ex p _ (hl.trans w)⟩
      · exact .inr ⟨es, ex p _ (hl.trans w)⟩
    split at e
    · rename_i x outs hsp
      split at e
      · rename_i hfl
        cases e
        refine ⟨_, as, [], _, outs, eh, ar, List.nodup_nil, hsp, fun v F' H' st ho hv => ?_⟩
        obtain ⟨r2, s2⟩ := after_s rel k2 st
        exact q v _ H' r2 s2 ⟨tup_out (kinds F' st.f) x v hfl hv, trivial⟩
      · cases e
    · rename_i xs outs hsp
      split at e
      · rename_i hfl
        cases e
        refine ⟨_, as, [], _, outs, eh, ar, List.nodup_nil, hsp, fun v F' H' st ho hv => ?_⟩
        obtain ⟨r2, s2⟩ := after_s rel k2 st
        obtain ⟨p, rfl, h1, h2, us, h3, h4⟩ := hv
        refine q _ _ H' r2 s2 ⟨⟨p, rfl, rel.h0 h1, ?_, ⟨us, h3, tups_out (kinds F' st.f) xs us hfl h4⟩, fun z => ?_⟩, fun p' e' => by cases e'; exact h1⟩
        · unfold takeOut
          split
          · rfl
          · exact h2
        · obtain ⟨_, o, ho⟩ := rel.ownSome z
          rw [h1] at ho; cases ho
      · cases e
    · rename_i c outs hsp
      cases e
      refine ⟨_, as, [], _, outs, eh, ar, List.nodup_nil, hsp, fun F' H' st ho => ?_⟩
      obtain ⟨r2, s2⟩ := after_s rel k2 st
      exact q _ H' r2 s2
    · cases e
theorem sCallSE (g : Good X C sc tb N Φ cs) {f : Nat} {ma : A} {es : List Expr} {x : Str} {p pos : Pos} (hx : x = tb.fn f) (hg : glB sc x = true) (hp : plainN x = true) (he : okEs es = true) (hn : es.isEmpty = false) (ha : PA X es (tR C (evR Φ cs ma))) :
    PE X (.Call (.Name x p) es [] pos) (tE C (evE Φ cs (.calls f ma))) := by
  obtain ⟨sp, dvs, himp, hc⟩ := g.call (p := p) (pos := pos) hx.symm (g.gl hg) hp he hn ha
  refine PE.imp hc fun σ H Q h => ?_
  refine go1 (rl := rlR C.K C.G) h fun rs F1 env1 H1 vs r1 _ hx h => ?_
  exact himp _ _ _ _ (runCallS_ok r1 hx h)
theorem sCallE (g : Good X C sc tb N Φ cs) {f : Nat} {ma : A} {es : List Expr} {x : Str} {p pos : Pos} (hx : x = tb.fn f) (hg : glB sc x = true) (hp : plainN x = true) (he : okEs es = true) (hn : es.isEmpty = false) (ha : PA X es (tR C (evR Φ cs ma))) :
    PE X (.Call (.Name x p) es [] pos) (tE C (evE Φ cs (.call f ma))) := by
  obtain ⟨sp, dvs, himp, hc⟩ := g.call (p := p) (pos := pos) hx.symm (g.gl hg) hp he hn ha
  refine PE.imp hc fun σ H Q h => ?_
  refine go1 (rl := rlR C.K C.G) h fun rs F1 env1 H1 vs r1 _ hx h => ?_
  exact himp _ _ _ _ (runCall_ok r1 hx h)
end
end Sm

set_option maxRecDepth 100000
set_option maxHeartbeats 4000000
namespace Sm
open PySem L2
section
variable {X : Cx} {C : Ctx} {sc : Scope} {tb : Tab} {N : List Str} {Φ : Nat → Spec} {cs : Nat → D}
/-! and, or -/
theorem evAnd1 (ma : E) : evAnd Φ cs (.cons ma .nil) = (evE Φ cs ma).bind fun x => .ret x := rfl
theorem evAnd2 (ma mb : E) (mr : A) : evAnd Φ cs (.cons ma (.cons mb mr)) = (evE Φ cs ma).bind fun x => andM x (evAnd Φ cs (.cons mb mr)) := rfl
theorem evOr1 (ma : E) : evOr Φ cs (.cons ma .nil) = (evE Φ cs ma).bind fun x => .ret x := rfl
theorem evOr2 (ma mb : E) (mr : A) : evOr Φ cs (.cons ma (.cons mb mr)) = (evE Φ cs ma).bind fun x => orM x (evOr Φ cs (.cons mb mr)) := rfl
/-- a value handed on as it is -/
theorem same1 {ma : E} {σ : St} {H : Hp} {Q : VK} (h : tE C ((evE Φ cs ma).bind fun x => .ret x) σ H Q) : tE C (evE Φ cs ma) σ H Q := by
  obtain ⟨F, env, rel, h⟩ := h
  refine ⟨F, env, rel, ?_⟩
  obtain ⟨o, env', e, q⟩ := h
  refine ⟨o, env', ?_, q⟩
  unfold M.bind at e
  split at e
  · cases e
  · rename_i c e' z
    cases e
    exact z
  · rename_i a e' z
    cases e
    exact z
theorem sAnd1 {ma : E} {a : Expr} {pos : Pos} (ha : PE X a (tE C (evE Φ cs ma))) : PE X (.BoolOp .And [a] pos) (tE C (evAnd Φ cs (.cons ma .nil))) := PE.imp (pe_one ha) fun σ H Q h => same1 h
theorem sOr1 {ma : E} {a : Expr} {pos : Pos} (ha : PE X a (tE C (evE Φ cs ma))) : PE X (.BoolOp .Or [a] pos) (tE C (evOr Φ cs (.cons ma .nil))) := PE.imp (pe_one ha) fun σ H Q h => same1 h
theorem sAnd2 {ma mb : E} {mr : A} {a b : Expr} {es : List Expr} {pos : Pos} (ha : PE X a (tE C (evE Φ cs ma))) (hr : PE X (.BoolOp .And (b :: es) pos) (tE C (evAnd Φ cs (.cons mb mr)))) :
    PE X (.BoolOp .And (a :: b :: es) pos) (tE C (evAnd Φ cs (.cons ma (.cons mb mr)))) := by
  refine PE.imp (pe_and ha hr) fun σ H Q h => ?_
  have h : tE C ((evE Φ cs ma).bind fun x => andM x (evAnd Φ cs (.cons mb mr))) σ H Q := h
  refine go1 (rl := rlE C.K C.G) h fun x F1 env1 H1 v r1 _ hx h => ?_
  unfold andM at h
  split at h
  · exact ⟨true, hx.1, by rw [if_pos rfl]; exact ⟨F1, env1, r1, h⟩⟩
  · exact ⟨false, hx.1, by rw [if_neg Bool.false_ne_true]; exact h.ret _ F1 H1 r1 .refl ⟨rfl, trivial⟩⟩
  · obtain ⟨o, env', e, q⟩ := h
    cases e
theorem sOr2 {ma mb : E} {mr : A} {a b : Expr} {es : List Expr} {pos : Pos} (ha : PE X a (tE C (evE Φ cs ma))) (hr : PE X (.BoolOp .Or (b :: es) pos) (tE C (evOr Φ cs (.cons mb mr)))) :
    PE X (.BoolOp .Or (a :: b :: es) pos) (tE C (evOr Φ cs (.cons ma (.cons mb mr)))) := by
  refine PE.imp (pe_or ha hr) fun σ H Q h => ?_
  have h : tE C ((evE Φ cs ma).bind fun x => orM x (evOr Φ cs (.cons mb mr))) σ H Q := h
  refine go1 (rl := rlE C.K C.G) h fun x F1 env1 H1 v r1 _ hx h => ?_
  unfold orM at h
  split at h
  · exact ⟨false, hx.1, by rw [if_neg Bool.false_ne_true]; exact ⟨F1, env1, r1, h⟩⟩
  · exact ⟨true, hx.1, by rw [if_pos rfl]; exact h.ret _ F1 H1 r1 .refl ⟨rfl, trivial⟩⟩
  · obtain ⟨o, env', e, q⟩ := h
    cases e
theorem sAndT1 {ma : E} {a : Expr} {pos : Pos} (ha : PT X a (tT C (evT Φ cs ma))) : PW X (.BoolOp .And [a] pos) (tT C (evAndT Φ cs (.cons ma .nil))) := by
  refine PW.imp (pw_and1 ha) fun σ H Q h => ?_
  refine go1 (rl := rlB) h fun x F1 env1 H1 v r1 _ hx h => ?_
  have hx : v = x := hx
  subst hx
  cases v with
  | true => rw [if_pos rfl] at h; exact (GoF.ret (rl := rlB) (a := true) h) _ F1 H1 r1 .refl rfl
  | false => rw [if_neg Bool.false_ne_true] at h; exact h.ret _ F1 H1 r1 .refl rfl
theorem sOrT1 {ma : E} {a : Expr} {pos : Pos} (ha : PT X a (tT C (evT Φ cs ma))) : PW X (.BoolOp .Or [a] pos) (tT C (evOrT Φ cs (.cons ma .nil))) := by
  refine PW.imp (pw_or1 ha) fun σ H Q h => ?_
  refine go1 (rl := rlB) h fun x F1 env1 H1 v r1 _ hx h => ?_
  have hx : v = x := hx
  subst hx
  cases v with
  | true => rw [if_pos rfl] at h; exact h.ret _ F1 H1 r1 .refl rfl
  | false => rw [if_neg Bool.false_ne_true] at h; exact (GoF.ret (rl := rlB) (a := false) h) _ F1 H1 r1 .refl rfl
theorem sAndT2 {ma mb : E} {mr : A} {a b : Expr} {es : List Expr} {pos : Pos} (ha : PT X a (tT C (evT Φ cs ma))) (hr : PW X (.BoolOp .And (b :: es) pos) (tT C (evAndT Φ cs (.cons mb mr)))) :
    PW X (.BoolOp .And (a :: b :: es) pos) (tT C (evAndT Φ cs (.cons ma (.cons mb mr)))) := by
  refine PW.imp (pw_and ha hr) fun σ H Q h => ?_
  refine go1 (rl := rlB) h fun x F1 env1 H1 v r1 _ hx h => ?_
  have hx : v = x := hx
  subst hx
  cases v with
  | true => rw [if_pos rfl] at h ⊢; exact ⟨F1, env1, r1, h⟩
  | false => rw [if_neg Bool.false_ne_true] at h ⊢; exact h.ret _ F1 H1 r1 .refl rfl
theorem sOrT2 {ma mb : E} {mr : A} {a b : Expr} {es : List Expr} {pos : Pos} (ha : PT X a (tT C (evT Φ cs ma))) (hr : PW X (.BoolOp .Or (b :: es) pos) (tT C (evOrT Φ cs (.cons mb mr)))) :
    PW X (.BoolOp .Or (a :: b :: es) pos) (tT C (evOrT Φ cs (.cons ma (.cons mb mr)))) := by
  refine PW.imp (pw_or ha hr) fun σ H Q h => ?_
  refine go1 (rl := rlB) h fun x F1 env1 H1 v r1 _ hx h => ?_
  have hx : v = x := hx
  subst hx
  cases v with
  | true => rw [if_pos rfl] at h ⊢; exact h.ret _ F1 H1 r1 .refl rfl
  | false => rw [if_neg Bool.false_ne_true] at h ⊢; exact ⟨F1, env1, r1, h⟩
theorem sIfT {mc ma mb : E} {c a b : Expr} {pos : Pos} (hc : PT X c (tT C (evT Φ cs mc))) (ha : PT X a (tT C (evT Φ cs ma))) (hb : PT X b (tT C (evT Φ cs mb))) : PT X (.IfExp c a b pos) (tT C (evT Φ cs (.ife mc ma mb))) := by
  refine ⟨fun pins s σ H Q I h => ?_⟩
  have h : Go C rlB (evT Φ cs mc) σ H fun k H1 => if k = true then tT C (evT Φ cs ma) σ H1 Q else tT C (evT Φ cs mb) σ H1 Q := by
    refine go1 (rl := rlB) h fun x F1 env1 H1 v r1 _ hx h => ?_
    have hx : v = x := hx
    subst hx
    cases v with
    | true => rw [if_pos rfl] at h ⊢; exact ⟨F1, env1, r1, h⟩
    | false => rw [if_neg Bool.false_ne_true] at h ⊢; exact ⟨F1, env1, r1, h⟩
  have e : isTrue (.IfExp c a b pos) X.env (eval (.IfExp c a b pos) X.env) = (do if ← isTrue c X.env (eval c X.env) then isTrue a X.env (eval a X.env) else isTrue b X.env (eval b X.env)) := by rfl
  rw [e]
  refine wpAny_bind (thn (hc.run pins s σ H _ I h) fun k s1 ⟨H1, I1, q⟩ => ?_)
  cases k with
  | true => rw [if_pos rfl] at q ⊢; exact ha.run pins s1 σ H1 Q I1 q
  | false => rw [if_neg Bool.false_ne_true] at q ⊢; exact hb.run pins s1 σ H1 Q I1 q
/-! isinstance -/
theorem ty_boot (t : Ty) : bootBuiltins (Str.ofString (tyN t)) = some (.type (tyN t)) ∧ Str.ofString (tyN t) ∈ bnames := by
  cases t <;> (constructor <;> decide +kernel)
theorem sTyN (g : Good X C sc tb N Φ cs) {t : Ty} {y : Str} {p : Pos} (hy : y = Str.ofString (tyN t)) (hg : glB sc y = true) : PE X (.Name y p) (tC (.ty (tyN t))) := by
  subst hy
  obtain ⟨b1, b2⟩ := ty_boot t
  obtain ⟨n1, n2⟩ := Good.nodbg b2
  exact pe_bltn (g.gl hg) (g.bi _ b2) b1 rfl n2 n1
theorem sTys (g : Good X C sc tb N Φ cs) : ∀ (ts : List Ty) (ys : List Expr), tyB ys ts sc = true → PA X ys (fun _ H Q => Q (ts.map fun t => V.ty (tyN t)) H)
  | [], [], _ => pa_nil
  | [], .Name _ _ :: _, h => by simp [tyB] at h
  | t :: ts, [], h => by simp [tyB] at h
  | t :: ts, .Name y p :: ys, h => by
    simp only [tyB, Bool.and_eq_true, decide_eq_true_eq] at h
    exact PA.imp (pa_cons (sTyN g h.1.1 h.1.2) (sTys g ts ys h.2) (by rfl)) fun σ H Q h => h
  | [], .BoolOp _ _ _ :: _, h | [], .NamedExpr _ _ _ :: _, h | [], .BinOp _ _ _ _ :: _, h | [], .UnaryOp _ _ _ :: _, h | [], .Lambda _ _ _ _ :: _, h | [], .IfExp _ _ _ _ :: _, h | [], .Dict _ _ _ :: _, h | [], .Set _ _ _ :: _, h
  | [], .ListComp _ _ _ _ :: _, h | [], .SetComp _ _ _ _ :: _, h | [], .DictComp _ _ _ _ _ :: _, h | [], .GeneratorExp _ _ _ _ :: _, h | [], .Await _ _ :: _, h | [], .Yield _ _ :: _, h | [], .YieldFrom _ _ :: _, h | [], .Compare _ _ _ _ :: _, h
  | [], .Call _ _ _ _ :: _, h | [], .FormattedValue _ _ _ _ :: _, h | [], .JoinedStr _ _ :: _, h | [], .Constant _ _ _ :: _, h | [], .Attribute _ _ _ :: _, h | [], .Subscript _ _ _ :: _, h | [], .Starred _ _ :: _, h
  | [], .List _ _ :: _, h | [], .Tuple _ _ _ :: _, h | [], .Slice _ _ _ _ :: _, h => by simp [tyB] at h
  | _ :: _, .BoolOp _ _ _ :: _, h | _ :: _, .NamedExpr _ _ _ :: _, h | _ :: _, .BinOp _ _ _ _ :: _, h | _ :: _, .UnaryOp _ _ _ :: _, h | _ :: _, .Lambda _ _ _ _ :: _, h | _ :: _, .IfExp _ _ _ _ :: _, h | _ :: _, .Dict _ _ _ :: _, h
  | _ :: _, .Set _ _ _ :: _, h | _ :: _, .ListComp _ _ _ _ :: _, h | _ :: _, .SetComp _ _ _ _ :: _, h | _ :: _, .DictComp _ _ _ _ _ :: _, h | _ :: _, .GeneratorExp _ _ _ _ :: _, h | _ :: _, .Await _ _ :: _, h | _ :: _, .Yield _ _ :: _, h
  | _ :: _, .YieldFrom _ _ :: _, h | _ :: _, .Compare _ _ _ _ :: _, h | _ :: _, .Call _ _ _ _ :: _, h | _ :: _, .FormattedValue _ _ _ _ :: _, h | _ :: _, .JoinedStr _ _ :: _, h | _ :: _, .Constant _ _ _ :: _, h
  | _ :: _, .Attribute _ _ _ :: _, h | _ :: _, .Subscript _ _ _ :: _, h | _ :: _, .Starred _ _ :: _, h | _ :: _, .List _ _ :: _, h | _ :: _, .Tuple _ _ _ :: _, h | _ :: _, .Slice _ _ _ _ :: _, h => by simp [tyB] at h
theorem tys_ok : ∀ (ts : List Ty) (ys : List Expr), tyB ys ts sc = true → okEs ys = true := by
  intro ts
  induction ts with
  | nil => intro ys h; cases ys with
    | nil => rfl
    | cons y ys => cases y <;> simp [tyB] at h
  | cons t ts ih => intro ys h; cases ys with
    | nil => rfl
    | cons y ys =>
      cases y <;> simp only [tyB, Bool.and_eq_true, Bool.false_eq_true] at h
      simp only [okEs, okE, Bool.true_and]
      exact ih ys h.2
theorem cls_all : ∀ ts : List Ty, Paired ClsV (ts.map fun t => V.ty (tyN t)) (ts.map fun t => Value.type (tyN t))
  | [] => .nil
  | t :: ts => .cons (.ty _) (cls_all ts)
theorem isi1 {ma : M R} {ts : List Ty} {σ : St} {H : Hp} {Q : VK} (h : tE C (ma.bind fun x => (rdM x).bind fun dx => .ret (.d (.bool (ts.any (isTy dx))))) σ H Q) :
    tE C ma σ H fun v H1 => ∃ d T, TyE C.K H1 v T ∧ ClsOk C.K d T ∧ ∀ H2, Grow H1 H1 H2 H2 → TyE C.K H2 v T ∧ Q (.bl (ts.any (isTy d))) H2 := by
  refine go1 (rl := rlE C.K C.G) h fun x F1 env1 H1 v r1 _ hx h => ?_
  obtain ⟨d, ed, h⟩ := h.rd
  have ro := hx.1.ro r1 ed
  obtain ⟨T, t1, t2, t3⟩ := ty_of r1.fh ro
  refine ⟨d, T, t1, t2, fun H2 g => ?_⟩
  have g' : Grow F1 H1 F1 H2 := ⟨.refl _, r1.fh.trans g.h, g.h, fun _ h => .inl h⟩
  exact ⟨t3 H2 g.h, h.ret _ F1 H2 (r1.grow g') g'.step ⟨rfl, trivial⟩⟩
theorem grow_refl (H : Hp) : Grow H H H H := .refl (.refl H)
theorem sIsi1 (g : Good X C sc tb N Φ cs) {ma : E} {t : Ty} {a : Expr} {x y : Str} {p p2 pos : Pos} (hx : x = "isinstance") (hg : glB sc x = true) (ha : PE X a (tE C (evE Φ cs ma))) (ka : okE a = true)
    (hy : y = Str.ofString (tyN t)) (hgy : glB sc y = true) : PE X (.Call (.Name x p) [a, .Name y p2] [] pos) (tE C (evE Φ cs (.isi ma [t] false))) := by
  subst hx
  have pa : PA X [a, .Name y p2] (tCons (tE C (evE Φ cs ma)) (tCons (tC (.ty (tyN t))) tNil)) := pa_cons ha (pa_cons (sTyN g hy hgy) pa_nil (by rfl)) (ok_star ka _ _)
  refine PE.imp (pe_callB call_isE1 (g.gl hg) (g.bi _ (by decide +kernel)) (by decide +kernel) pa (by decide +kernel) (by decide +kernel) (ok_star ka _ _) (by rfl)) fun σ H Q h => ?_
  obtain ⟨F, env, rel, o, env', e, q⟩ := isi1 h
  refine ⟨F, env, rel, o, env', e, ?_⟩
  cases o with
  | rs c => exact q
  | ok r =>
    intro v F' H' r' s' h'
    obtain ⟨d, T, k1, k3, k2⟩ := q v F' H' r' s' h'
    rw [g.k]
    refine ⟨v, .ty (tyN t), T, .type (tyN t), isTy d t, rfl, .ty _, k1, k3 t, ?_⟩
    have := (k2 H' (grow_refl H')).2
    simpa using this
theorem sIsiN (g : Good X C sc tb N Φ cs) {ma : E} {ts : List Ty} {a : Expr} {ys : List Expr} {k : Nat} {x : Str} {p p2 pos : Pos} (hx : x = "isinstance") (hg : glB sc x = true) (ha : PE X a (tE C (evE Φ cs ma))) (ka : okE a = true)
    (hy : tyB ys ts sc = true) (hl : ts.length ≤ 100) : PE X (.Call (.Name x p) [a, .Tuple ys k p2] [] pos) (tE C (evE Φ cs (.isi ma ts true))) := by
  subst hx
  have pa : PA X [a, .Tuple ys k p2] (tCons (tE C (evE Φ cs ma)) (tCons (tTup fun _ H Q => Q (ts.map fun t => V.ty (tyN t)) H) tNil)) := pa_cons ha (pa_cons (pe_tup (sTys g ts ys hy)) pa_nil (by rfl)) (ok_star ka _ _)
  refine PE.imp (pe_callB call_isET (g.gl hg) (g.bi _ (by decide +kernel)) (by decide +kernel) pa (by decide +kernel) (by decide +kernel) (ok_star ka _ _) (by rfl)) fun σ H Q h => ?_
  obtain ⟨F, env, rel, o, env', e, q⟩ := isi1 h
  refine ⟨F, env, rel, o, env', e, ?_⟩
  cases o with
  | rs c => exact q
  | ok r =>
    intro v F' H' r' s' h'
    obtain ⟨d, T, k1, kc, k2⟩ := q v F' H' r' s' h'
    refine ⟨?_, fun tp htp => ?_⟩
    · rw [List.length_map, sizeLine_eq]; omega
    · obtain ⟨k3, k4⟩ := k2 (upd H' tp (.tup (ts.map fun t => V.ty (tyN t)))) ⟨Ex.upd htp, .refl _, Ex.upd htp, fun b h => by
        by_cases q : b = tp
        · subst q; exact .inr htp
        · rw [upd_ne q] at h; exact .inl h⟩
      rw [g.k]
      exact ⟨v, tp, _, T, _, _, rfl, upd_same, cls_all ts, k3, kitN kc ts, k4⟩
end
end Sm

set_option maxRecDepth 100000
set_option maxHeartbeats 4000000
namespace Sm
open PySem L2
/-! ### exceptions as values -/
section
variable {X : Cx} {C : Ctx} {sc : Scope} {tb : Tab} {N : List Str} {Φ : Nat → Spec} {cs : Nat → D}
/-- a class by its name -/
theorem sClsN (g : Good X C sc tb N Φ cs) {p : Str × List (Str × Bool)} {v : V} {u : Value} {pos : Pos} (hm : X.mg p.1 = some u ∨ (X.mg p.1 = none ∧ bootBuiltins p.1 = some u ∧ p.1 ≠ "__name__")) (r : RelV v u) (hg : glB sc p.1 = true) (hp : plainN p.1 = true) :
    PE X (.Name p.1 pos) (tC v) := by
  rcases hm with hm | ⟨h1, h2, h3⟩
  · exact pe_glob (g.gl hg) hm r (plain_of hp).1
  · exact pe_bltn (g.gl hg) h1 h2 r h3 (plain_of hp).1
theorem isx_kit (g : Good X C sc tb N Φ cs) {p : Str × List (Str × Bool)} {u : Value} (hn : PySem.W.kitOne X.K (.type "NoneType") u = some false)
    (hq : ∀ q ∈ p.2, ∀ Ca, XcC X.K q.1 Ca → PySem.W.exmOne X.K (.ref Ca) u = some q.2 ∧ PySem.W.kitOne X.K (.ref Ca) u = some q.2) {F H : Hp} {v : V} {d : D} {r : R} (e : Ex F H) (ro : RO X.K F H v d) (er : isxD p.2 d = some r) :
    ∃ b T, r = .d (.bool b) ∧ TyE X.K H v T ∧ PySem.W.kitOne X.K T u = some b := by
  unfold isxD at er
  split at er
  · cases er
    rw [ro.non]
    exact ⟨false, _, rfl, .inl (.base .non), hn⟩
  · rename_i ks y
    obtain ⟨b, hb, rfl⟩ := Option.map_eq_some_iff.mp er
    have hm := mem_of_lookup hb
    rcases ro with (⟨_, _, _, _, h⟩ | ⟨a, Ca, φ, y', rfl, hk, ha, hi, hc⟩) | ⟨_, _, _, _, h⟩
    · obtain ⟨q, _, _, _, h2, _⟩ := h
      cases q <;> cases h2
    · cases hk
      exact ⟨b, .ref Ca, rfl, .inr ⟨a, Ca, φ, rfl, rfl, e a _ ha, hi, hc.ec⟩, (hq _ hm Ca hc).2⟩
    · obtain ⟨q, _, _, _, h2, _⟩ := h
      cases q <;> cases h2
  · cases er
theorem sIsxE (g : Good X C sc tb N Φ cs) {ma : E} {x : Str} {ys : List (Str × Bool)} {a : Expr} {f : Str} {p p2 pos : Pos} (hf : f = "isinstance") (hgf : glB sc f = true) (ha : PE X a (tE C (evE Φ cs ma))) (ka : okE a = true)
    (hg : glB sc x = true) (hp : plainN x = true) (hm : (x, ys) ∈ tb.xi.ec) : PE X (.Call (.Name f p) [a, .Name x p2] [] pos) (tE C (evE Φ cs (.isx ma x ys))) := by
  subst hf
  obtain ⟨cv, u, h1, h2, h3, h4, h5⟩ := g.ec _ hm
  have pa : PA X [a, .Name x p2] (tCons (tE C (evE Φ cs ma)) (tCons (tC cv) tNil)) := pa_cons ha (pa_cons (sClsN (p := (x, ys)) g h1 h2 hg hp) pa_nil (by rfl)) (ok_star ka _ _)
  refine PE.imp (pe_callB call_isE1 (g.gl hgf) (g.bi _ (by decide +kernel)) (by decide +kernel) pa (by decide +kernel) (by decide +kernel) (ok_star ka _ _) (by rfl)) fun σ H Q h => ?_
  refine go1 (rl := rlE C.K C.G) h fun z F1 env1 H1 v r1 _ hx h => ?_
  obtain ⟨d, ed, h⟩ := h.rd
  obtain ⟨r, er, q⟩ := h.opt
  have ro := hx.1.ro r1 ed
  rw [← g.k] at ro
  obtain ⟨b, T, rfl, t1, t2⟩ := isx_kit g h4 h5 r1.fh ro er
  exact ⟨v, cv, T, u, b, rfl, h3, t1, t2, q _ F1 H1 r1 .refl ⟨rfl, trivial⟩⟩
theorem sMkxE (g : Good X C sc tb N Φ cs) {ma : E} {x : Str} {a : Expr} {p pos : Pos} (ha : PE X a (tE C (evE Φ cs ma))) (ka : okE a = true) (hg : glB sc x = true) (hp : plainN x = true) (hm : x ∈ tb.xi.xs) :
    PE X (.Call (.Name x p) [a] [] pos) (tE C (evE Φ cs (.mkx x ma))) := by
  obtain ⟨c, hc⟩ := List.getElem?_of_mem hm
  obtain ⟨Ca, _, k1, k2, k3, k4, _⟩ := g.xs c x hc
  refine PE.imp (pe_exc1 PySem.F.excBase_ValueError k3 k1 k4 (g.gl hg) ha (ok_star ka [] _) (plain_of hp).1) fun σ H Q h => ?_
  refine goFrz h fun d F1 env1 H1 v r1 s1 hd h => ?_
  intro b hb
  have gr : Grow F1 H1 (upd F1 b (ExO (.ref Ca) b)) (upd H1 b (ExO (.ref Ca) b)) := .laid r1.fh hb
  refine h.ret _ _ _ (r1.grow gr) gr.step ⟨.inr ⟨b, Ca, _, x, rfl, rfl, upd_same, fun hh => ?_, by rw [← g.k]; exact k2⟩, trivial⟩
  rintro ⟨oe, vs, z1, z2, z3, _⟩
  exact ⟨oe, vs, z1, z2, z3⟩
end
end Sm

set_option maxRecDepth 100000
set_option maxHeartbeats 4000000
namespace Sm
open PySem L2
open AutoSeq1 (wpAny_loadPart')
/-! ### enumerate(a tuple) -/
theorem enum_newT (l : Addr) (items : Array Value) (n : Nat) (dct : Option Addr) (sl : Array (Option Value)) :
    Meets (Builtin.«enumerate.__new__» ⟨[.type "enumerate", .ref l], []⟩) (fun _ R s => s.heap.get? l = some { cls := .type "tuple", dict := dct, data := .seq items n, slots := sl } ∧
      R (.ok (.ret (.ref (s.heap.push { cls := .type "tuple_iterator", data := .fields #[.ref l, .int 0 0] }).objs.size)))
        { s with heap := (s.heap.push { cls := .type "tuple_iterator", data := .fields #[.ref l, .int 0 0] }).push { cls := .type "enumerate", data := .fields #[.none, .bool false, .ref s.heap.objs.size, rawInt 0, .none, .none] } }) :=
  .of_wp fun prog w A R s hh => by
    obtain ⟨hp, g, d, tk, os⟩ := s
    obtain ⟨ht, hr⟩ := hh
    have sub := sub_enumerate
    have tup : Heap.IsTuple (Shared.heap ⟨hp, g, d, tk, os⟩) l items := ⟨_, ht, rfl, n, rfl⟩
    wp_walk using wpAny_loadPart' ht
    refine wpAny_stack_any fun st => wpAny_pure ?_
    split
    · rename_i c _ _ _ _ _
      cases (c == Value.type "enumerate")
      · wp_walk using wpAny_loadPart' ht, wpAny_pyIter_tuple tup
        exact ⟨_, rfl, hr⟩
      · wp_walk using wpAny_loadPart' ht, wpAny_pyIter_tuple tup
        exact ⟨_, rfl, hr⟩
    · wp_walk using wpAny_loadPart' ht, wpAny_pyIter_tuple tup
      exact ⟨_, rfl, hr⟩
section
variable {prog : Program} {w : World} {A : Around} {E : Value → Shared → Prop} {s : Shared}
theorem enum_callT {l : Addr} {items : Array Value} {Q : Value → Shared → Prop} (hL : s.heap.IsTuple l items)
    (h : ∀ h', IsEnum h' (s.heap.objs.size + 1) s.heap.objs.size 0 .none → h'.IsTupleIter s.heap.objs.size l 0 → 
      (∀ b o, s.heap.get? b = some o → h'.get? b = some o) → Q (.ref (s.heap.objs.size + 1)) { s with heap := h' }) :
    wpAny (model prog w) A (call (.type "enumerate") [.ref l]) Q E s := by
  obtain ⟨⟨c, dct, dt, sl⟩, hl, hc, n, hd⟩ := hL
  replace hc : c = .type "tuple" := hc
  replace hd : dt = .seq items n := hd
  subst hc hd
  refine callType_new F.called_enumerate (by decide) (F.typeCall_enumerate_1 _) (F.newCall_enumerate_1 _) (fun obj => F.args_object_init_2 obj _) F.entry_enumerate_new (enum_newT l items n dct sl) ⟨hl, ?_⟩
  have hz : (s.heap.push { cls := .type "tuple_iterator", data := .fields #[.ref l, .int 0 0] }).objs.size = s.heap.objs.size + 1 := Heap.size_push ..
  have he : IsEnum ((s.heap.push { cls := .type "tuple_iterator", data := .fields #[.ref l, .int 0 0] }).push
      { cls := .type "enumerate", data := .fields #[.none, .bool false, .ref s.heap.objs.size, rawInt 0, .none, .none] }) (s.heap.objs.size + 1) s.heap.objs.size 0 .none := by
    have q := Heap.get?_push_size (s.heap.push { cls := .type "tuple_iterator", data := .fields #[.ref l, .int 0 0] })
      (o := { cls := .type "enumerate", data := .fields #[.none, .bool false, .ref s.heap.objs.size, rawInt 0, .none, .none] }) rfl
    rw [hz] at q
    exact q
  show _ ∧ _
  rw [hz]
  exact ⟨⟨_, he, rfl⟩, h _ he ⟨_, Heap.get?_push_of_some _ (Heap.get?_push_size _ rfl), rfl, rfl⟩ fun b o x => Heap.get?_push_of_some _ (Heap.get?_push_of_some _ x)⟩
end
/-! the tuple at a, each item in a new pair -/
def IteT (K : PySem.W.Frag) (a : Addr) : It :=
  ⟨fun i H => ∃ (xs : List V) (x : V), SqT K H a xs ∧ xs[i]? = some x, fun i H v H' => ∃ T x, v = .ref T ∧ H T = none ∧ H' = upd H T (.tup [.int (i : Nat), x]) ∧ ∀ xs, SqT K H a xs → xs[i]? = some x, fun i H => ∃ xs : List V, SqT K H a xs ∧ xs.length = i⟩
theorem turn_enumT {P : Program} {w : World} {K : PySem.W.Frag} {elts : List Expr} {kk : Nat} {tpos : Pos} (a e it : Addr) :
    Turn P w K (.Tuple elts kk tpos) (IteT K a) [e, it] e (fun i h => (∃ old, IsEnum h e it ((i : Nat) : Int) old) ∧ h.IsTupleIter it a i ∧ e ≠ it) where
  mem := List.mem_cons_self
  obj := fun i h ⟨⟨old, he⟩, ⟨o, ho, _, hd⟩, _⟩ b hb => by
    rcases List.mem_cons.mp hb with q | hb
    · rw [q]; exact ⟨_, he, fun v z => nomatch z⟩
    · have q := List.mem_singleton.mp hb
      exact ⟨o, by rw [q]; exact ho, fun v z => by rw [hd] at z; cases z⟩
  keep := fun i h h' ⟨⟨old, he⟩, hi, hne⟩ k => ⟨⟨old, k e List.mem_cons_self _ he⟩, hi.at fun o q => k it (List.mem_cons_of_mem _ List.mem_cons_self) o q, hne⟩
  item := by
    rintro X rfl rfl rfl hc i pins s σ H E I hf ⟨⟨old, he⟩, hit, hne⟩ ⟨xs, x, hq, hx⟩
    obtain ⟨its, rv, p, hz⟩ := I.tuple hq
    obtain ⟨u, hu, ru⟩ := rv.get hx
    have hel : e < s.heap.objs.size := Heap.lt_size he
    have hil : it < s.heap.objs.size := by obtain ⟨_, q, _⟩ := hit; exact Heap.lt_size q
    have hae : e ≠ a := by
      rintro rfl
      obtain ⟨o, h1, h2, _⟩ := p
      rw [he] at h1
      cases h1
      exact absurd h2 (by show Value.type "enumerate" ≠ Value.type "tuple"; decide +kernel)
    have hai : a ≠ it := by
      rintro rfl
      obtain ⟨o, h1, h2, _⟩ := p
      obtain ⟨o', h3, h4, _⟩ := hit
      rw [h3] at h1
      cases h1
      rw [h4] at h2
      exact absurd h2 (by decide +kernel)
    have hlt : i < its.toArray.size := by
      have := (List.getElem?_eq_some_iff.mp hu).1
      simpa using this
    refine wpAny_pyNext_enum_itemD (Draws.tuple (prog := X.prog) (w := X.w) (A := X.A.in1) (I.ok.hd hc) it a hai its.toArray) he ⟨hit, p⟩ hlt hne (by simp [hne, hae]) fun y h' tk hy ho hst hT hsz hk => ?_
    have hy : y = u := by
      have e2 : its.toArray[i]? = some u := by simpa using hu
      rw [e2] at hy
      exact (Option.some.inj hy).symm
    subst hy
    refine ⟨_, rfl, wpAny_letOwnedTupleGo_enum (s := { s with heap := h', toks := tk + 1 }) ho fun h'' he' sb => ?_⟩
    have hT2 : h''.get? s.heap.objs.size = some { cls := .type "tuple", data := .seq #[.int i tk, y] } := (sb.2 _ (Nat.ne_of_gt hel)).trans hT
    have new : ObjOk X.prog X.w (upd H s.heap.objs.size (.tup [.int (i : Nat), x])) h'' s.heap.objs.size (.tup [.int (i : Nat), x]) :=
      ⟨by show 2 ≤ sizeLine; decide, [.int i tk, y], .cons ⟨_, rfl⟩ (.cons ru .nil), ⟨_, hT2, rfl, _, rfl⟩⟩
    have I1 : Inv X pins σ (upd H s.heap.objs.size (.tup [.int (i : Nat), x])) { s with heap := h'', toks := tk + 1 } :=
      I.turnedNew (ch := [e, it]) (fun b ob hb q => (sb.2 b fun z => hb (by rw [z]; exact List.mem_cons_self)).trans (hk b ob (fun z => hb (by rw [z]; exact List.mem_cons_self)) (fun z => hb (by rw [z]; exact List.mem_cons_of_mem _ List.mem_cons_self)) q)) hf (Nat.le_refl _) new
    refine ⟨.ref s.heap.objs.size, _, I1, rfl, ⟨_, x, rfl, I.hok.fresh (Nat.le_refl _), rfl, fun ys hy => by rw [I.tuple_inj hy hq]; exact hx⟩, ⟨⟨y, ?_⟩, hst.1.at fun o q => (sb.2 it (Ne.symm hne)).trans q, hne⟩, fun b hb => ?_⟩
    · have e1 : ((i + 1 : Nat) : Int) = (i : Int) + 1 := by omega
      rw [e1]; exact he'
    · have hb' : b < s.heap.objs.size := by
        rcases List.mem_cons.mp hb with z | hb
        · rw [z]; exact hel
        · rw [List.mem_singleton.mp hb]; exact hil
      rw [upd_ne (Nat.ne_of_lt hb')]
      exact (hf b hb).1
  done := by
    rintro X rfl rfl rfl hc i pins s σ H E I hf ⟨⟨old, he⟩, hit, hne⟩ ⟨xs, hq, hx⟩
    obtain ⟨its, rv, p, hz⟩ := I.tuple hq
    obtain ⟨f0, f1, f2, f3, f4, f5⟩ := hf it (by simp)
    have hl := rv.length
    have hai : a ≠ it := by
      rintro rfl
      obtain ⟨o, h1, h2, _⟩ := p
      obtain ⟨o', h3, h4, _⟩ := hit
      rw [h3] at h1
      cases h1
      rw [h4] at h2
      exact absurd h2 (by decide +kernel)
    have hs : i = its.toArray.size := by rw [List.size_toArray]; omega
    rw [hs] at hit
    exact wpAny_pyNext_enum_endD (Draws.tuple (prog := X.prog) (w := X.w) (A := X.A.in1) (I.ok.hd hc) it a hai its.toArray) he ⟨hit, p⟩ fun h' eb => ⟨rfl, I.turned (t' := s.toks) (fun b o hb q => eb b o hb q) f0 f1 f3 f4 f5⟩
  self := fun A i s Q E ⟨⟨_, he⟩, _⟩ h => wpAny_pyIter_enum he h
end Sm

set_option maxRecDepth 100000
set_option maxHeartbeats 4000000
namespace Sm
open PySem L2
/-! ### zip of three tuples -/
def ItzT3 (K : PySem.W.Frag) (a b c : Addr) : It :=
  ⟨fun i H => ∃ (xs ys zs : List V) (x y z : V), SqT K H a xs ∧ SqT K H b ys ∧ SqT K H c zs ∧ xs[i]? = some x ∧ ys[i]? = some y ∧ zs[i]? = some z,
   fun i H v H' => ∃ T x y z, v = .ref T ∧ H T = none ∧ H' = upd H T (.tup [x, y, z]) ∧ (∀ xs, SqT K H a xs → xs[i]? = some x) ∧ (∀ xs, SqT K H b xs → xs[i]? = some y) ∧ ∀ xs, SqT K H c xs → xs[i]? = some z,
   fun i H => ∃ xs ys zs : List V, SqT K H a xs ∧ SqT K H b ys ∧ SqT K H c zs ∧ min (min xs.length ys.length) zs.length = i⟩
theorem iter_ne {h : Heap} {a it : Addr} {its : Array Value} {i : Nat} (p : h.IsTuple a its) (q : h.IsTupleIter it a i) : a ≠ it := by
  rintro rfl
  obtain ⟨o, h1, h2, _⟩ := p
  obtain ⟨o', h3, h4, _⟩ := q
  rw [h3] at h1
  cases h1
  rw [h4] at h2
  exact absurd h2 (by decide +kernel)
theorem turn_zipT3 {P : Program} {w : World} {K : PySem.W.Frag} {elts : List Expr} {kk : Nat} {tpos : Pos} {a b c z TI TO i1 i2 i3 : Addr} (D : ZipSep3 z TI TO i1 i2 i3 [i1, a] [i2, b] [i3, c]) :
    Turn P w K (.Tuple elts kk tpos) (ItzT3 K a b c) [z, TI, TO, i1, i2, i3] z (fun i h => IsZip h z TI TO .none ∧ IsTupOf3 h TI (.ref i1) (.ref i2) (.ref i3) ∧ (∃ x y u, IsTupOf3 h TO x y u) ∧ h.IsTupleIter i1 a i ∧ h.IsTupleIter i2 b i ∧ h.IsTupleIter i3 c i) where
  mem := by simp
  obj := fun i h st d hd => by
    obtain ⟨hz, hTI, ⟨x, y, u, hTO⟩, ⟨o1, e1, _, d1⟩, ⟨o2, e2, _, d2⟩, ⟨o3, e3, _, d3⟩⟩ := st
    have e' : d = z ∨ d = TI ∨ d = TO ∨ d = i1 ∨ d = i2 ∨ d = i3 := by simpa using hd
    rcases e' with q | q | q | q | q | q
    · rw [q]; exact ⟨_, hz, fun v q => nomatch q⟩
    · rw [q]; exact ⟨_, hTI, fun v q => nomatch q⟩
    · rw [q]; exact ⟨_, hTO, fun v q => nomatch q⟩
    · rw [q]; exact ⟨o1, e1, fun v q => by rw [d1] at q; cases q⟩
    · rw [q]; exact ⟨o2, e2, fun v q => by rw [d2] at q; cases q⟩
    · rw [q]; exact ⟨o3, e3, fun v q => by rw [d3] at q; cases q⟩
  keep := fun i h h' st k => by
    obtain ⟨hz, hTI, ⟨x, y, u, hTO⟩, h1, h2, h3⟩ := st
    exact ⟨k z (by simp) _ hz, k TI (by simp) _ hTI, ⟨x, y, u, k TO (by simp) _ hTO⟩, h1.at fun o q => k i1 (by simp) o q, h2.at fun o q => k i2 (by simp) o q, h3.at fun o q => k i3 (by simp) o q⟩
  item := by
    intro X hP hw hK hc i pins s σ H E I hf st hg
    subst hP hw hK
    obtain ⟨hz, hTI, hTO, h1, h2, h3⟩ := st
    obtain ⟨xs, ys, zs, x, y, u, hqx, hqy, hqz, hx, hy, hu⟩ := hg
    obtain ⟨its, rv, p, _⟩ := I.tuple hqx
    obtain ⟨its2, rv2, p2, _⟩ := I.tuple hqy
    obtain ⟨its3, rv3, p3, _⟩ := I.tuple hqz
    obtain ⟨w1, hw1, r1⟩ := rv.get hx
    obtain ⟨w2, hw2, r2⟩ := rv2.get hy
    obtain ⟨w3, hw3, r3⟩ := rv3.get hu
    have W := GoesN.zip3 (A := X.A) (elts := elts) (x1 := kk) (pos := tpos) D
      (Draws.tuple (prog := X.prog) (w := X.w) (A := X.A.in1) (I.ok.hd hc) i1 a (iter_ne p h1) its.toArray)
      (Draws.tuple (prog := X.prog) (w := X.w) (A := X.A.in1) (I.ok.hd hc) i2 b (iter_ne p2 h2) its2.toArray)
      (Draws.tuple (prog := X.prog) (w := X.w) (A := X.A.in1) (I.ok.hd hc) i3 c (iter_ne p3 h3) its3.toArray)
    have t1 := (List.getElem?_eq_some_iff.mp hw1).1
    have t2 := (List.getElem?_eq_some_iff.mp hw2).1
    have t3 := (List.getElem?_eq_some_iff.mp hw3).1
    refine W.goes i s _ E (by rw [List.size_toArray, List.size_toArray, List.size_toArray]; omega) ⟨hz, hTI, hTO, ⟨h1, p⟩, ⟨h2, p2⟩, ⟨h3, p3⟩⟩ fun v h' tk hY st' hk htk => ?_
    obtain ⟨T, a1, a2, a3, rfl, hT, e1, e2, e3, hTt⟩ := hY
    have q1 : w1 = a1 := Option.some.inj (hw1.symm.trans (by simpa using e1))
    have q2 : w2 = a2 := Option.some.inj (hw2.symm.trans (by simpa using e2))
    have q3 : w3 = a3 := Option.some.inj (hw3.symm.trans (by simpa using e3))
    subst q1 q2 q3
    have new : ObjOk X.prog X.w (upd H T (.tup [x, y, u])) h' T (.tup [x, y, u]) :=
      ⟨by show 3 ≤ sizeLine; decide, [w1, w2, w3], .cons r1 (.cons r2 (.cons r3 .nil)), hTt⟩
    have I1 : Inv X pins σ (upd H T (.tup [x, y, u])) { s with heap := h', toks := tk } :=
      I.turnedNew (t' := tk) (ch := [z, TI, TO, i1, i2, i3]) (fun d o hb q => hk d o (fun q' => hb (by
        have q' : d = z ∨ d = TO ∨ d = i1 ∨ d = i2 ∨ d = i3 := by simpa using q'
        rcases q' with q' | q' | q' | q' | q' <;> simp [q'])) q) hf hT new
    obtain ⟨k1, k2, k3, ⟨k4, _⟩, ⟨k5, _⟩, ⟨k6, _⟩⟩ := st'
    refine ⟨.ref T, _, I1, rfl, ⟨_, x, y, u, rfl, I.hok.fresh hT, rfl, fun l hl => by rw [I.tuple_inj hl hqx]; exact hx, fun l hl => by rw [I.tuple_inj hl hqy]; exact hy, fun l hl => by rw [I.tuple_inj hl hqz]; exact hu⟩, ⟨k1, k2, k3, k4, k5, k6⟩, fun d hd => ?_⟩
    have hlt : d < s.heap.objs.size := by
      have e' : d = z ∨ d = TI ∨ d = TO ∨ d = i1 ∨ d = i2 ∨ d = i3 := by simpa using hd
      rcases e' with q | q | q | q | q | q
      · rw [q]; exact Heap.lt_size hz
      · rw [q]; exact Heap.lt_size hTI
      · rw [q]; obtain ⟨_, _, _, e1⟩ := hTO; exact Heap.lt_size e1
      · rw [q]; obtain ⟨_, e1, _⟩ := h1; exact Heap.lt_size e1
      · rw [q]; obtain ⟨_, e1, _⟩ := h2; exact Heap.lt_size e1
      · rw [q]; obtain ⟨_, e1, _⟩ := h3; exact Heap.lt_size e1
    rw [upd_ne (Nat.ne_of_lt (Nat.lt_of_lt_of_le hlt hT))]
    exact (hf d hd).1
  done := by
    intro X hP hw hK hc i pins s σ H E I hf st hg
    subst hP hw hK
    obtain ⟨hz, hTI, hTO, h1, h2, h3⟩ := st
    obtain ⟨xs, ys, zs, hqx, hqy, hqz, hend⟩ := hg
    obtain ⟨its, rv, p, _⟩ := I.tuple hqx
    obtain ⟨its2, rv2, p2, _⟩ := I.tuple hqy
    obtain ⟨its3, rv3, p3, _⟩ := I.tuple hqz
    have W := GoesN.zip3 (A := X.A) (elts := elts) (x1 := kk) (pos := tpos) D
      (Draws.tuple (prog := X.prog) (w := X.w) (A := X.A.in1) (I.ok.hd hc) i1 a (iter_ne p h1) its.toArray)
      (Draws.tuple (prog := X.prog) (w := X.w) (A := X.A.in1) (I.ok.hd hc) i2 b (iter_ne p2 h2) its2.toArray)
      (Draws.tuple (prog := X.prog) (w := X.w) (A := X.A.in1) (I.ok.hd hc) i3 c (iter_ne p3 h3) its3.toArray)
    have en : min (min its.toArray.size its2.toArray.size) its3.toArray.size = i := by
      rw [List.size_toArray, List.size_toArray, List.size_toArray, ← rv.length, ← rv2.length, ← rv3.length]; exact hend
    refine W.stops s _ E (by rw [en]; exact ⟨hz, hTI, hTO, ⟨h1, p⟩, ⟨h2, p2⟩, ⟨h3, p3⟩⟩) fun h' tk hk htk => ?_
    exact I.turnedL (t' := tk) (ch := [z, TI, TO, i1, i2, i3]) (fun d o hb q => hk d o (fun q' => hb (by
        have q' : d = z ∨ d = TO ∨ d = i1 ∨ d = i2 ∨ d = i3 := by simpa using q'
        rcases q' with q' | q' | q' | q' | q' <;> simp [q'])) q) hf
  self := fun A i s Q E st h => wpAny_pyIter_zip st.1 h
def iZip3 (K : PySem.W.Frag) (ta : TA) : TI := fun σ H R => ta σ H fun vs H1 => ∃ a b c xs ys zs, vs = [.ref a, .ref b, .ref c] ∧ SqT K H1 a xs ∧ SqT K H1 b ys ∧ SqT K H1 c zs ∧ R (ItzT3 K a b c) H1
theorem pi_zip3 {X : Cx} {e e2 e3 : Expr} {ta : TA} {p pos tpos : Pos} {elts : List Expr} {kk : Nat} (hg : Gl X "zip") (hm : X.mg "zip" = none) (ha : PA X [e, e2, e3] ta)
    (hs : starEach [e, e2, e3] X.env = (false, eval e X.env) :: starEach [e2, e3] X.env := by rfl) (hpl : (backTo pos (starEach [e2, e3] X.env)).any (·.1) = false := by rfl) :
    PI X (.Tuple elts kk tpos) (.Call (.Name "zip" p) [e, e2, e3] [] pos) (iZip3 X.K ta) := by
  refine ⟨fun pins s σ H R I h => ?_⟩
  refine PyProof.Rows.Call_ (ld_blt I hg hm PyProof.Rows.boot_zip (PyProof.Rows.callWith_type1 (thn (ha.run pos pins s σ H _ I h) fun us s1 ⟨vs, H1, I1, r1, q1⟩ => ?_) hs hpl))
  obtain ⟨a, b, c, xs, ys, zs, ex, hqx, hqy, hqz, q⟩ := q1
  subst ex
  cases r1 with
  | cons r rr =>
    cases rr with
    | cons r' rr =>
      cases rr with
      | cons r'' rr =>
        cases rr
        cases r
        cases r'
        cases r''
        have fresh6 : ∀ c, c ∈ [s1.heap.objs.size + 5, s1.heap.objs.size + 3, s1.heap.objs.size + 4, s1.heap.objs.size, s1.heap.objs.size + 1, s1.heap.objs.size + 2] → FpOk X pins H1 c := fun c hcm => by
          have e' : c = s1.heap.objs.size + 5 ∨ c = s1.heap.objs.size + 3 ∨ c = s1.heap.objs.size + 4 ∨ c = s1.heap.objs.size ∨ c = s1.heap.objs.size + 1 ∨ c = s1.heap.objs.size + 2 := by simpa using hcm
          have hle : s1.heap.objs.size ≤ c := by
            rcases e' with z | z | z | z | z | z
            · rw [z]; exact Nat.le_add_right _ _
            · rw [z]; exact Nat.le_add_right _ _
            · rw [z]; exact Nat.le_add_right _ _
            · rw [z]; exact Nat.le_refl _
            · rw [z]; exact Nat.le_add_right _ _
            · rw [z]; exact Nat.le_add_right _ _
          exact I1.fpOk hle (I1.hok.fresh hle)
        obtain ⟨its, rv, p1, _⟩ := I1.tuple hqx
        obtain ⟨its2, rv2, p2, _⟩ := I1.tuple hqy
        obtain ⟨its3, rv3, p3, _⟩ := I1.tuple hqz
        obtain ⟨o1, ho1, _⟩ := id p1
        obtain ⟨o2, ho2, _⟩ := id p2
        obtain ⟨o3, ho3, _⟩ := id p3
        refine zip_begins3 (begins_tuple a its.toArray) (begins_tuple b its2.toArray) (begins_tuple c its3.toArray) p1 p2 p3 fun h' hz hTI hTO g1 g2 g3 hsz hk => wpAny_pyIter_zip hz ?_
        have I2 : Inv X pins σ H1 { s1 with heap := h' } := I1.kept (t' := s1.toks) hk
        exact ⟨s1.heap.objs.size + 5, [s1.heap.objs.size + 5, s1.heap.objs.size + 3, s1.heap.objs.size + 4, s1.heap.objs.size, s1.heap.objs.size + 1, s1.heap.objs.size + 2], _, _, H1, rfl, I2,
          turn_zipT3 (zip_sep3 (fp1 := [a]) (fp2 := [b]) (fp3 := [c]) (fun d hd => by rw [List.mem_singleton.mp hd]; exact Heap.lt_size ho1) (fun d hd => by rw [List.mem_singleton.mp hd]; exact Heap.lt_size ho2) (fun d hd => by rw [List.mem_singleton.mp hd]; exact Heap.lt_size ho3)),
          ⟨hz, hTI, ⟨_, _, _, hTO⟩, ⟨_, g1, rfl, rfl⟩, ⟨_, g2, rfl, rfl⟩, ⟨_, g3, rfl, rfl⟩⟩, fresh6, q⟩
end Sm

set_option maxRecDepth 100000
set_option maxHeartbeats 4000000
namespace Sm
open PySem L2 PyProof.Rows RZ
/-! ### what is walked -/
def ItOk (K : PySem.W.Frag) (F : Hp) (ds : List D) (J : It) : Prop := ∀ F2 H2, Ex F F2 → Ex F2 H2 →
  J.stop ds.length H2 ∧ ∀ k d, ds[k]? = some d → J.go k H2 ∧ ∀ v H3, J.yld k H2 v H3 → ∃ F3, Grow F2 H2 F3 H3 ∧ RD K F3 v d
def rlI (K : PySem.W.Frag) : Rl (List D) It := ⟨fun _ _ ds F _ _ J => ItOk K F ds J, fun _ _ _ _ _ _ _ _ _ h => h⟩
abbrev tI (C : Ctx) (m : M (List D)) : TI := Go C (rlI C.K) m
theorem PI.imp {X : Cx} {tg e : Expr} {t t' : TI} (h : PI X tg e t) (i : ∀ σ H R, t' σ H R → t σ H R) : PI X tg e t' := ⟨fun pins s σ H R I w => h.run pins s σ H R I (i σ H R w)⟩
section
variable {X : Cx} {C : Ctx} {sc : Scope} {tb : Tab} {N : List Str} {Φ : Nat → Spec} {cs : Nat → D}
/-- a list or a tuple -/
def iSeq (K : PySem.W.Frag) (tl : TE) : TI := fun σ H R => tl σ H fun x H1 => ∃ a, x = .ref a ∧ ((∃ xs, SqL K H1 a xs ∧ R (Itl K a) H1) ∨ (∃ xs, SqT K H1 a xs ∧ R (Itt K a) H1))
theorem pi_seq {tg l : Expr} {tl : TE} (hl : PE X l tl) : PI X tg l (iSeq X.K tl) := by
  refine ⟨fun pins s σ H R I h => thn (hl.run pins s σ H _ I h) fun v s1 ⟨x, H1, I1, r1, a, ex, q⟩ => ?_⟩
  subst ex
  cases r1
  have fp : ∀ b ∈ [s1.heap.objs.size], FpOk X pins H1 b := fun b hb => by
    rw [List.mem_singleton.mp hb]
    exact I1.fpOk (Nat.le_refl _) (I1.hok.fresh (Nat.le_refl _))
  rcases q with ⟨xs, hq, q⟩ | ⟨xs, hq, q⟩
  · obtain ⟨its, rv, p, hz⟩ := I1.list hq
    exact wpAny_pyIter_list p.isList ⟨_, [s1.heap.objs.size], _, _, H1, rfl, I1.kept (t' := s1.toks) fun b o e => Heap.get?_push_of_some _ e, turn_list a _, ⟨_, Heap.get?_push_size _ rfl, rfl, rfl⟩, fp, q⟩
  · obtain ⟨its, rv, p, hz⟩ := I1.tuple hq
    exact wpAny_pyIter_tuple (show s1.heap.IsTuple a its.toArray from p) ⟨_, [s1.heap.objs.size], _, _, H1, rfl, I1.kept (t' := s1.toks) fun b o e => Heap.get?_push_of_some _ e, turn_tuple a _, ⟨_, Heap.get?_push_size _ rfl, rfl, rfl⟩, fp, q⟩
theorem it_list {K : PySem.W.Frag} {F : Hp} {a : Addr} {vs : List V} {ds : List D} (h : Rd F a (.lst vs)) (r : RDs K F vs ds) : ItOk K F ds (Itl K a) := by
  intro F2 H2 f fh
  have hl : SqL K H2 a vs := .inl (fh.rd (f.rd h))
  refine ⟨⟨vs, hl, Nat.le_of_eq r.len⟩, fun k d e => ?_⟩
  obtain ⟨v, h1, h2⟩ := r.get e
  refine ⟨⟨vs, v, hl, h1⟩, fun u H3 ⟨e3, y⟩ => ?_⟩
  subst e3
  have : some v = some u := h1.symm.trans (y vs hl)
  cases this
  exact ⟨F2, .refl fh, RD.mono f d v h2⟩
theorem it_tup {K : PySem.W.Frag} {F : Hp} {a : Addr} {vs : List V} {ds : List D} (h : SqT K F a vs) (r : RDs K F vs ds) : ItOk K F ds (Itt K a) := by
  intro F2 H2 f fh
  have hl : SqT K H2 a vs := fh.t (f.t h)
  refine ⟨⟨vs, hl, Nat.le_of_eq r.len⟩, fun k d e => ?_⟩
  obtain ⟨v, h1, h2⟩ := r.get e
  refine ⟨⟨vs, v, hl, h1⟩, fun u H3 ⟨e3, y⟩ => ?_⟩
  subst e3
  have : some v = some u := h1.symm.trans (y vs hl)
  cases this
  exact ⟨F2, .refl fh, RD.mono f d v h2⟩
theorem sSqI (g : Good X C sc tb N Φ cs) {ma : E} {tg a : Expr} (ha : PE X a (tE C (evE Φ cs ma))) : PI X tg a (tI C (evI Φ cs (.sq ma))) := by
  refine PI.imp (pi_seq ha) fun σ H R h => ?_
  refine goFrz h fun d F1 env1 H1 v r1 n1 hd h => ?_
  obtain ⟨ds, ed, q⟩ := h.opt
  rw [g.k]
  cases d <;> simp only [seqD, reduceCtorEq, Option.some.injEq] at ed
  · subst ed
    obtain ⟨p, vs, rfl, hp, rp⟩ := hd
    exact ⟨p, rfl, .inl ⟨vs, .inl (r1.fh.rd hp), q _ F1 H1 r1 .refl (it_list hp rp)⟩⟩
  · subst ed
    obtain ⟨p, vs, rfl, hp, rp⟩ := hd
    exact ⟨p, rfl, .inr ⟨vs, r1.fh.t hp, q _ F1 H1 r1 .refl (it_tup hp rp)⟩⟩
theorem it_range {K : PySem.W.Frag} {F : Hp} {lo hi : Int} : ItOk K F (rangeD lo hi) (Itr lo (hi - lo).toNat) := by
  intro F2 H2 f fh
  have hl : (rangeD lo hi).length = (hi - lo).toNat := by unfold rangeD; rw [List.length_map, List.length_range]
  refine ⟨Nat.le_of_eq hl.symm, fun k d e => ?_⟩
  have hk : k < (hi - lo).toNat := by rw [← hl]; exact (List.getElem?_eq_some_iff.mp e).1
  refine ⟨hk, fun u H3 ⟨e3, y⟩ => ?_⟩
  subst e3 y
  unfold rangeD at e
  rw [List.getElem?_map, List.getElem?_range hk] at e
  cases e
  exact ⟨F2, .refl fh, rfl⟩
theorem inR_of {i : Int} (h : inR i = true) : -(2 ^ 62) ≤ i ∧ i < 2 ^ 62 := by
  have h := Nat.le_of_ble_eq_true h
  omega
theorem sR1I (g : Good X C sc tb N Φ cs) {ma : E} {tg a : Expr} {x : Str} {p pos : Pos} (hx : x = "range") (hg : glB sc x = true) (ha : PE X a (tE C (evE Φ cs ma))) (ka : okE a = true) : PI X tg (.Call (.Name x p) [a] [] pos) (tI C (evI Φ cs (.r1 ma))) := by
  subst hx
  refine PI.imp (pi_range1 (g.gl hg) (g.bi _ (by decide +kernel)) (pa_cons ha pa_nil (ok_star ka [] _)) (ok_star ka [] _)) fun σ H R h => ?_
  refine go1 (rl := rlE C.K C.G) h fun x F1 env1 H1 v r1 _ hx h => ?_
  obtain ⟨d, ed, h⟩ := h.rd
  obtain ⟨r, er, q⟩ := h.opt
  have ro := hx.1.ro r1 ed
  cases d <;> simp only [r1D, reduceCtorEq] at er
  obtain ⟨c, rfl⟩ := ifs er
  have hv := ro.int
  subst hv
  obtain ⟨c1, c2⟩ := inR_of c
  have := q _ F1 H1 r1 .refl (it_range (lo := 0))
  rw [Int.sub_zero] at this
  exact ⟨_, rfl, c1, c2, this⟩
theorem sR2I (g : Good X C sc tb N Φ cs) {ma mb : E} {tg a b : Expr} {x : Str} {p pos : Pos} (hx : x = "range") (hg : glB sc x = true) (ha : PE X a (tE C (evE Φ cs ma))) (hb : PE X b (tE C (evE Φ cs mb))) (ka : okE a = true) (kb : okE b = true) :
    PI X tg (.Call (.Name x p) [a, b] [] pos) (tI C (evI Φ cs (.r2 ma mb))) := by
  subst hx
  have sb := ok_star kb [] X.env
  refine PI.imp (pi_range2 (g.gl hg) (g.bi _ (by decide +kernel)) (pa_cons ha (pa_cons hb pa_nil sb) (ok_star ka [b] _)) ((ok_star ka [b] X.env).trans (by rw [sb]; rfl)) sb) fun σ H R h => ?_
  refine go1 (rl := rlE C.K C.G) h fun x F1 env1 H1 v r1 _ hx h => ?_
  refine go1s (rl := rlE C.K C.G) r1 h fun y F2 env2 H2 u r2 s2 hy h => ?_
  obtain ⟨d, ed, h⟩ := h.rd
  obtain ⟨d', ed', h⟩ := h.rd
  obtain ⟨r, er, q⟩ := h.opt
  have ro := (hx.1.lift s2).ro r2 ed
  have ro' := hy.1.ro r2 ed'
  cases d <;> cases d' <;> simp only [r2D, reduceCtorEq] at er
  obtain ⟨c, rfl⟩ := ifs er
  rw [Bool.and_eq_true] at c
  have hv := ro.int
  have hu := ro'.int
  subst hv hu
  obtain ⟨c1, c2⟩ := inR_of c.1
  obtain ⟨c3, c4⟩ := inR_of c.2
  exact ⟨_, _, rfl, ⟨c1, c2, c3, c4⟩, q _ F2 H2 r2 .refl it_range⟩
theorem pairs_get : ∀ {xs ys : List D} {k : Nat} {d : D}, (pairs xs ys)[k]? = some d → ∃ x y, xs[k]? = some x ∧ ys[k]? = some y ∧ d = .tuple [x, y]
  | [], _, _, _, h => by simp [pairs] at h
  | _ :: _, [], _, _, h => by simp [pairs] at h
  | x :: xs, y :: ys, 0, d, h => by
    simp only [pairs, List.getElem?_cons_zero, Option.some.injEq] at h
    exact ⟨x, y, rfl, rfl, h.symm⟩
  | x :: xs, y :: ys, k + 1, d, h => by
    obtain ⟨a, b, h1, h2, h3⟩ := pairs_get (xs := xs) (ys := ys) (k := k) (by simpa [pairs] using h)
    exact ⟨a, b, by simpa using h1, by simpa using h2, h3⟩
theorem pairs_len : ∀ (xs ys : List D), (pairs xs ys).length = min xs.length ys.length
  | [], _ => by simp [pairs]
  | _ :: _, [] => by simp [pairs]
  | x :: xs, y :: ys => by simp only [pairs, List.length_cons, pairs_len xs ys]; omega
theorem num_get : ∀ {xs : List D} {n k : Nat} {d : D}, (numbered xs n)[k]? = some d → ∃ x, xs[k]? = some x ∧ d = .tuple [.int ((n + k : Nat) : Int), x]
  | [], _, _, _, h => by simp [numbered] at h
  | x :: xs, n, 0, d, h => by
    simp only [numbered, List.getElem?_cons_zero, Option.some.injEq] at h
    exact ⟨x, rfl, h.symm⟩
  | x :: xs, n, k + 1, d, h => by
    obtain ⟨a, h1, h3⟩ := num_get (xs := xs) (n := n + 1) (k := k) (by simpa [numbered] using h)
    exact ⟨a, by simpa using h1, by rw [h3, show n + 1 + k = n + (k + 1) by omega]⟩
theorem num_len : ∀ (xs : List D) (n : Nat), (numbered xs n).length = xs.length
  | [], _ => rfl
  | x :: xs, n => by simp only [numbered, List.length_cons, num_len xs (n + 1)]
theorem new_pair {K : PySem.W.Frag} {F2 H2 : Hp} {T : Addr} {x y : V} {d e : D} (fh : Ex F2 H2) (hT : H2 T = none) (hx : RD K F2 x d) (hy : RD K F2 y e) : ∃ F3, Grow F2 H2 F3 (upd H2 T (.tup [x, y])) ∧ RD K F3 (.ref T) (.tuple [d, e]) := by
  have f := Ex.upd (o := .tup [x, y]) (fh.free hT)
  exact ⟨upd F2 T (.tup [x, y]), .laid fh hT, T, [x, y], rfl, SqT.of upd_same, x, [y], rfl, RD.mono f _ _ hx, y, [], rfl, RD.mono f _ _ hy, rfl⟩
theorem it_zipL {K : PySem.W.Frag} {F : Hp} {a b : Addr} {vs ws : List V} {ds es : List D} (h : Rd F a (.lst vs)) (r : RDs K F vs ds) (h' : Rd F b (.lst ws)) (r' : RDs K F ws es) : ItOk K F (pairs ds es) (Itz K a b) := by
  intro F2 H2 f fh
  have hl : SqL K H2 a vs := .inl (fh.rd (f.rd h))
  have hl' : SqL K H2 b ws := .inl (fh.rd (f.rd h'))
  refine ⟨⟨vs, ws, hl, hl', ?_⟩, fun k d e => ?_⟩
  · rw [pairs_len, r.len, r'.len]; omega
  · obtain ⟨x, y, h1, h2, rfl⟩ := pairs_get e
    obtain ⟨v, k1, k2⟩ := r.get h1
    obtain ⟨u, k3, k4⟩ := r'.get h2
    refine ⟨⟨vs, ws, v, u, hl, hl', k1, k3⟩, fun z H3 ⟨T, x', y', ez, hT, e3, y1, y2⟩ => ?_⟩
    subst ez e3
    have e1 : some v = some x' := k1.symm.trans (y1 vs hl)
    have e2 : some u = some y' := k3.symm.trans (y2 ws hl')
    cases e1; cases e2
    exact new_pair fh hT (RD.mono f _ _ k2) (RD.mono f _ _ k4)
theorem it_zipT {K : PySem.W.Frag} {F : Hp} {a b : Addr} {vs ws : List V} {ds es : List D} (h : SqT K F a vs) (r : RDs K F vs ds) (h' : SqT K F b ws) (r' : RDs K F ws es) : ItOk K F (pairs ds es) (ItzT K a b) := by
  intro F2 H2 f fh
  have hl : SqT K H2 a vs := fh.t (f.t h)
  have hl' : SqT K H2 b ws := fh.t (f.t h')
  refine ⟨⟨vs, ws, hl, hl', ?_⟩, fun k d e => ?_⟩
  · rw [pairs_len, r.len, r'.len]; omega
  · obtain ⟨x, y, h1, h2, rfl⟩ := pairs_get e
    obtain ⟨v, k1, k2⟩ := r.get h1
    obtain ⟨u, k3, k4⟩ := r'.get h2
    refine ⟨⟨vs, ws, v, u, hl, hl', k1, k3⟩, fun z H3 ⟨T, x', y', ez, hT, e3, y1, y2⟩ => ?_⟩
    subst ez e3
    have e1 : some v = some x' := k1.symm.trans (y1 vs hl)
    have e2 : some u = some y' := k3.symm.trans (y2 ws hl')
    cases e1; cases e2
    exact new_pair fh hT (RD.mono f _ _ k2) (RD.mono f _ _ k4)
theorem sZipI (g : Good X C sc tb N Φ cs) {ma mb : E} {a b : Expr} {elts : List Expr} {kk : Nat} {tpos : Pos} {x : Str} {p pos : Pos} (hx : x = "zip") (hg : glB sc x = true) (ha : PE X a (tE C (evE Φ cs ma))) (hb : PE X b (tE C (evE Φ cs mb))) (ka : okE a = true) (kb : okE b = true) :
    PI X (.Tuple elts kk tpos) (.Call (.Name x p) [a, b] [] pos) (tI C (evI Φ cs (.zip ma mb))) := by
  subst hx
  have sb := ok_star kb [] X.env
  refine PI.imp (pi_zipA (g.gl hg) (g.bi _ (by decide +kernel)) (pa_cons ha (pa_cons hb pa_nil sb) (ok_star ka [b] _)) (ok_star ka [b] _) (by rw [sb]; rfl)) fun σ H R h => ?_
  refine goFrz h fun d F1 env1 H1 v r1 n1 hd h => ?_
  refine goFrzs r1 h fun d' F2 env2 H2 u r2 s2 hd' h => ?_
  obtain ⟨r, er, q⟩ := h.opt
  have hd2 := RD.mono s2.f d v hd
  rw [g.k]
  cases d <;> cases d' <;> simp only [zipD, reduceCtorEq, Option.some.injEq] at er
  · subst er
    obtain ⟨p1, vs, rfl, hp, rp⟩ := hd2
    obtain ⟨p2, ws, rfl, hp', rp'⟩ := hd'
    exact ⟨p1, p2, vs, ws, rfl, .inl ⟨.inl (r2.fh.rd hp), .inl (r2.fh.rd hp'), q _ F2 H2 r2 .refl (it_zipL hp rp hp' rp')⟩⟩
  · subst er
    obtain ⟨p1, vs, rfl, hp, rp⟩ := hd2
    obtain ⟨p2, ws, rfl, hp', rp'⟩ := hd'
    exact ⟨p1, p2, vs, ws, rfl, .inr ⟨r2.fh.t hp, r2.fh.t hp', q _ F2 H2 r2 .refl (it_zipT hp rp hp' rp')⟩⟩
theorem trips_get : ∀ {xs ys zs : List D} {k : Nat} {d : D}, (trips xs ys zs)[k]? = some d → ∃ x y z, xs[k]? = some x ∧ ys[k]? = some y ∧ zs[k]? = some z ∧ d = .tuple [x, y, z]
  | [], _, _, _, _, h => by simp [trips] at h
  | _ :: _, [], _, _, _, h => by simp [trips] at h
  | _ :: _, _ :: _, [], _, _, h => by simp [trips] at h
  | x :: xs, y :: ys, z :: zs, 0, d, h => by
    simp only [trips, List.getElem?_cons_zero, Option.some.injEq] at h
    exact ⟨x, y, z, rfl, rfl, rfl, h.symm⟩
  | x :: xs, y :: ys, z :: zs, k + 1, d, h => by
    obtain ⟨a, b, c, h1, h2, h3, h4⟩ := trips_get (xs := xs) (ys := ys) (zs := zs) (k := k) (by simpa [trips] using h)
    exact ⟨a, b, c, by simpa using h1, by simpa using h2, by simpa using h3, h4⟩
theorem trips_len : ∀ (xs ys zs : List D), (trips xs ys zs).length = min (min xs.length ys.length) zs.length
  | [], _, _ => by simp [trips]
  | _ :: _, [], _ => by simp [trips]
  | _ :: _, _ :: _, [] => by simp [trips]
  | x :: xs, y :: ys, z :: zs => by simp only [trips, List.length_cons, trips_len xs ys zs]; omega
theorem new_trip {K : PySem.W.Frag} {F2 H2 : Hp} {T : Addr} {x y z : V} {d e f : D} (fh : Ex F2 H2) (hT : H2 T = none) (hx : RD K F2 x d) (hy : RD K F2 y e) (hz : RD K F2 z f) : ∃ F3, Grow F2 H2 F3 (upd H2 T (.tup [x, y, z])) ∧ RD K F3 (.ref T) (.tuple [d, e, f]) := by
  have q := Ex.upd (o := .tup [x, y, z]) (fh.free hT)
  exact ⟨upd F2 T (.tup [x, y, z]), .laid fh hT, T, [x, y, z], rfl, SqT.of upd_same, x, [y, z], rfl, RD.mono q _ _ hx, y, [z], rfl, RD.mono q _ _ hy, z, [], rfl, RD.mono q _ _ hz, rfl⟩
theorem it_zip3T {K : PySem.W.Frag} {F : Hp} {a b c : Addr} {vs ws us : List V} {ds es fs : List D} (h : SqT K F a vs) (r : RDs K F vs ds) (h' : SqT K F b ws) (r' : RDs K F ws es) (h'' : SqT K F c us) (r'' : RDs K F us fs) : ItOk K F (trips ds es fs) (ItzT3 K a b c) := by
  intro F2 H2 f fh
  have hl : SqT K H2 a vs := fh.t (f.t h)
  have hl' : SqT K H2 b ws := fh.t (f.t h')
  have hl'' : SqT K H2 c us := fh.t (f.t h'')
  refine ⟨⟨vs, ws, us, hl, hl', hl'', ?_⟩, fun k d e => ?_⟩
  · rw [trips_len, r.len, r'.len, r''.len]
  · obtain ⟨x, y, z, h1, h2, h3, rfl⟩ := trips_get e
    obtain ⟨v, k1, k2⟩ := r.get h1
    obtain ⟨u, k3, k4⟩ := r'.get h2
    obtain ⟨w, k5, k6⟩ := r''.get h3
    refine ⟨⟨vs, ws, us, v, u, w, hl, hl', hl'', k1, k3, k5⟩, fun z H3 ⟨T, x', y', z', ez, hT, e3, y1, y2, y3⟩ => ?_⟩
    subst ez e3
    have e1 : some v = some x' := k1.symm.trans (y1 vs hl)
    have e2 : some u = some y' := k3.symm.trans (y2 ws hl')
    have e3 : some w = some z' := k5.symm.trans (y3 us hl'')
    cases e1; cases e2; cases e3
    exact new_trip fh hT (RD.mono f _ _ k2) (RD.mono f _ _ k4) (RD.mono f _ _ k6)
theorem sZip3I (g : Good X C sc tb N Φ cs) {ma mb mc : E} {a b c : Expr} {elts : List Expr} {kk : Nat} {tpos : Pos} {x : Str} {p pos : Pos} (hx : x = "zip") (hg : glB sc x = true) (ha : PE X a (tE C (evE Φ cs ma))) (hb : PE X b (tE C (evE Φ cs mb))) (hc : PE X c (tE C (evE Φ cs mc))) (ka : okE a = true) (kb : okE b = true) (kc : okE c = true) :
    PI X (.Tuple elts kk tpos) (.Call (.Name x p) [a, b, c] [] pos) (tI C (evI Φ cs (.zip3 ma mb mc))) := by
  subst hx
  have sc' := ok_star kc [] X.env
  have sb := ok_star kb [c] X.env
  refine PI.imp (pi_zip3 (g.gl hg) (g.bi _ (by decide +kernel)) (pa_cons ha (pa_cons hb (pa_cons hc pa_nil sc') sb) (ok_star ka [b, c] _)) (ok_star ka [b, c] _) (by rw [sb, sc']; rfl)) fun σ H R h => ?_
  refine goFrz h fun d F1 env1 H1 v r1 n1 hd h => ?_
  refine goFrzs r1 h fun d' F2 env2 H2 u r2 s2 hd' h => ?_
  refine goFrzs r2 h fun d'' F3 env3 H3 w r3 s3 hd'' h => ?_
  obtain ⟨r, er, q⟩ := h.opt
  have hd2 := RD.mono s3.f _ _ (RD.mono s2.f d v hd)
  have hd3 := RD.mono s3.f d' u hd'
  rw [g.k]
  cases d <;> cases d' <;> cases d'' <;> simp only [zip3D, reduceCtorEq, Option.some.injEq] at er
  subst er
  obtain ⟨p1, vs, rfl, hp, rp⟩ := hd2
  obtain ⟨p2, ws, rfl, hp', rp'⟩ := hd3
  obtain ⟨p3, us, rfl, hp'', rp''⟩ := hd''
  exact ⟨p1, p2, p3, vs, ws, us, rfl, r3.fh.t hp, r3.fh.t hp', r3.fh.t hp'', q _ F3 H3 r3 .refl (it_zip3T hp rp hp' rp' hp'' rp'')⟩
theorem it_enumL {K : PySem.W.Frag} {F : Hp} {a : Addr} {vs : List V} {ds : List D} (h : Rd F a (.lst vs)) (r : RDs K F vs ds) : ItOk K F (numbered ds 0) (Ite K a) := by
  intro F2 H2 f fh
  have hl : SqL K H2 a vs := .inl (fh.rd (f.rd h))
  refine ⟨⟨vs, hl, Nat.le_of_eq (by rw [num_len, r.len])⟩, fun k d e => ?_⟩
  obtain ⟨x, h1, rfl⟩ := num_get e
  obtain ⟨v, k1, k2⟩ := r.get h1
  refine ⟨⟨vs, v, hl, k1⟩, fun z H3 ⟨T, x', ez, hT, e3, y1⟩ => ?_⟩
  subst ez e3
  have e1 : some v = some x' := k1.symm.trans (y1 vs hl)
  cases e1
  rw [Nat.zero_add]
  exact new_pair fh hT rfl (RD.mono f _ _ k2)
theorem it_enumT {K : PySem.W.Frag} {F : Hp} {a : Addr} {vs : List V} {ds : List D} (h : SqT K F a vs) (r : RDs K F vs ds) : ItOk K F (numbered ds 0) (IteT K a) := by
  intro F2 H2 f fh
  have hl : SqT K H2 a vs := fh.t (f.t h)
  refine ⟨⟨vs, hl, by rw [num_len, r.len]⟩, fun k d e => ?_⟩
  obtain ⟨x, h1, rfl⟩ := num_get e
  obtain ⟨v, k1, k2⟩ := r.get h1
  refine ⟨⟨vs, v, hl, k1⟩, fun z H3 ⟨T, x', ez, hT, e3, y1⟩ => ?_⟩
  subst ez e3
  have e1 : some v = some x' := k1.symm.trans (y1 vs hl)
  cases e1
  rw [Nat.zero_add]
  exact new_pair fh hT rfl (RD.mono f _ _ k2)
/-- enumerate of a list or a tuple -/
def iEnumA (K : PySem.W.Frag) (ta : TA) : TI := fun σ H R => ta σ H fun vs H1 => ∃ a, vs = [.ref a] ∧ ((∃ xs, SqL K H1 a xs ∧ R (Ite K a) H1) ∨ (∃ xs, SqT K H1 a xs ∧ R (IteT K a) H1))
theorem pi_enumA {e : Expr} {ta : TA} {p pos tpos : Pos} {elts : List Expr} {kk : Nat} (hg : Gl X "enumerate") (hm : X.mg "enumerate" = none) (ha : PA X [e] ta) (hs : starEach [e] X.env = [(false, eval e X.env)]) :
    PI X (.Tuple elts kk tpos) (.Call (.Name "enumerate" p) [e] [] pos) (iEnumA X.K ta) := by
  refine ⟨fun pins s σ H R I h => ?_⟩
  refine Call_ (ld_blt I hg hm boot_enumerate (PyProof.Rows.callWith_type1 (thn (ha.run pos pins s σ H _ I h) fun us s1 ⟨vs, H1, I1, r1, a, ev, q⟩ => ?_) hs rfl))
  subst ev
  obtain ⟨u, rfl, ru⟩ := vals1 r1
  cases ru
  have fp : ∀ b ∈ [s1.heap.objs.size + 1, s1.heap.objs.size], FpOk X pins H1 b := fun b hb => by
    have hle : s1.heap.objs.size ≤ b := by
      rcases List.mem_cons.mp hb with z | hb
      · rw [z]; exact Nat.le_add_right _ _
      · rw [List.mem_singleton.mp hb]; exact Nat.le_refl _
    exact I1.fpOk hle (I1.hok.fresh hle)
  rcases q with ⟨xs, hq, q⟩ | ⟨xs, hq, q⟩
  · obtain ⟨its, rv, p', hz⟩ := I1.list hq
    refine call_enumerate_list p'.isList fun h' he hit hsz hk => wpAny_pyIter_enum he ?_
    exact ⟨_, _, _, _, H1, rfl, I1.kept (t' := s1.toks) hk, turn_enum a _ _, ⟨⟨.none, he⟩, hit, Nat.succ_ne_self _⟩, fp, q⟩
  · obtain ⟨its, rv, p', hz⟩ := I1.tuple hq
    refine enum_callT (show s1.heap.IsTuple a its.toArray from p') fun h' he hit hk => wpAny_pyIter_enum he ?_
    exact ⟨_, _, _, _, H1, rfl, I1.kept (t' := s1.toks) hk, turn_enumT a _ _, ⟨⟨.none, he⟩, hit, Nat.succ_ne_self _⟩, fp, q⟩
theorem sEnumI (g : Good X C sc tb N Φ cs) {ma : E} {a : Expr} {elts : List Expr} {kk : Nat} {tpos : Pos} {x : Str} {p pos : Pos} (hx : x = "enumerate") (hg : glB sc x = true) (ha : PE X a (tE C (evE Φ cs ma))) (ka : okE a = true) :
    PI X (.Tuple elts kk tpos) (.Call (.Name x p) [a] [] pos) (tI C (evI Φ cs (.enum ma))) := by
  subst hx
  refine PI.imp (pi_enumA (g.gl hg) (g.bi _ (by decide +kernel)) (pa_cons ha pa_nil (ok_star ka [] _)) (ok_star ka [] _)) fun σ H R h => ?_
  refine goFrz h fun d F1 env1 H1 v r1 n1 hd h => ?_
  obtain ⟨r, er, q⟩ := h.opt
  rw [g.k]
  cases d <;> simp only [enumD, reduceCtorEq, Option.some.injEq] at er
  · subst er
    obtain ⟨p1, vs, rfl, hp, rp⟩ := hd
    exact ⟨p1, rfl, .inl ⟨vs, .inl (r1.fh.rd hp), q _ F1 H1 r1 .refl (it_enumL hp rp)⟩⟩
  · subst er
    obtain ⟨p1, vs, rfl, hp, rp⟩ := hd
    exact ⟨p1, rfl, .inr ⟨vs, r1.fh.t hp, q _ F1 H1 r1 .refl (it_enumT hp rp)⟩⟩
end
end Sm

set_option maxRecDepth 100000
set_option maxHeartbeats 4000000
namespace Sm
open PySem L2
/-! ### steps that may turn the slots -/
structure StepS (env : Sm.Env) (σ : St) (F H : Hp) (env' : Sm.Env) (σ' : St) (F' H' : Hp) : Prop where
  f : Ex F F'
  keep : ∀ p o, H p = some o → ¬ OwnA env σ p → H' p = some o
  new : ∀ p, F' p ≠ none → F p ≠ none ∨ H p = none ∨ OwnA env σ p
  own : ∀ p, OwnA env' σ' p → OwnA env σ p ∨ H p = none
  there : ∀ p o, H p = some o → ∃ o', H' p = some o'
section
variable {K : PySem.W.Frag} {G : Gh} {F F' F1 F2 H H' H1 H2 : Hp} {env env' env1 env2 : Sm.Env} {σ σ' σ1 σ2 : St}
theorem Step.s (s : Step env env' σ F H F' H') : StepS env σ F H env' σ F' H' := ⟨s.f, s.keep, s.new, fun p h => .inl (s.own p h), s.there⟩
theorem StepS.refl : StepS env σ F H env σ F H := Step.refl.s
theorem StepS.none (s : StepS env σ F H env' σ' F' H') {p : Addr} (h : H' p = none) : H p = none := by
  cases q : H p with
  | none => rfl
  | some o =>
    obtain ⟨u, e⟩ := s.there p o q
    rw [h] at e; cases e
theorem StepS.trans (a : StepS env σ F H env1 σ1 F1 H1) (b : StepS env1 σ1 F1 H1 env2 σ2 F2 H2) : StepS env σ F H env2 σ2 F2 H2 where
  f := a.f.trans b.f
  keep := fun p o h n => b.keep p o (a.keep p o h n) fun q => by
    rcases a.own p q with z | z
    · exact n z
    · rw [h] at z; cases z
  new := fun p h => by
    rcases b.new p h with h | h | h
    · exact a.new p h
    · exact .inr (.inl (a.none h))
    · rcases a.own p h with z | z
      · exact .inr (.inr z)
      · exact .inr (.inl z)
  own := fun p h => by
    rcases b.own p h with z | z
    · exact a.own p z
    · exact .inr (a.none z)
  there := fun p o h => let ⟨o', h'⟩ := a.there p o h; b.there p o' h'
/-- a slot takes a worth -/
theorem Rel.put {i : Nat} {v : V} {sv : SV} (rel : Rel K G F env σ H) (hi : i < env.length) (na : isArg env i = false) (hs : SlotR K G F H i v sv)
    (nown : ∀ x b, sv = SV.own x b → b = false ∧ ∀ p, v = .ref p → ∀ j y c, j ≠ i → At env j (SV.own y c) → ¬ Sl σ j (.ref p)) : Rel K G F (env.set i (some sv)) (σ.set i (some v)) H := by
  have hσ : i < σ.length := by rw [← rel.len]; exact hi
  have sl_ne : ∀ {j w}, j ≠ i → (Sl (σ.set i (some v)) j w ↔ Sl σ j w) := fun {j w} n => by
    show (σ.set i _)[j]? = _ ↔ σ[j]? = _
    rw [List.getElem?_set_ne (Ne.symm n)]
  have sl_eq : Sl (σ.set i (some v)) i v := by show (σ.set i _)[i]? = _; rw [List.getElem?_set_self hσ]
  refine ⟨rel.fh, rel.f0, rel.keep, rel.new, by rw [List.length_set, List.length_set]; exact rel.len, fun j w h => ?_, fun j k x b y c n h1 h2 z => ?_, fun p hp => ?_⟩
  · rcases at_set h with ⟨rfl, rfl⟩ | ⟨n, h'⟩
    · exact ⟨v, sl_eq, hs⟩
    · obtain ⟨u, k1, k2⟩ := rel.slot j w h'
      exact ⟨u, (sl_ne n).mpr k1, k2⟩
  · rcases at_set h1 with ⟨e1, f1⟩ | ⟨n1, h1'⟩
    · rcases at_set h2 with ⟨e2, f2⟩ | ⟨n2, h2'⟩
      · exact n (e1.trans e2.symm)
      · subst e1; subst f1
        obtain ⟨a, ea, _⟩ := hs
        rw [show (σ.set j (some v))[j]? = some (some v) from sl_eq, ea, List.getElem?_set_ne (Ne.symm n2)] at z
        exact (nown x b rfl).2 a ea k y c n2 h2' z.symm
    · rcases at_set h2 with ⟨e2, f2⟩ | ⟨n2, h2'⟩
      · subst e2; subst f2
        obtain ⟨a, ea, _⟩ := hs
        rw [show (σ.set k (some v))[k]? = some (some v) from sl_eq, ea, List.getElem?_set_ne (Ne.symm n1)] at z
        exact (nown y c rfl).2 a ea j x b n1 h1' z
      · rw [List.getElem?_set_ne (Ne.symm n1), List.getElem?_set_ne (Ne.symm n2)] at z
        exact rel.sep j k x b y c n h1' h2' z
  · obtain ⟨x, h1, h2⟩ := rel.arg p hp
    have n : p.1 ≠ i := fun e => by
      unfold isArg at na
      rw [← e] at na
      rw [show env[p.1]? = some (some (SV.own x true)) from h1] at na
      cases na
    refine ⟨x, ?_, (sl_ne n).mpr h2⟩
    show (env.set i _)[p.1]? = _
    rw [List.getElem?_set_ne (Ne.symm n)]
    exact h1
theorem put_ownA {i : Nat} {v : V} {x : D} {p : Addr} (h : OwnA (env.set i (some (.d x))) (σ.set i (some v)) p) : OwnA env σ p := by
  obtain ⟨j, y, b, h1, h2⟩ := h
  rcases at_set h1 with ⟨_, e⟩ | ⟨n, h1⟩
  · cases e
  · refine ⟨j, y, b, h1, ?_⟩
    have h2 : (σ.set i (some v))[j]? = _ := h2
    rw [List.getElem?_set_ne (Ne.symm n)] at h2
    exact h2
theorem setAt_some {i : Nat} {sv : SV} (h : setAt env i sv = some env') : i < env.length ∧ isArg env i = false ∧ env' = env.set i (some sv) := by
  unfold setAt at h
  cases hq : env[i]? with
  | none => rw [hq] at h; cases h
  | some q =>
    rw [hq] at h
    have hl : i < env.length := (List.getElem?_eq_some_iff.mp hq).1
    unfold isArg
    rw [hq]
    cases q with
    | none => cases h; exact ⟨hl, rfl, rfl⟩
    | some w =>
      cases w with
      | d _ => cases h; exact ⟨hl, rfl, rfl⟩
      | exc _ => cases h; exact ⟨hl, rfl, rfl⟩
      | own x b =>
        cases b with
        | false => cases h; exact ⟨hl, rfl, rfl⟩
        | true => cases h
end
/-! ### targets -/
/-- a datum is stored -/
def tG (C : Ctx) (t : T) : TG := fun v σ H Q => ∃ F env x env', Rel C.K C.G F env σ H ∧ RD C.K F v x ∧ asg t (.d x) env = some (.ok (), env') ∧
  ∀ σ', Rel C.K C.G F env' σ' H → StepS env σ F H env' σ' F H → (∀ p, OwnA env' σ' p → OwnA env σ p) → σ'.length = σ.length → (∀ j, j ∉ slT t → σ'[j]? = σ[j]?) → Q σ' H
def tGs (C : Ctx) (ts : Ts) : TGs := fun vs σ H Q => ∃ F env xs env', Rel C.K C.G F env σ H ∧ RDs C.K F vs xs ∧ asgs ts xs env = some (.ok (), env') ∧
  ∀ σ', Rel C.K C.G F env' σ' H → StepS env σ F H env' σ' F H → (∀ p, OwnA env' σ' p → OwnA env σ p) → σ'.length = σ.length → (∀ j, j ∉ slTs ts → σ'[j]? = σ[j]?) → Q σ' H
theorem PG.imp {X : Cx} {e : Expr} {t t' : TG} (h : PG X e t) (i : ∀ v σ H Q, t' v σ H Q → t v σ H Q) : PG X e t' := ⟨fun pins s σ H v u Q I r w => h.run pins s σ H v u Q I r (i v σ H Q w)⟩
theorem PGs.imp {X : Cx} {e : List Expr} {t t' : TGs} (h : PGs X e t) (i : ∀ v σ H Q, t' v σ H Q → t v σ H Q) : PGs X e t' := ⟨fun pins s σ H v u Q I r w => h.run pins s σ H v u Q I r (i v σ H Q w)⟩
section
variable {X : Cx} {C : Ctx} {sc : Scope} {tb : Tab} {N : List Str} {Φ : Nat → Spec} {cs : Nat → D} {fnB : Str → Bool}
theorem tg_shape {t : T} {e : Expr} (h : chTg N sc fnB t e = true) : (∃ x p, e = .Name x p) ∨ ∃ es k p, e = .Tuple es k p := by
  cases t <;> cases e <;> first | exact .inl ⟨_, _, rfl⟩ | exact .inr ⟨_, _, _, rfl⟩ | (simp [chTg] at h)
theorem tgs_shape : ∀ (ts : Ts) (es : List Expr) (env : PySem.Env), chTgs N sc fnB ts es = true → (assignEach es env).length = es.length ∧ (assignEach es env).findIdx? (·.1) = none
  | .nil, [], env, _ => ⟨rfl, rfl⟩
  | .nil, _ :: _, env, h => by simp [chTgs] at h
  | .cons _ _, [], env, h => by simp [chTgs] at h
  | .cons t r, e :: es, env, h => by
    have h' : chTg N sc fnB t e = true ∧ chTgs N sc fnB r es = true := by simpa [chTgs] using h
    obtain ⟨h1, h2⟩ := tgs_shape r es env h'.2
    rcases tg_shape h'.1 with ⟨x, p, rfl⟩ | ⟨es', k, p, rfl⟩
    · constructor
      · show (assignEach es env).length + 1 = _; rw [h1]; rfl
      · show List.findIdx? _ ((false, _) :: assignEach es env) = _
        rw [List.findIdx?_cons]
        simp [h2]
    · constructor
      · show (assignEach es env).length + 1 = _; rw [h1]; rfl
      · show List.findIdx? _ ((false, _) :: assignEach es env) = _
        rw [List.findIdx?_cons]
        simp [h2]
mutual
theorem sTg (g : Good X C sc tb N Φ cs) (hf : ∀ x, fnB x = true → X.fn x = true) : ∀ (t : T) (e : Expr), chTg N sc fnB t e = true → PG X e (tG C t)
  | .nm i, .Name x p, h => by
    simp only [chTg, Bool.and_eq_true, decide_eq_true_eq] at h
    obtain ⟨h1, h2⟩ := h
    have hl : Loc X.env.scope x ∧ (X.fn x = true ∨ X.env.scope.names.lookup x = some .local) := by
      rw [g.sc]
      split at h2
      · rename_i q; exact ⟨.inl q, .inr q⟩
      · rename_i q
        exact ⟨.inr q, .inl (hf x h2)⟩
      · cases h2
    refine PG.imp (pg_name (i := i) (by rw [g.n]; exact g.nd) (by rw [g.n]; exact h1) hl.1 hl.2) fun v σ H Q ⟨F, env, d, env', rel, hd, ea, q⟩ => ?_
    have ea : (match (R.d d).sv env with | none => none | some (v, e1) => match setAt e1 i v with | none => none | some e2 => some (Out.ok (), e2)) = some (Out.ok (), env') := ea
    have ea : (match setAt env i (.d d) with | none => none | some e2 => some (Out.ok (), e2)) = some (Out.ok (), env') := ea
    cases z : setAt env i (.d d) with
    | none => rw [z] at ea; cases ea
    | some e2 =>
      rw [z] at ea
      cases ea
      obtain ⟨k1, k2, rfl⟩ := setAt_some z
      refine q _ (rel.put k1 k2 hd fun x b e => nomatch e) ⟨.refl _, fun _ _ h _ => h, fun _ h => .inl h, fun p h => .inl (put_ownA h), fun _ o h => ⟨o, h⟩⟩ (fun p h => put_ownA h) (by rw [List.length_set]) fun j hj => ?_
      rw [List.getElem?_set_ne]
      intro e
      exact hj (by rw [← e]; exact List.mem_singleton.mpr rfl)
  | .tup ts, .Tuple es k p, h => by
    have h : chTgs N sc fnB ts es = true := h
    obtain ⟨k1, k2⟩ := tgs_shape ts es X.env h
    refine PG.imp (pg_tup g.calm (sTgs g hf ts es h) k1 k2) fun v σ H Q ⟨F, env, d, env', rel, hd, ea, q⟩ => ?_
    have ea : (match (R.d d).rd env with | some (.tuple xs) => asgs ts xs env | _ => none) = some (Out.ok (), env') := ea
    cases d with
    | tuple xs => ?_
    | _ => cases ea
    obtain ⟨a, vs, rfl, ha, ra⟩ := hd
    rw [g.k]
    refine ⟨a, vs, rfl, rel.fh.t ha, ?_, F, env, xs, env', rel, ra, ea, q⟩
    rw [ra.len]
    exact asgs_len ts es xs env env' h ea
  | .nm _, .BoolOp .., h | .nm _, .NamedExpr .., h | .nm _, .BinOp .., h | .nm _, .UnaryOp .., h | .nm _, .Lambda .., h | .nm _, .IfExp .., h | .nm _, .Dict .., h | .nm _, .Set .., h | .nm _, .ListComp .., h | .nm _, .SetComp .., h
  | .nm _, .DictComp .., h | .nm _, .GeneratorExp .., h | .nm _, .Await .., h | .nm _, .Yield .., h | .nm _, .YieldFrom .., h | .nm _, .Compare .., h | .nm _, .Call .., h | .nm _, .FormattedValue .., h | .nm _, .JoinedStr .., h
  | .nm _, .Constant .., h | .nm _, .Attribute .., h | .nm _, .Subscript .., h | .nm _, .Starred .., h | .nm _, .List .., h | .nm _, .Tuple .., h | .nm _, .Slice .., h => by simp [chTg] at h
  | .tup _, .BoolOp .., h | .tup _, .NamedExpr .., h | .tup _, .BinOp .., h | .tup _, .UnaryOp .., h | .tup _, .Lambda .., h | .tup _, .IfExp .., h | .tup _, .Dict .., h | .tup _, .Set .., h | .tup _, .ListComp .., h | .tup _, .SetComp .., h
  | .tup _, .DictComp .., h | .tup _, .GeneratorExp .., h | .tup _, .Await .., h | .tup _, .Yield .., h | .tup _, .YieldFrom .., h | .tup _, .Compare .., h | .tup _, .Call .., h | .tup _, .FormattedValue .., h | .tup _, .JoinedStr .., h
  | .tup _, .Constant .., h | .tup _, .Attribute .., h | .tup _, .Subscript .., h | .tup _, .Starred .., h | .tup _, .List .., h | .tup _, .Name .., h | .tup _, .Slice .., h => by simp [chTg] at h
theorem sTgs (g : Good X C sc tb N Φ cs) (hf : ∀ x, fnB x = true → X.fn x = true) : ∀ (ts : Ts) (es : List Expr), chTgs N sc fnB ts es = true → PGs X es (tGs C ts)
  | .nil, [], _ => PGs.imp pgs_nil fun vs σ H Q ⟨F, env, xs, env', rel, hd, ea, q⟩ => by
    cases xs with
    | nil =>
      have ea : some (Out.ok (), env) = some (Out.ok (), env') := ea
      cases ea
      exact ⟨hd, q σ rel .refl (fun _ h => h) rfl fun _ _ => rfl⟩
    | cons _ _ => cases ea
  | .nil, _ :: _, h => by simp [chTgs] at h
  | .cons _ _, [], h => by simp [chTgs] at h
  | .cons t r, e :: es, h => by
    have h' : chTg N sc fnB t e = true ∧ chTgs N sc fnB r es = true := by simpa [chTgs] using h
    refine PGs.imp (pgs_cons (sTg g hf t e h'.1) (sTgs g hf r es h'.2) ?_) fun vs σ H Q ⟨F, env, xs, env', rel, hd, ea, q⟩ => ?_
    · rcases tg_shape h'.1 with ⟨x, p, rfl⟩ | ⟨es', k, p, rfl⟩ <;> rfl
    · cases xs with
      | nil => cases ea
      | cons x xs =>
        obtain ⟨v, ws, rfl, h1, h2⟩ := hd
        have ea : (match asg t (.d x) env with | some (.ok (), e1) => asgs r xs e1 | _ => none) = some (Out.ok (), env') := ea
        split at ea
        · rename_i e1 z
          refine ⟨v, ws, rfl, F, env, x, e1, rel, h1, z, fun σ1 rel1 st1 w1 l1 o1 => ⟨F, e1, xs, env', rel1, h2, ea, fun σ2 rel2 st2 w2 l2 o2 => q σ2 rel2 (st1.trans st2) (fun p h => w1 p (w2 p h)) (l2.trans l1) fun j hj => ?_⟩⟩
          have hj' : j ∉ slT t ∧ j ∉ slTs r := by simpa [slTs] using hj
          rw [o2 j hj'.2, o1 j hj'.1]
        · cases ea
theorem asgs_len : ∀ (ts : Ts) (es : List Expr) (xs : List D) (env env' : Sm.Env), chTgs N sc fnB ts es = true → asgs ts xs env = some (Out.ok (), env') → xs.length = es.length
  | .nil, [], [], _, _, _, _ => rfl
  | .nil, [], _ :: _, _, _, _, h => by cases h
  | .nil, _ :: _, _, _, _, h, _ => by simp [chTgs] at h
  | .cons _ _, [], _, _, _, h, _ => by simp [chTgs] at h
  | .cons _ _, _ :: _, [], _, _, _, h => by cases h
  | .cons t r, e :: es, x :: xs, env, env', h, ea => by
    have h' : chTg N sc fnB t e = true ∧ chTgs N sc fnB r es = true := by simpa [chTgs] using h
    have ea : (match asg t (.d x) env with | some (.ok (), e1) => asgs r xs e1 | _ => none) = some (Out.ok (), env') := ea
    split at ea
    · simp only [List.length_cons]
      rw [asgs_len r es xs _ env' h'.2 ea]
    · cases ea
end
end
end Sm

set_option maxRecDepth 100000
set_option maxHeartbeats 4000000
namespace Sm
open PySem L2
/-! ### comprehensions -/
theorem wipe_in {σ : St} {i : Nat} {vs : List Nat} (h : i ∈ vs) (v : V) : (wipe σ vs)[i]? ≠ some (some v) := fun e => (wipe_some e).2 h
theorem wipe_off {i : Nat} : ∀ {σ : St} {vs : List Nat}, i ∉ vs → (wipe σ vs)[i]? = σ[i]?
  | _, [], _ => rfl
  | σ, v :: vs, h => by
    unfold wipe
    rw [List.getElem?_set_ne (fun e => h (by rw [e]; exact List.mem_cons_self))]
    exact wipe_off fun m => h (List.mem_cons_of_mem _ m)
theorem wipeE_out {i : Nat} : ∀ {vs : List Nat} {e : Sm.Env}, i ∉ vs → (wipeE e vs)[i]? = e[i]?
  | [], _, _ => rfl
  | v :: vs, e, h => by
    show (wipeE (e.set v none) vs)[i]? = _
    rw [wipeE_out fun m => h (List.mem_cons_of_mem _ m), List.getElem?_set_ne (fun q => h (by rw [q]; exact List.mem_cons_self))]
theorem wipeE_in {i : Nat} {sv : SV} : ∀ {vs : List Nat} {e : Sm.Env}, At (wipeE e vs) i sv → i ∉ vs ∧ At e i sv
  | [], _, h => ⟨by simp, h⟩
  | v :: vs, e, h => by
    have h : At (wipeE (e.set v none) vs) i sv := h
    obtain ⟨h1, h2⟩ := wipeE_in h
    by_cases q : v = i
    · subst q
      have h2 : (e.set v none)[v]? = some (some sv) := h2
      by_cases hv : v < e.length
      · rw [List.getElem?_set_self hv] at h2; cases h2
      · rw [List.getElem?_eq_none (by simpa using hv)] at h2; cases h2
    · have h2 : (e.set v none)[i]? = some (some sv) := h2
      rw [List.getElem?_set_ne q] at h2
      exact ⟨by simp only [List.mem_cons, not_or]; exact ⟨fun e => q e.symm, h1⟩, h2⟩
theorem wipeE_len : ∀ {vs : List Nat} {e : Sm.Env}, (wipeE e vs).length = e.length
  | [], _ => rfl
  | v :: vs, e => by
    show (wipeE (e.set v none) vs).length = _
    rw [wipeE_len, List.length_set]
theorem unwipe_len : ∀ {vs : List Nat} {e0 e : Sm.Env}, (unwipe e0 e vs).length = e.length
  | [], _, _ => rfl
  | v :: vs, e0, e => by
    show (unwipe e0 (e.set v _) vs).length = _
    rw [unwipe_len, List.length_set]
theorem unwipe_out {i : Nat} : ∀ {vs : List Nat} {e0 e : Sm.Env}, i ∉ vs → (unwipe e0 e vs)[i]? = e[i]?
  | [], _, _, _ => rfl
  | v :: vs, e0, e, h => by
    show (unwipe e0 (e.set v _) vs)[i]? = _
    rw [unwipe_out fun m => h (List.mem_cons_of_mem _ m), List.getElem?_set_ne (fun q => h (by rw [q]; exact List.mem_cons_self))]
theorem unwipe_in {i : Nat} : ∀ {vs : List Nat} {e0 e : Sm.Env}, e.length = e0.length → i ∈ vs → (unwipe e0 e vs)[i]? = e0[i]?
  | v :: vs, e0, e, hl, h => by
    show (unwipe e0 (e.set v _) vs)[i]? = _
    by_cases m : i ∈ vs
    · exact unwipe_in (by rw [List.length_set]; exact hl) m
    · rw [unwipe_out m]
      have : i = v := by
        rcases List.mem_cons.mp h with q | q
        · exact q
        · exact absurd q m
      subst this
      by_cases hv : i < e.length
      · rw [List.getElem?_set_self hv]
        rw [List.getD_eq_getElem?_getD, List.getElem?_eq_getElem (by rw [← hl]; exact hv)]
        rfl
      · rw [List.getElem?_eq_none (by simpa using hv), List.getElem?_eq_none (by rw [← hl]; simpa using hv)]
section
variable {K : PySem.W.Frag} {G : Gh} {F F' F1 F2 H H' H1 H2 : Hp} {env env' e1 e2 e5 : Sm.Env} {σ σ2 : St} {own : List Nat}
theorem Rel.wiped (rel : Rel K G F env σ H) (na : own.any (isArg env) = false) : Rel K G F (wipeE env own) (wipe σ own) H where
  fh := rel.fh
  f0 := rel.f0
  keep := rel.keep
  new := rel.new
  len := by rw [wipeE_len, wipe_length]; exact rel.len
  slot := fun i sv h => by
    obtain ⟨h1, h2⟩ := wipeE_in h
    obtain ⟨v, h3, h4⟩ := rel.slot i sv h2
    exact ⟨v, (wipe_off h1).trans h3, h4⟩
  sep := fun i j x b y c n h1 h2 => by
    obtain ⟨k1, k2⟩ := wipeE_in h1
    obtain ⟨k3, k4⟩ := wipeE_in h2
    rw [wipe_off k1, wipe_off k3]
    exact rel.sep i j x b y c n k2 k4
  arg := fun p hp => by
    obtain ⟨x, h1, h2⟩ := rel.arg p hp
    have : p.1 ∉ own := fun m => by
      have := List.any_eq_false.mp na p.1 m
      unfold isArg at this
      rw [show env[p.1]? = some (some (SV.own x true)) from h1] at this
      exact this rfl
    exact ⟨x, (wipeE_out this).trans h1, (wipe_off this).trans h2⟩
theorem wiped_ownA {p : Addr} (h : OwnA (wipeE env own) (wipe σ own) p) : ∃ i x b, i ∉ own ∧ At env i (SV.own x b) ∧ Sl σ i (V.ref p) := by
  obtain ⟨i, x, b, h1, h2⟩ := h
  obtain ⟨k1, k2⟩ := wipeE_in h1
  exact ⟨i, x, b, k1, k2, (wipe_off k1).symm.trans h2⟩
/-- behind a turn -/
theorem Rel.unwiped (rel : Rel K G F env σ H) (na : own.any (isArg env) = false) (rel5 : Rel K G F' e5 σ2 H') (st : StepS (wipeE env own) (wipe σ own) F H e5 σ2 F' H') (sw : ∀ p, OwnA e5 σ2 p → OwnA (wipeE env own) (wipe σ own) p)
    (hw : wipe σ2 own = wipe σ own) : Rel K G F' (unwipe env e5 own) σ H' ∧ Step env (unwipe env e5 own) σ F H F' H' := by
  have l2 : σ2.length = σ.length := by rw [← wipe_length σ2 own, hw, wipe_length]
  have le : e5.length = env.length := by rw [rel5.len, l2, rel.len]
  have same : ∀ {j}, j ∉ own → σ2[j]? = σ[j]? := fun {j} h => by rw [← wipe_off (σ := σ2) h, hw, wipe_off h]
  have toOwn : ∀ p, OwnA (wipeE env own) (wipe σ own) p → OwnA env σ p := fun p h => by
    obtain ⟨i, x, b, _, h1, h2⟩ := wiped_ownA h
    exact ⟨i, x, b, h1, h2⟩
  have at_ : ∀ {i sv}, At (unwipe env e5 own) i sv → (i ∈ own ∧ At env i sv) ∨ (i ∉ own ∧ At e5 i sv) := fun {i sv} h => by
    have h : (unwipe env e5 own)[i]? = _ := h
    by_cases m : i ∈ own
    · rw [unwipe_in le m] at h; exact .inl ⟨m, h⟩
    · rw [unwipe_out m] at h; exact .inr ⟨m, h⟩
  have mixed : ∀ {i j x b y c}, i ∈ own → At env i (SV.own x b) → j ∉ own → At e5 j (SV.own y c) → σ[i]? ≠ σ[j]? := fun {i j x b y c} mi hi mj hj e => by
    obtain ⟨a, h1, _⟩ := rel.ownAt hi
    have : OwnA e5 σ2 a := ⟨j, y, c, hj, (same mj).trans (e.symm.trans h1)⟩
    obtain ⟨k, z, d, mk, k1, k2⟩ := wiped_ownA (sw a this)
    exact rel.sep i k x b z d (fun q => mk (by rw [← q]; exact mi)) hi k1 (h1.trans k2.symm)
  refine ⟨⟨rel5.fh, rel5.f0, rel5.keep, rel5.new, by rw [unwipe_len, le, rel.len], fun i sv h => ?_, fun i j x b y c n h1 h2 => ?_, fun p hp => ?_⟩, ⟨st.f, fun p o h n => st.keep p o h fun q => n (toOwn p q), fun p h => ?_, fun p h => ?_, st.there⟩⟩
  · rcases at_ h with ⟨m, h⟩ | ⟨m, h⟩
    · obtain ⟨v, h1, h2⟩ := rel.slot i sv h
      refine ⟨v, h1, h2.mono st.f fun a ea ⟨x, b, es⟩ => ?_⟩
      subst ea es
      obtain ⟨k1, o, k2⟩ := rel.ownSome ⟨i, x, b, h, h1⟩
      have no : ¬ OwnA (wipeE env own) (wipe σ own) a := fun q => by
        obtain ⟨k, z, d, mk, g1, g2⟩ := wiped_ownA q
        exact rel.sep i k x b z d (fun q => mk (by rw [← q]; exact m)) h g1 (h1.trans g2.symm)
      refine ⟨?_, (st.keep a o k2 no).trans k2.symm⟩
      cases q : F' a with
      | none => rfl
      | some u =>
        rcases st.new a (by rw [q]; simp) with z | z | z
        · exact absurd k1 z
        · rw [k2] at z; cases z
        · exact absurd z no
    · obtain ⟨v, h1, h2⟩ := rel5.slot i sv h
      exact ⟨v, (same m).symm.trans h1, h2⟩
  · rcases at_ h1 with ⟨m1, h1⟩ | ⟨m1, h1⟩ <;> rcases at_ h2 with ⟨m2, h2⟩ | ⟨m2, h2⟩
    · exact rel.sep i j x b y c n h1 h2
    · exact mixed m1 h1 m2 h2
    · exact fun e => mixed m2 h2 m1 h1 e.symm
    · have := rel5.sep i j x b y c n h1 h2
      rw [same m1, same m2] at this
      exact this
  · obtain ⟨x, h1, h2⟩ := rel5.arg p hp
    obtain ⟨y, k1, _⟩ := rel.arg p hp
    have m : p.1 ∉ own := fun m => by
      have := List.any_eq_false.mp na p.1 m
      unfold isArg at this
      rw [show env[p.1]? = some (some (SV.own y true)) from k1] at this
      exact this rfl
    exact ⟨x, (unwipe_out m).trans h1, (same m).symm.trans h2⟩
  · rcases st.new p h with h | h | h
    · exact .inl h
    · exact .inr (.inl h)
    · exact .inr (.inr (toOwn p h))
  · obtain ⟨i, x, b, h1, h2⟩ := h
    rcases at_ h1 with ⟨m, h1⟩ | ⟨m, h1⟩
    · exact ⟨i, x, b, h1, h2⟩
    · exact toOwn p (sw p ⟨i, x, b, h1, (same m).trans h2⟩)
/-- the list under way is another -/
theorem Rel.upd_at {D : Addr} {o : HO} (rel : Rel K G F env σ H) (hF : F D = none) (h0 : G.H0 D = none) (hn : ¬ OwnA env σ D) : Rel K G F env σ (upd H D o) where
  fh := fun a u e => by
    have : a ≠ D := fun q => by rw [q, hF] at e; cases e
    rw [upd_ne this]; exact rel.fh a u e
  f0 := rel.f0
  keep := fun b u h n => by
    have : b ≠ D := fun q => by rw [q, h0] at h; cases h
    rw [upd_ne this]; exact rel.keep b u h n
  new := rel.new
  len := rel.len
  slot := fun i sv h => by
    obtain ⟨v, h1, h2⟩ := rel.slot i sv h
    refine ⟨v, h1, h2.mono (.refl _) fun a ea ⟨x, b, es⟩ => ?_⟩
    subst ea es
    have : a ≠ D := fun q => hn ⟨i, x, b, h, by rw [← q]; exact h1⟩
    rw [upd_ne this]
    exact ⟨(rel.ownSome ⟨i, x, b, h, h1⟩).1, rfl⟩
  sep := rel.sep
  arg := rel.arg
theorem Step.upd_at {D : Addr} {o : HO} (st : Step env env' σ F H F' H') (hD : H D = Option.none) : Step env env' σ F H F' (upd H' D o) where
  f := st.f
  keep := fun p u h n => by
    have : p ≠ D := fun q => by rw [q, hD] at h; cases h
    rw [upd_ne this]; exact st.keep p u h n
  new := st.new
  own := st.own
  there := fun p u h => by
    have : p ≠ D := fun q => by rw [q, hD] at h; cases h
    rw [upd_ne this]; exact st.there p u h
end
theorem rds_snoc {K : PySem.W.Frag} {F : Hp} {v : V} {d : D} (h : RD K F v d) : ∀ {ds : List D} {vs : List V}, RDs K F vs ds → RDs K F (vs ++ [v]) (ds ++ [d])
  | [], vs, e => by
    have e : vs = [] := e
    subst e
    exact ⟨v, [], rfl, h, rfl⟩
  | _ :: ds, _, ⟨w, ws, e, h1, h2⟩ => by
    subst e
    exact ⟨w, ws ++ [v], rfl, h1, rds_snoc h h2⟩
theorem lcM_eq {own : List Nat} {bind : D → M Unit} {src : M (List D)} {test : M Bool} {elt : M R} : lcM own bind src test elt = src.bind fun ds e1 =>
    match turns (turn1 own bind test elt) ds e1 with
    | some (ys, e9) => if fits ys.length then some (.ok (.new (.list ys)), e9) else none
    | none => none := by
  funext e
  unfold lcM M.bind
  cases src e with
  | none => rfl
  | some p =>
    obtain ⟨o, e1⟩ := p
    cases o <;> rfl
theorem bind_ret {α : Type} {m : M α} : m.bind M.ret = m := by
  funext e
  unfold M.bind M.ret
  cases m e with
  | none => rfl
  | some p =>
    obtain ⟨o, e1⟩ := p
    cases o <;> rfl
theorem turns_cons {one : PyData → Sm.Env → Option (Option PyData × Sm.Env)} {d : PyData} {ds ys : List PyData} {e e9 : Sm.Env} (h : turns one (d :: ds) e = some (ys, e9)) :
    ∃ yo e' ys2, one d e = some (yo, e') ∧ turns one ds e' = some (ys2, e9) ∧ ys = yo.elim ys2 fun y => y :: ys2 := by
  rw [turns] at h
  split at h
  · cases h
  · rename_i y e1 q
    split at h
    · cases h
    · rename_i ys2 e2 q2
      cases h
      exact ⟨y, e1, ys2, q, q2, by cases y <;> rfl⟩
def rlD (K : PySem.W.Frag) : Rl D V := ⟨fun _ _ d F _ _ v => RD K F v d, fun _ _ _ _ _ _ _ _ _ h => h⟩
theorem goTurn {C : Ctx} {elt : M R} {F4 H3 : Hp} {e4 e5 : Sm.Env} {σ : St} {y : D} {P : VK} (rel : Rel C.K C.G F4 e4 σ H3) (e : (elt.bind frz) e4 = some (.ok y, e5))
    (k : ∀ v F5 H4, Rel C.K C.G F5 e5 σ H4 → Step e4 e5 σ F4 H3 F5 H4 → RD C.K F5 v y → P v H4) : tE C elt σ H3 P := by
  have h : Go C (rlD C.K) (elt.bind fun x => (frz x).bind M.ret) σ H3 P := by
    refine ⟨F4, e4, rel, .ok y, e5, ?_, fun b F' H' r s h => k b F' H' r s h⟩
    rw [show (fun x => (frz x).bind M.ret) = frz from funext fun x => bind_ret]
    exact e
  exact goFrz h fun d F env H1 v r _ hd h => h.ret v F H1 r .refl hd
def blkCtx (C : Ctx) : Ctx := { C with W := fun _ _ _ _ => False }
section
variable {X : Cx} {C : Ctx} {sc : Scope} {tb : Tab} {N : List Str} {Φ : Nat → Spec} {cs : Nat → D}
theorem good_blk {scope : Scope} (g : Good X C sc tb N Φ cs) (hk : scope.kind = .function) (s : Shared) (H : Hp) (Ca : Addr) (cl : List (Str × Addr)) (fp : List Addr) : Good (X.blk s H scope (compEnvC scope cl Ca X.env) fp) (blkCtx C) (relS scope sc) tb N Φ cs where
  sc := by rw [← g.sc]; rfl
  kd := hk
  k := g.k
  n := g.n
  nd := g.nd
  calm := g.calm
  un := g.un
  bi := g.bi
  cn := g.cn
  cd := g.cd
  rp := g.rp
  po := PassesOwn.never
  tk := fun _ _ ⟨_, _, _, _, _, _, _, _, _, _, _, _, _, _, _, _, w⟩ => w.elim
  fns := g.fns
  xs := g.xs
  ec := g.ec
theorem names_map {own : List Nat} : (names N own).map (·.2) = own := by
  unfold names
  rw [List.map_map]
  exact List.map_id' own
theorem lc_imp {me : E} {t : T} {mi : I} {mts : A} {own : List Nat} (hown : ∀ i ∈ slT t, i ∈ own) {σ : St} {H : Hp} {Q : VK}
    (h : Go C (rlE C.K C.G) (lcM own (fun x => asg t (.d x)) (evI Φ cs mi) (evTs Φ cs mts) (evX Φ cs me).1) σ H Q) :
    tLc (tI C (evI Φ cs mi)) (tG (blkCtx C) t) (tT (blkCtx C) (evTs Φ cs mts)) (tE (blkCtx C) (evE Φ cs me)) own σ H Q := by
  rw [lcM_eq] at h
  refine go1 (rl := rlI C.K) h fun ds F1 e1 H1 J r1 n1 hJ h => ?_
  intro D hD
  obtain ⟨o, e9, ee, q⟩ := h
  generalize hone : turn1 own (fun x => asg t (.d x)) (evTs Φ cs mts) (evX Φ cs me).1 = one at ee
  have ee : (match turns one ds e1 with
    | some (ys, e9) => if fits ys.length then some (Out.ok (R.new (.list ys)), e9) else none
    | none => none) = some (o, e9) := ee
  cases hT : turns one ds e1 with
  | none => rw [hT] at ee; cases ee
  | some p =>
    obtain ⟨all, e9'⟩ := p
    rw [hT] at ee
    have ee : (if fits all.length then some (Out.ok (R.new (.list all)), e9') else none) = some (o, e9) := ee
    obtain ⟨hfit, ee⟩ := Sm.ifs ee
    obtain ⟨rfl, rfl⟩ : Out.ok (R.new (.list all)) = o ∧ e9' = e9 := by cases ee; exact ⟨rfl, rfl⟩
    have q : ∀ (b : V) (F' H' : Hp), Rel C.K C.G F' e9' σ H' → Step e1 e9' σ F1 H1 F' H' → (rlE C.K C.G).r σ H1 (R.new (.list all)) F' e9' H' b → Q b H' := q
    have hF1 : F1 D = none := r1.fh.free hD
    have hG0 : C.G.H0 D = none := r1.h0 hD
    have hN1 : ¬ OwnA e1 σ D := fun z => by
      obtain ⟨_, u, hu⟩ := r1.ownSome z
      rw [hD] at hu; cases hu
    let Pv : Nat → Hp → Prop := fun i H => ∃ (e : Sm.Env) (acc : List PyData) (F : Hp) (vs : List V) (ys : List PyData), Rel C.K C.G F e σ H ∧ Step e1 e σ F1 H1 F H ∧ H D = some (.lst vs) ∧ RDs C.K F vs acc ∧ F D = none ∧ turns one (ds.drop i) e = some (ys, e9') ∧ acc ++ ys = all
    refine ⟨fun i m H => m = ds.length - i ∧ i ≤ ds.length ∧ Pv i H, ⟨ds.length, by simp, Nat.zero_le _, e1, [], F1, [], all, ?_, ?_, upd_same, rfl, hF1, hT, rfl⟩, ?_⟩
    · exact r1.upd_at hF1 hG0 hN1
    · exact Step.refl.upd_at hD
    · rintro i m H2 ⟨rfl, hle, e, acc, F, vs, ys, rel, st, hDl, rvs, hFD, ht2, hacc⟩
      have hN2 : ¬ OwnA e σ D := fun z => hN1 (st.own D z)
      obtain ⟨j1, j2⟩ := hJ F H2 st.f rel.fh
      by_cases hlt : i < ds.length
      · obtain ⟨d, hd⟩ : ∃ d, ds[i]? = some d := ⟨_, List.getElem?_eq_getElem hlt⟩
        obtain ⟨jg, jy⟩ := j2 i d hd
        have hdrop : ds.drop i = d :: ds.drop (i + 1) := by
          rw [List.drop_eq_getElem_cons hlt]
          rw [List.getElem?_eq_getElem hlt] at hd
          cases hd; rfl
        rw [hdrop] at ht2
        obtain ⟨yo, e', ys2, ho, hr, hys⟩ := turns_cons ht2
        refine .inr ⟨jg, Pv (i + 1), fun H' p' => ⟨ds.length - (i + 1), by omega, rfl, hlt, p'⟩, fun x H3 y => ?_⟩
        obtain ⟨F3, gr, hx⟩ := jy x H3 y
        have rel3 := rel.grow gr
        have hD3 : H3 D = some (.lst vs) := gr.h D _ hDl
        have hF3 : F3 D = none := by
          cases z : F3 D with
          | none => rfl
          | some u =>
            rcases gr.n D (by rw [z]; simp) with z | z
            · exact absurd hFD z
            · rw [hDl] at z; cases z
        subst hone
        unfold turn1 at ho
        by_cases na : own.any (isArg e) = true
        · rw [if_pos na] at ho; cases ho
        · rw [if_neg na] at ho
          have na : own.any (isArg e) = false := by simpa using na
          split at ho
          · rename_i e3 hb3
            have hN3 : ¬ OwnA (wipeE e own) (wipe σ own) D := fun z => by
              obtain ⟨k, w, b, _, k1, k2⟩ := wiped_ownA z
              exact hN2 ⟨k, w, b, k1, k2⟩
            refine ⟨F3, wipeE e own, d, e3, rel3.wiped na, hx, hb3, fun σ2 rs3 st3 sw3 l3 o3 => ?_⟩
            have hw : wipe σ2 own = wipe σ own := by
              apply List.ext_getElem?
              intro j
              by_cases mj : j ∈ own
              · have z1 := wipe_in (σ := σ2) mj
                have z2 := wipe_in (σ := σ) mj
                have len : (wipe σ2 own).length = (wipe σ own).length := by rw [wipe_length, l3]
                by_cases hj : j < (wipe σ own).length
                · rw [List.getElem?_eq_getElem hj] at z2 ⊢
                  rw [List.getElem?_eq_getElem (by rw [len]; exact hj)] at z1 ⊢
                  cases q1 : (wipe σ2 own)[j]'(by rw [len]; exact hj) with
                  | some v => exact absurd (by rw [q1]) (z1 v)
                  | none =>
                    cases q2 : (wipe σ own)[j]'hj with
                    | some v => exact absurd (by rw [q2]) (z2 v)
                    | none => rfl
                · rw [List.getElem?_eq_none (by omega), List.getElem?_eq_none (by omega)]
              · rw [wipe_off mj, o3 j fun z => mj (hown j z)]
            refine ⟨hw, F3, e3, rs3, ?_⟩
            -- behind the turn, nothing put on or one more
            have fin : ∀ {F5 H5 : Hp} {e5 : Sm.Env}, Rel C.K C.G F5 e5 σ2 H5 → Step e3 e5 σ2 F3 H3 F5 H5 → (Rel C.K C.G F5 (unwipe e e5 own) σ H5 ∧ Step e1 (unwipe e e5 own) σ F1 H1 F5 H5 ∧ H5 D = some (.lst vs) ∧ RDs C.K F5 vs acc ∧ F5 D = none) := fun {F5 H5 e5} r5 s5 => by
              have sS : StepS (wipeE e own) (wipe σ own) F3 H3 e5 σ2 F5 H5 := st3.trans s5.s
              obtain ⟨k1, k2⟩ := rel3.unwiped na r5 sS (fun p z => sw3 p (s5.own p z)) hw
              refine ⟨k1, (st.trans gr.step).trans k2, sS.keep D _ hD3 hN3, RDs.mono sS.f acc vs (RDs.mono gr.f acc vs rvs), ?_⟩
              cases z : F5 D with
              | none => rfl
              | some u =>
                rcases sS.new D (by rw [z]; simp) with z | z | z
                · exact absurd hF3 z
                · rw [hD3] at z; cases z
                · exact absurd z hN3
            split at ho
            · rename_i e4 ht4
              split at ho
              · rename_i y5 e5 he5
                obtain ⟨rfl, rfl⟩ : some y5 = yo ∧ unwipe e e5 own = e' := by cases ho; exact ⟨rfl, rfl⟩
                refine ⟨.ok true, e4, ht4, fun b F4 H4 r4 s4 hb4 => ?_⟩
                have hb4 : b = true := hb4
                subst hb4
                show tE (blkCtx C) (evE Φ cs me) σ2 H4 _
                refine goTurn r4 he5 fun v F5 H5 r5 s5 hv => ?_
                obtain ⟨k1, k2, k3, k4, k5⟩ := fin r5 (s4.trans s5)
                have hys : ys = y5 :: ys2 := hys
                subst hys
                have hlen : vs.length < sizeLine := by
                  have z1 := rvs.len
                  have z2 := fits_le hfit
                  rw [← hacc, List.length_append, List.length_cons] at z2
                  omega
                refine ⟨vs, k3, hlen, _, acc ++ [y5], F5, vs ++ [v], ys2, k1.upd_at k5 hG0 fun z => hN1 (k2.own D z), k2.upd_at hD, upd_same, rds_snoc hv k4, k5, hr, ?_⟩
                rw [List.append_assoc]
                exact hacc
              · cases ho
            · rename_i e4 ht4
              obtain ⟨rfl, rfl⟩ : Option.none = yo ∧ unwipe e e4 own = e' := by cases ho; exact ⟨rfl, rfl⟩
              refine ⟨.ok false, e4, ht4, fun b F4 H4 r4 s4 hb4 => ?_⟩
              have hb4 : b = false := hb4
              subst hb4
              show Pv (i + 1) H4
              obtain ⟨k1, k2, k3, k4, k5⟩ := fin r4 s4
              have hys : ys = ys2 := hys
              subst hys
              exact ⟨_, acc, F4, vs, _, k1, k2, k3, k4, k5, hr, hacc⟩
            · cases ho
          · cases ho
      · have hi2 : i = ds.length := by omega
        subst hi2
        rw [List.drop_length] at ht2
        have ht2 : some (([] : List PyData), e) = some (ys, e9') := ht2
        obtain ⟨rfl, rfl⟩ : ([] : List PyData) = ys ∧ e = e9' := by cases ht2; exact ⟨rfl, rfl⟩
        rw [List.append_nil] at hacc
        subst hacc
        refine .inl ⟨j1, q _ F H2 rel st ⟨⟨D, rfl, hG0, hFD, ⟨vs, hDl, rvs⟩, hN2⟩, fun p z => ?_⟩⟩
        cases z
        exact hD
theorem sLcE (g : Good X C sc tb N Φ cs) {me : E} {t : T} {mi : I} {mts : A} {own : List Nat} {elt tg iter : Expr} {ifs : List Expr} {scope : Scope} {pos : Pos} (hi : PI X tg iter (tI C (evI Φ cs mi))) (hb : blkC N sc scope (names N own) = true)
    (hown : ∀ i ∈ slT t, i ∈ own)
    (hg : ∀ (s : Shared) (H : Hp) (Ca : Addr) (cl : List (Str × Addr)) (fp : List Addr), PG (X.blk s H scope (compEnvC scope cl Ca X.env) fp) tg (tG (blkCtx C) t))
    (ht : ∀ (s : Shared) (H : Hp) (Ca : Addr) (cl : List (Str × Addr)) (fp : List Addr), PTs (X.blk s H scope (compEnvC scope cl Ca X.env) fp) ifs (tT (blkCtx C) (evTs Φ cs mts)))
    (he : ∀ (s : Shared) (H : Hp) (Ca : Addr) (cl : List (Str × Addr)) (fp : List Addr), PE (X.blk s H scope (compEnvC scope cl Ca X.env) fp) elt (tE (blkCtx C) (evE Φ cs me)))
    (hs : ∀ x, foldedSetIterable iter X.env x = pure x) : PE X (.ListComp elt [⟨tg, iter, ifs, 0⟩] scope pos) (tE C (evE Φ cs (.lc me t mi mts own))) := by
  have ok := blkOk_by hb
  rw [← g.n, ← g.sc] at ok
  have P := pe_lc (pos := pos) g.calm (by rw [g.n]; exact g.nd) hi ok hg ht he hs
  rw [show (names X.N own).map (·.2) = own from names_map] at P
  exact PE.imp P fun σ H Q h => lc_imp hown h
/-! ### max, constant dicts, displays of dicts -/
theorem sMxE (g : Good X C sc tb N Φ cs) {ma mb : E} {a b : Expr} {x : Str} {p pos : Pos} (hx : x = "max") (hg : glB sc x = true) (ha : PE X a (tE C (evE Φ cs ma))) (hb : PE X b (tE C (evE Φ cs mb))) (ka : okE a = true) (kb : okE b = true) :
    PE X (.Call (.Name x p) [a, b] [] pos) (tE C (evE Φ cs (.mx ma mb))) := by
  subst hx
  have sb := ok_star kb [] X.env
  have P := pe_callB (pos := pos) (p := p) (call_max2 g.calm) (g.gl hg) (g.bi _ (by decide +kernel)) (by decide +kernel) (pa_cons ha (pa_cons hb pa_nil sb) (ok_star ka [b] _)) (by decide +kernel) (by decide +kernel) (ok_star ka [b] _) (by rw [sb]; rfl)
  refine PE.imp P fun σ H Q h => ?_
  refine go1 (rl := rlE C.K C.G) h fun x F1 env1 H1 v r1 _ hx h => ?_
  refine go1s (rl := rlE C.K C.G) r1 h fun y F2 env2 H2 u r2 s2 hy h => ?_
  obtain ⟨dx, ex, h⟩ := h.rd
  obtain ⟨dy, ey, h⟩ := h.rd
  obtain ⟨r, er, q⟩ := h.opt
  have ro := (hx.1.lift s2).ro r2 ex
  have ro' := hy.1.ro r2 ey
  cases dx <;> cases dy <;> simp only [maxD, reduceCtorEq, Option.some.injEq] at er
  subst er
  have hv := ro.int
  have hu := ro'.int
  subst hv hu
  exact ⟨_, _, rfl, q _ F2 H2 r2 .refl ⟨rfl, trivial⟩⟩
theorem cin1 {no : Bool} {k : Nat} {ma : E} {σ : St} {H : Hp} {Q : VK} (h : tE C (evE Φ cs (.cin k ma no)) σ H Q) : tE C (evE Φ cs ma) σ H fun v H1 => ∃ kvs z, cs k = .dict kvs ∧ v = .str z ∧ Q (.bl ((dget kvs (.inr z)).isSome != no)) H1 := by
  refine go1 (rl := rlE C.K C.G) h fun x F1 env1 H1 v r1 _ hx h => ?_
  obtain ⟨d, ed, h⟩ := h.rd
  obtain ⟨r, er, q⟩ := h.opt
  have ro := hx.1.ro r1 ed
  unfold cinD at er
  split at er
  · rename_i kvs z hk
    cases er
    exact ⟨kvs, z, hk, ro.str, q _ F1 H1 r1 .refl ⟨rfl, trivial⟩⟩
  · cases er
theorem boolCin {no : Bool} {k : Nat} {ma : E} : boolM (evE Φ cs (.cin k ma no)) := bool_opt (m := evE Φ cs ma) fun _ => bool_opt fun d => by
  intro env r env' e
  unfold cinD at e
  cases hk : cs k with
  | dict kvs =>
    cases d with
    | str z => rw [hk] at e; cases e; exact ⟨_, rfl⟩
    | _ => rw [hk] at e; cases e
  | _ => rw [hk] at e; cases e
theorem sCinE (g : Good X C sc tb N Φ cs) {k : Nat} {ma : E} {a : Expr} {x : Str} {p pos : Pos} (hx : x = tb.dn k) (hg : glB sc x = true) (hp : plainN x = true) (ha : PE X a (tE C (evE Φ cs ma))) :
    PE X (.Compare a [.In] [.Name x p] pos) (tE C (evE Φ cs (.cin k ma false))) ∧ PT X (.Compare a [.In] [.Name x p] pos) (tT C (evT Φ cs (.cin k ma false))) := by
  obtain ⟨d, es, n, kvs, hk, hm, D, hz⟩ := g.cd k x hx.symm (plain_ne hp)
  have hn : PE X (.Name x p) (tC (.ref d)) := pe_glob (g.gl hg) hm rfl (plain_of hp).1
  have go : ∀ {σ H} {Q : VK}, tE C (evE Φ cs (.cin k ma false)) σ H Q → tOp (fun x y H Q => ∃ (z : Str) (r : Option Value), x = .str z ∧ y = .ref d ∧ PySem.W.nsIn X.K d z = some r ∧ Q (.bl r.isSome) H) (tE C (evE Φ cs ma)) (tC (.ref d)) σ H Q := fun {σ H Q} h => by
    obtain ⟨F, env, rel, o, env', e, q⟩ := cin1 h
    refine ⟨F, env, rel, o, env', e, ?_⟩
    cases o with
    | rs c => exact q
    | ok r =>
      intro v F' H' r' s' h'
      obtain ⟨kvs', z, hk', ev, q⟩ := q v F' H' r' s' h'
      rw [hk] at hk'
      cases hk'
      subst ev
      cases hd : dget kvs (.inr z) with
      | none =>
        rw [hd] at q
        exact ⟨z, none, rfl, rfl, (hz z).1 hd, q⟩
      | some y =>
        rw [hd] at q
        obtain ⟨u, v, h1, _⟩ := (hz z).2 y hd
        exact ⟨z, some u, rfl, rfl, h1, q⟩
  exact ⟨PE.imp (pe_cmpR (op_in_kd D) ha hn (by rfl)) fun σ H Q h => go h, PT.imp (pt_cmpR (op_in_kd D) ha hn (by rfl)) fun σ H Q h => go (testOf boolCin h)⟩
theorem sCninE (g : Good X C sc tb N Φ cs) {k : Nat} {ma : E} {a : Expr} {x : Str} {p pos : Pos} (hx : x = tb.dn k) (hg : glB sc x = true) (hp : plainN x = true) (ha : PE X a (tE C (evE Φ cs ma))) :
    PE X (.Compare a [.NotIn] [.Name x p] pos) (tE C (evE Φ cs (.cin k ma true))) ∧ PT X (.Compare a [.NotIn] [.Name x p] pos) (tT C (evT Φ cs (.cin k ma true))) := by
  obtain ⟨d, es, n, kvs, hk, hm, D, hz⟩ := g.cd k x hx.symm (plain_ne hp)
  have hn : PE X (.Name x p) (tC (.ref d)) := pe_glob (g.gl hg) hm rfl (plain_of hp).1
  have go : ∀ {σ H} {Q : VK}, tE C (evE Φ cs (.cin k ma true)) σ H Q → tOp (fun x y H Q => ∃ (z : Str) (r : Option Value), x = .str z ∧ y = .ref d ∧ PySem.W.nsIn X.K d z = some r ∧ Q (.bl (!r.isSome)) H) (tE C (evE Φ cs ma)) (tC (.ref d)) σ H Q := fun {σ H Q} h => by
    obtain ⟨F, env, rel, o, env', e, q⟩ := cin1 h
    refine ⟨F, env, rel, o, env', e, ?_⟩
    cases o with
    | rs c => exact q
    | ok r =>
      intro v F' H' r' s' h'
      obtain ⟨kvs', z, hk', ev, q⟩ := q v F' H' r' s' h'
      rw [hk] at hk'
      cases hk'
      subst ev
      cases hd : dget kvs (.inr z) with
      | none =>
        rw [hd] at q
        exact ⟨z, none, rfl, rfl, (hz z).1 hd, q⟩
      | some y =>
        rw [hd] at q
        obtain ⟨u, v, h1, _⟩ := (hz z).2 y hd
        exact ⟨z, some u, rfl, rfl, h1, q⟩
  exact ⟨PE.imp (pe_cmpR (op_notIn_kd D) ha hn (by rfl)) fun σ H Q h => go h, PT.imp (pt_cmpR (op_notIn_kd D) ha hn (by rfl)) fun σ H Q h => go (testOf boolCin h)⟩
theorem sCixE (g : Good X C sc tb N Φ cs) {k : Nat} {ma : E} {a : Expr} {x : Str} {p pos : Pos} (hx : x = tb.dn k) (hg : glB sc x = true) (hp : plainN x = true) (ha : PE X a (tE C (evE Φ cs ma))) (ka : okE a = true) :
    PE X (.Subscript (.Name x p) a pos) (tE C (evE Φ cs (.cix k ma))) := by
  obtain ⟨d, es, n, kvs, hk, hm, D, hz⟩ := g.cd k x hx.symm (plain_ne hp)
  have hn : PE X (.Name x p) (tC (.ref d)) := pe_glob (g.gl hg) hm rfl (plain_of hp).1
  have hr : IxR X (fun x y H Q => ∃ (z : Str) (u0 : Value) (v0 : V), x = .ref d ∧ y = .str z ∧ PySem.W.nsIn X.K d z = some (some u0) ∧ RelV v0 u0 ∧ Q v0 H) := by
    intro va sl pins s σ H x y v u Q I rx ry h hs
    obtain ⟨z, u0, v0, rfl, rfl, e, r, q⟩ := h
    cases rx
    obtain ⟨t, rfl⟩ := ry
    have hm2 := PySem.W.mapOf_K (prog := X.prog) (w := X.w) I.kIn D.at_ D.lit
    exact PyProof.Rows.tail_any hm2.typeIs PySem.F.slot_dict_getitem.lookup (wpAny_getItem_of (PySem.strKind_is X.prog X.w z t) hm2 (PySem.W.find_K D.at_ e) ⟨v0, H, I.tok _, r, q⟩) hs
  refine PE.imp (pe_ix hr hn ha (ok_plain ka)) fun σ H Q h => ?_
  refine go1 (rl := rlE C.K C.G) h fun x F1 env1 H1 v r1 _ hx h => ?_
  obtain ⟨dd, ed, h⟩ := h.rd
  obtain ⟨r, er, q⟩ := h.opt
  have ro := hx.1.ro r1 ed
  unfold cixD at er
  split at er
  · rename_i kvs' z hk'
    rw [hk] at hk'
    cases hk'
    obtain ⟨y, hy, rfl⟩ := Option.map_eq_some_iff.mp er
    obtain ⟨u, w, k1, k2, k3⟩ := (hz z).2 y hy
    have hv := ro.str
    subst hv
    exact ⟨z, u, w, rfl, rfl, k1, k2, q w F1 H1 r1 .refl ⟨(by show RD C.K F1 w y; rw [← g.k]; exact k3 F1), trivial⟩⟩
  · cases er
def zipE : List Str → List V → List (Key × V)
  | k :: ks, v :: vs => (.inr k, v) :: zipE ks vs
  | _, _ => []
theorem merge_zip : ∀ (ks : List Str) (vs : List V) (acc : List (Key × V)), ks.Nodup → (∀ k ∈ ks, ∀ p ∈ acc, p.1 ≠ .inr k) → mergeK acc (zipE ks vs) = acc ++ zipE ks vs
  | [], _, acc, _, _ => by show acc = acc ++ []; rw [List.append_nil]
  | _ :: _, [], acc, _, _ => by show acc = acc ++ []; rw [List.append_nil]
  | k :: ks, v :: vs, acc, nd, h => by
    obtain ⟨n1, n2⟩ := List.nodup_cons.mp nd
    show mergeK (putK acc (.inr k) v) (zipE ks vs) = _
    have e : putK acc (Sum.inr k : Key) v = acc ++ [(.inr k, v)] := by
      unfold putK
      rw [if_neg]
      intro z
      obtain ⟨p, hp, hd⟩ := List.any_eq_true.mp z
      exact h k List.mem_cons_self p hp (of_decide_eq_true hd)
    rw [e, merge_zip ks vs _ n2 (fun k' hk' p hp => ?_)]
    · show _ = acc ++ ((.inr k, v) :: zipE ks vs)
      rw [List.append_assoc]
      rfl
    · rcases List.mem_append.mp hp with hp | hp
      · exact h k' (List.mem_cons_of_mem _ hk') p hp
      · rw [List.mem_singleton.mp hp]
        intro z
        have : k = k' := by injection z
        exact n1 (by rw [this]; exact hk')
theorem zipE_len : ∀ (ks : List Str) (vs : List V), (zipE ks vs).length ≤ ks.length
  | [], _ => by simp [zipE]
  | _ :: _, [] => by simp [zipE]
  | k :: ks, v :: vs => by simp only [zipE, List.length_cons]; exact Nat.succ_le_succ (zipE_len ks vs)
theorem zip_rd {K : PySem.W.Frag} {F : Hp} : ∀ (ks : List Str) (vs : List V) (ds : List PyData), RDs K F vs ds → RDk K F (zipE ks vs) (zipK ks ds)
  | [], vs, ds, h => by cases ds <;> exact (rfl : ([] : List (Key × V)) = [])
  | k :: ks, vs, [], h => by
    have h : vs = [] := h
    subst h
    exact (rfl : ([] : List (Key × V)) = [])
  | k :: ks, _, d :: ds, ⟨v, ws, e, h1, h2⟩ => by
    subst e
    exact ⟨.inr k, v, zipE ks ws, rfl, rfl, h1, zip_rd ks ws ds h2⟩
/-- the values of a display, with their keys -/
structure DD (X : Cx) (C : Ctx) (Φ : Nat → Spec) (cs : Nat → PyData) (as : A) (es : List Expr) : Prop where
  ex : ∀ (ks : List Str) (keys : List (Option Expr)) (pos : Pos), keysB ks keys = true → ks.length = es.length → ∃ trs, PPs X pos keys es trs ∧
    ∀ σ H (P : List (V × V) → Hp → Prop), Go C (rlA C.K) (evA Φ cs as) σ H (fun vs H' => P ((zipE ks vs).map fun kv => (kV kv.1, kv.2)) H') → tPairs trs σ H P
theorem dd_nil : DD X C Φ cs .nil [] := ⟨fun ks keys pos hk hl => by
  cases ks with
  | cons _ _ => cases hl
  | nil =>
    cases keys with
    | cons _ _ => simp [keysB] at hk
    | nil => exact ⟨[], pps_nil, fun σ H P ⟨F, env, rel, h⟩ => h.ret [] F H rel .refl (show RDs C.K F [] [] from rfl)⟩⟩
theorem dd_cons {ma : E} {mr : A} {a : Expr} {es : List Expr} (ha : PE X a (tE C (evE Φ cs ma))) (hr : DD X C Φ cs mr es) : DD X C Φ cs (.cons ma mr) (a :: es) := ⟨fun ks keys pos hk hl => by
  cases ks with
  | nil => cases hl
  | cons k ks =>
    cases keys with
    | nil => simp [keysB] at hk
    | cons o keys =>
      unfold keysB at hk
      split at hk
      · rename_i e1; cases e1
      · rename_i k' ks' x j p r' e1 e2
        cases e1; cases e2
        rw [Bool.and_eq_true, decide_eq_true_eq] at hk
        obtain ⟨rfl, hk⟩ := hk
        obtain ⟨trs, h1, h2⟩ := hr.ex _ _ pos hk (Nat.succ.inj hl)
        refine ⟨_, pps_cons pe_str ha h1, fun σ H P h => ?_⟩
        show tE C (evE Φ cs ma) σ H fun y H2 => tPairs trs σ H2 fun ps H3 => P ((V.str _, y) :: ps) H3
        refine goFrz h fun d F1 env1 H1 v r1 n1 hd h => ?_
        refine h2 σ H1 (fun ps H3 => P ((V.str _, v) :: ps) H3) ?_
        refine go1s (rl := rlA C.K) r1 h fun ds F2 env2 H2 vs r2 s2 hds h => ?_
        exact h.ret (v :: vs) F2 H2 r2 .refl ⟨v, vs, rfl, RD.mono s2.f d v hd, hds⟩
      · cases hk⟩
theorem sDdE (g : Good X C sc tb N Φ cs) {ks : List Str} {as : A} {keys : List (Option Expr)} {vals : List Expr} {pos : Pos} (hk : keysB ks keys = true) (nd : ks.Nodup) (h15 : ks.length ≤ 15) (hl : ks.length = vals.length) (hnil : ks = [] → as = .nil) (hd : DD X C Φ cs as vals) :
    PE X (.Dict keys vals pos) (tE C (evE Φ cs (.dd ks as))) := by
  have klen : ∀ (ks : List Str) (keys : List (Option Expr)), keysB ks keys = true → ks.length = keys.length ∧ keys.all (·.isSome) = true := by
    intro ks
    induction ks with
    | nil => intro keys h; cases keys with
      | nil => exact ⟨rfl, rfl⟩
      | cons _ _ => simp [keysB] at h
    | cons k ks ih =>
      intro keys h
      cases keys with
      | nil => simp [keysB] at h
      | cons o keys =>
        unfold keysB at h
        split at h
        · rename_i e1; cases e1
        · rename_i k' ks' x j p r' e1 e2
          cases e1; cases e2
          rw [Bool.and_eq_true] at h
          obtain ⟨i1, i2⟩ := ih _ h.2
          exact ⟨by simp only [List.length_cons, i1], by simp only [List.all_cons, i2]; rfl⟩
        · cases h
  obtain ⟨kl, ka⟩ := klen ks keys hk
  -- behind the values
  have fin : ∀ {σ : St} {H : Hp} {Q : VK} {p : Addr}, tE C (evE Φ cs (.dd ks as)) σ H Q → H p = none → Go C (rlA C.K) (evA Φ cs as) σ (upd H p (.dK [])) fun vs H2 => H2 p = some (.dK []) ∧ (zipE ks vs).length ≤ 15 ∧ Q (.ref p) (upd H2 p (.dK (mergeK [] (zipE ks vs)))) := fun {σ H Q p} h hp => by
    obtain ⟨F, env, rel, o, env', e, q⟩ := h
    have e : ((evA Φ cs as).bind fun xs => .opt (if decide (xs.length = ks.length) then some (R.new (.dict (zipK ks xs))) else none)) env = some (o, env') := e
    have hF : F p = none := rel.fh.free hp
    have h0 : C.G.H0 p = none := rel.h0 hp
    have hn : ¬ OwnA env σ p := fun z => by
      obtain ⟨_, u, hu⟩ := rel.ownSome z
      rw [hp] at hu; cases hu
    have relp : Rel C.K C.G F env σ (upd H p (.dK [])) := rel.upd_at hF h0 hn
    have st0 : Step env env σ F H F (upd H p (.dK [])) := Step.refl.upd_at hp
    refine ⟨F, env, relp, ?_⟩
    unfold M.bind at e
    cases hA : evA Φ cs as env with
    | none => rw [hA] at e; cases e
    | some z =>
      obtain ⟨o1, e1⟩ := z
      rw [hA] at e
      refine ⟨o1, e1, hA, ?_⟩
      cases o1 with
      | rs c =>
        cases e
        exact fun F' H' r s => q F' H' r (st0.trans s)
      | ok xs =>
        have e : (Option.map (fun a => (Out.ok a, e1)) (if decide (xs.length = ks.length) then some (R.new (.dict (zipK ks xs))) else none)) = some (o, env') := e
        by_cases c : decide (xs.length = ks.length) = true
        · rw [if_pos c] at e
          cases e
          intro vs F' H' r s hvs
          have hvs : RDs C.K F' vs xs := hvs
          have hF' : F' p = none := by
            cases z : F' p with
            | none => rfl
            | some u =>
              rcases s.new p (by rw [z]; simp) with z | z | z
              · exact absurd hF z
              · rw [upd_same] at z; cases z
              · exact absurd z hn
          have hn' : ¬ OwnA _ σ p := fun z => hn (s.own p z)
          refine ⟨s.keep p _ upd_same hn, Nat.le_trans (zipE_len ks vs) h15, q (.ref p) F' _ (r.upd_at hF' h0 hn') ((st0.trans s).upd_at hp) ⟨⟨p, rfl, h0, hF', ⟨_, upd_same, ?_⟩, hn'⟩, fun p' z => ?_⟩⟩
          · rw [merge_zip ks vs [] nd (by simp), List.nil_append]
            exact zip_rd ks vs xs hvs
          · cases z; exact hp
        · rw [if_neg c] at e
          cases e
  cases ks with
  | nil =>
    cases keys with
    | cons _ _ => cases kl
    | nil =>
      cases vals with
      | cons _ _ => cases hl
      | nil =>
        obtain ⟨trs, h1, h2⟩ := hd.ex [] [] pos rfl rfl
        refine PE.imp pe_dnewK fun σ H Q h p hp => ?_
        have as0 := hnil rfl
        subst as0
        obtain ⟨F, env, rel, w⟩ := fin h hp
        obtain ⟨_, _, q⟩ := w.ret [] F _ rel .refl (show RDs C.K F [] [] from rfl)
        have e : upd (upd H p (.dK [])) p (.dK (mergeK [] (zipE [] []))) = upd H p (.dK []) := by
          funext b
          by_cases z : b = p
          · subst z; rw [upd_same, upd_same]; rfl
          · rw [upd_ne z]
        rw [e] at q
        exact q
  | cons k ks =>
    obtain ⟨trs, h1, h2⟩ := hd.ex _ _ pos hk hl
    refine PE.imp (pe_disp h1 ka (by rw [← kl, hl]) (by intro z; rw [z] at kl; cases kl) (by rw [← kl]; exact h15)) fun σ H Q h p hp => ?_
    refine h2 σ _ _ ?_
    obtain ⟨F, env, rel, o, env', e, q⟩ := fin h hp
    refine ⟨F, env, rel, o, env', e, ?_⟩
    cases o with
    | rs c => exact q
    | ok a =>
      intro b F' H' r s hb
      obtain ⟨q1, q2, q3⟩ := q b F' H' r s hb
      exact ⟨q1, _, rfl, q2, q3⟩
end
end Sm

set_option maxRecDepth 100000
set_option maxHeartbeats 4000000
namespace HT
open PySem PySem.Spec PyProof.Rows
section
variable {prog : Program} {w : World} {A : Around} {E : Value → Shared → Prop} {s : Shared}
theorem adjust_rev (n : Nat) : Builtin.Slice.sliceAdjust none none (-1) (n : Int) = ((n : Int) - 1, -1) := by
  unfold Builtin.Slice.sliceAdjust
  simp
theorem places_rev (n : Nat) : Builtin.Slice.slicePlaces ((n : Int) - 1) (-1) (-1) = n := by
  unfold Builtin.Slice.slicePlaces
  have h1 : ¬ ((-1 : Int) > 0) := by decide
  rw [if_neg h1]
  by_cases h : (n : Int) - 1 > -1
  · have e : ((n : Int) - 1 - -1 - 1) / (- -1) + 1 = (n : Int) := by
      rw [show (- -1 : Int) = 1 by decide, Int.ediv_one]
      omega
    rw [if_pos h, e, Int.toNat_natCast]
  · have e : n = 0 := by omega
    subst e
    rw [if_neg h]
    rfl
theorem sliceApplied_rev {sl : Addr} {vl vu vs : Value} {n : Nat} {Q : Int × Int × Nat → Shared → Prop} (hs : s.heap.IsSliceOf sl vl vu vs) (pl : IsPart vl none) (pu : IsPart vu none) (ps : IsPart vs (some (-1)))
    (h : Q ((n : Int) - 1, -1, n) s) : wpAny (model prog w) A (Builtin.Slice.sliceApplied (.ref sl) (pure (n : Int))) Q E s := by
  obtain ⟨os, hos, hcs, hds⟩ := id hs
  unfold Builtin.Slice.sliceApplied Builtin.Slice.sliceFields
  refine wpAny_bind (wpAny_bind (wpAny_field hos hds (x := vl) rfl (wpAny_bind (wpAny_field hos hds (x := vu) rfl (wpAny_bind (wpAny_field hos hds (x := vs) rfl (wpAny_pure ?_)))))))
  refine wpAny_bind (slicePart_ ps ?_)
  show wpAny _ _ (if ((-1 : Int) == 0) = true then _ else _) _ _ s
  rw [if_neg (by decide)]
  refine wpAny_bind (slicePart_ pl (wpAny_bind (slicePart_ pu (wpAny_bind (wpAny_pure ?_)))))
  show wpAny _ _ (match Builtin.Slice.sliceAdjust none none (-1) (n : Int) with | (lo, hi) => pure (lo, (-1 : Int), Builtin.Slice.slicePlaces lo hi (-1))) _ _ s
  rw [adjust_rev n]
  show wpAny _ _ (pure ((n : Int) - 1, (-1 : Int), Builtin.Slice.slicePlaces ((n : Int) - 1) (-1) (-1))) _ _ s
  rw [places_rev]
  exact wpAny_pure h
theorem fm_congr {α β : Type} {f g : α → Option β} : ∀ {l : List α}, (∀ x ∈ l, f x = g x) → l.filterMap f = l.filterMap g
  | [], _ => rfl
  | x :: l, h => by
    rw [List.filterMap_cons, List.filterMap_cons, h x List.mem_cons_self, fm_congr fun y hy => h y (List.mem_cons_of_mem _ hy)]
theorem pick_rev (xs : Array Value) : ((List.range xs.size).filterMap fun (k : Nat) => xs[(((xs.size : Int) - 1) + (k : Int) * (-1)).toNat]?).toArray = xs.toList.reverse.toArray := by
  congr 1
  have e : (List.range xs.size).filterMap (fun (k : Nat) => xs[(((xs.size : Int) - 1) + (k : Int) * (-1)).toNat]?) = ((List.range xs.size).map fun k => xs.size - 1 - k).filterMap (xs[·]?) := by
    rw [List.filterMap_map]
    refine fm_congr fun k hk => ?_
    have := List.mem_range.mp hk
    have e2 : (((xs.size : Int) - 1) + (k : Int) * (-1)).toNat = xs.size - 1 - k := by omega
    rw [e2]
    rfl
  rw [e, PySem.W.krv_range, List.filterMap_reverse, PySem.W.krv_all]
theorem getItem_tuple_rev {t sl : Addr} {items : Array Value} {vl vu vs : Value} {Q : Value → Shared → Prop} (ht : IsTup s.heap t items) (hs : s.heap.IsSliceOf sl vl vu vs) (pl : IsPart vl none) (pu : IsPart vu none) (ps : IsPart vs (some (-1)))
    (h : Q (.ref s.heap.objs.size) { s with heap := s.heap.push { cls := .type "tuple", data := .seq items.toList.reverse.toArray } })
    (hsz : items.size ≤ sizeLine) : wpAny (model prog w) A (getItem (.ref t) (.ref sl)) Q E s := by
  have htake : sizeOk (.seq items.toList.reverse.toArray) := by
    show items.toList.reverse.toArray.size ≤ sizeLine
    rw [List.size_toArray, List.length_reverse, Array.length_toList]
    exact hsz
  obtain ⟨os, hos, hcs, hds⟩ := id hs
  have hTs : s.TypeIs (.ref sl) "slice" := ⟨os, hos, hcs⟩
  unfold getItem
  try with_reducible refine wpAny_holding ?_
  first | refine wpAny_bind (wpAny_pure ?_) | skip
  refine wpAny_bind (wpAny_sequenceKey ht.typeIs (by decide) ?_)
  refine wpAny_bind (wpAny_callSpecial?_slot (name := Str.ofString "__getitem__") ht.typeIs PyProof.Rows.slot_tuple_getitem
    (wpAny_call_entry PyProof.Rows.slot_tuple_getitem ht.typeIs entry_tuple_getitem ?_ (args_tuple_getitem _ _)))
  show wpAny _ _ (Builtin.Tuple.tupleItemsOf (.ref t) >>= _) _ _ s
  refine wpAny_bind (tupleItemsOf_ ht ?_)
  refine wpAny_bind (wpAny_typeOf hTs ?_)
  rw [if_pos (by decide)]
  refine wpAny_bind (sliceApplied_rev hs pl pu ps ?_)
  have hno : ¬ ((((items.size : Int) - 1) == 0 && (-1 : Int) == 1 && items.size == items.size) = true) := by
    intro q
    rw [Bool.and_eq_true, Bool.and_eq_true] at q
    exact absurd q.1.2 (by decide)
  show wpAny _ _ (if (((items.size : Int) - 1) == 0 && (-1 : Int) == 1 && items.size == items.size) = true then _ else _) _ _ s
  rw [if_neg hno, pick_rev]
  first
    | exact wpAny_bind (m := Builtin.Tuple.tupleExact _) (wpAny_newObj_type (wpAny_pure ⟨_, rfl, wpAny_pure h⟩) htake)
    | exact wpAny_bind (m := Builtin.Tuple.tupleExact _) (wpAny_newObj_type (wpAny_bind (wpAny_pure (wpAny_pure ⟨_, rfl, wpAny_pure h⟩))) htake)
    | exact wpAny_bind (wpAny_bind (m := Builtin.Tuple.tupleExact _) (wpAny_newObj_type (wpAny_pure (wpAny_pure ⟨_, rfl, wpAny_pure h⟩)) htake))
    | exact wpAny_bind (wpAny_bind (m := Builtin.Tuple.tupleExact _) (wpAny_newObj_type (wpAny_pure ⟨_, rfl, wpAny_pure h⟩) htake))
end
end HT
namespace Sm
open PySem L2 PyProof.Rows
/-- x[::-1], x a list or a tuple -/
def tRevA (K : PySem.W.Frag) (te : TE) : TE := fun σ H Q => te σ H fun x H1 => ∃ a xs, x = .ref a ∧ ((SqL K H1 a xs ∧ ∀ p, H1 p = none → Q (.ref p) (upd H1 p (.lst xs.reverse))) ∨ (SqT K H1 a xs ∧ ∀ p, H1 p = none → Q (.ref p) (upd H1 p (.tup xs.reverse))))
theorem pe_revA {X : Cx} {e : Expr} {te : TE} {k : Nat} {p1 p2 p3 pos : Pos} (he : PE X e te) : PE X (.Subscript e (.Slice none none (some (.UnaryOp .USub (.Constant (.int 1) k p1) p2)) p3) pos) (tRevA X.K te) := by
  refine ⟨fun pins s σ H Q I h => ?_⟩
  refine Subscript_ (thn (he.run pins s σ H _ I h) fun v s1 ⟨x, H1, I1, r1, q1⟩ => ?_)
  obtain ⟨a, xs, ex, q⟩ := q1
  subst ex
  cases r1
  have hst : PO X (some (.UnaryOp .USub (.Constant (.int 1) k p1) p2)) (tPart (tUn (rU fun i => .int (-i)) (tC (.int 1)))) := po_some (pe_un un_neg pe_int)
  refine wpAny_Slice (thn (po_none.run pins s1 σ H1 (fun o H2 => o = none ∧ H2 = H1) I1 ⟨rfl, rfl⟩) fun vl s2 ⟨l, H2, I2, pl, el, e2⟩ => ?_)
  subst el e2
  refine thn (po_none.run pins s2 σ H2 (fun o H3 => o = none ∧ H3 = H2) I2 ⟨rfl, rfl⟩) fun vu s3 ⟨u, H3, I3, pu, eu, e3⟩ => ?_
  subst eu e3
  refine thn (hst.run pins s3 σ H3 (fun o H4 => o = some (-1) ∧ H4 = H3) I3 ⟨1, rfl, -1, rfl, rfl, rfl⟩) fun vs s4 ⟨o, H4, I4, ps, eo, e4⟩ => ?_
  subst eo e4
  have I5 : Inv X pins σ H4 { s4 with heap := s4.heap.push { cls := .type "slice", data := .fields #[vl, vu, vs] } } := I4.kept (t' := s4.toks) fun b ob q => Heap.get?_push_of_some _ q
  show wpAny (model X.prog X.w) X.A (PyProof.Rows.subscriptTail e (.Slice none none (some (.UnaryOp .USub (.Constant (.int 1) k p1) p2)) p3) (.ref a) (.ref s4.heap.objs.size)) (EP X pins σ Q) X.xe { s4 with heap := s4.heap.push { cls := .type "slice", data := .fields #[vl, vu, vs] } }
  rcases q with ⟨hx, q⟩ | ⟨hx, q⟩
  · obtain ⟨its, r, ht, hz⟩ := I5.list hx
    have hlen := r.length
    refine PyProof.Rows.tail_any (ops := [.ref a, .ref s4.heap.objs.size]) ht.isList.typeIs (PySem.slot_list_getitem.lookup) ?_ (by with_unfolding_all rfl)
    refine wpAny_getItem_list_slice ht.isList (Heap.IsSliceOf.new _ vl vu vs) pl pu ps (by decide) ?_ (by rw [List.size_toArray]; omega)
    rw [PySem.W.krv_pick]
    refine ⟨.ref _, _, I5.laid (t' := s4.toks) (o := .lst xs.reverse) (fun b ob q => Heap.get?_push_of_some _ q) (Nat.le_refl _) ?_, rfl, q _ (I5.hok.fresh (Nat.le_refl _))⟩
    exact ⟨by rw [List.length_reverse]; exact hz, _, 0, r.reverse, Heap.get?_push_size _ rfl⟩
  · obtain ⟨its, r, ht, hz⟩ := I5.tuple hx
    have hlen := r.length
    refine PyProof.Rows.tail_any (ops := [.ref a, .ref s4.heap.objs.size]) ht.typeIs (PyProof.Rows.slot_tuple_getitem.lookup) ?_ (by with_unfolding_all rfl)
    refine HT.getItem_tuple_rev ht (Heap.IsSliceOf.new _ vl vu vs) pl pu ps ?_ (by rw [List.size_toArray]; omega)
    refine ⟨.ref _, _, I5.laid (t' := s4.toks) (o := .tup xs.reverse) (fun b ob q => Heap.get?_push_of_some _ q) (Nat.le_refl _) ?_, rfl, q _ (I5.hok.fresh (Nat.le_refl _))⟩
    exact ⟨by rw [List.length_reverse]; exact hz, _, r.reverse, IsTup.new _ _⟩
section
variable {X : Cx} {C : Ctx} {sc : Scope} {tb : Tab} {N : List Str} {Φ : Nat → Spec} {cs : Nat → PyData}
theorem RDs.rev {K : PySem.W.Frag} {F : Hp} : ∀ {ds : List PyData} {vs : List V}, RDs K F vs ds → RDs K F vs.reverse ds.reverse
  | [], _, h => by
    have h : _ = [] := h
    subst h
    exact (rfl : ([] : List V) = [])
  | d :: ds, _, ⟨v, ws, e, h1, h2⟩ => by
    subst e
    rw [List.reverse_cons, List.reverse_cons]
    exact rds_snoc h1 (RDs.rev h2)
theorem sRvE (g : Good X C sc tb N Φ cs) {ma : E} {a : Expr} {k : Nat} {p1 p2 p3 pos : Pos} (ha : PE X a (tE C (evE Φ cs ma))) :
    PE X (.Subscript a (.Slice none none (some (.UnaryOp .USub (.Constant (.int 1) k p1) p2)) p3) pos) (tE C (evE Φ cs (.rv ma))) := by
  refine PE.imp (pe_revA ha) fun σ H Q h => ?_
  rw [g.k]
  refine go1 (rl := rlE C.K C.G) h fun x F1 env1 H1 v r1 _ hx h => ?_
  obtain ⟨d, ed, h⟩ := h.rd
  obtain ⟨r, er, q⟩ := h.opt
  have ro := hx.1.ro r1 ed
  have w := wantsGo r1 q
  cases d <;> simp only [rvD, reduceCtorEq, Option.some.injEq] at er
  · subst er
    obtain ⟨p, vs, rfl, hp, rp⟩ := ro.lst r1.fh
    exact ⟨p, vs, rfl, .inl ⟨.inl hp, fun b hb => w _ _ _ (.made r1.fh hb) ⟨b, rfl, hb, r1.fh.free hb, _, upd_same, rp.rev⟩⟩⟩
  · subst er
    obtain ⟨p, vs, rfl, hp, rp⟩ := ro.tup r1.fh
    exact ⟨p, vs, rfl, .inr ⟨hp, fun b hb => w _ _ _ (.laid r1.fh hb) ⟨b, _, rfl, SqT.of upd_same, RDs.mono (Ex.upd (r1.fh.free hb)) _ _ rp.rev⟩⟩⟩
/-! ### repr -/
section
variable {pins : List (Addr × Obj)} {σ : L2.St} {H : Hp} {s : Shared}
mutual
theorem reads_rd (I : Inv X pins σ H s) (hs : ∃ o, s.heap.get? sysModules = some o ∧ o.cls = .type "dict") : ∀ (d : PyData) (v : V) (u : Value), d.showable = true → RD X.K H v d → RelV v u → ∃ as, Reads s.heap u d as ∧ sysModules ∉ as
  | .none, _, _, _, h, r => by
    have h : _ = V.non := h
    subst h
    cases r
    exact ⟨_, Reads.none, by simp⟩
  | .bool b, _, _, _, h, r => by
    have h : _ = V.bl b := h
    subst h
    cases r
    exact ⟨_, Reads.bool b, by simp⟩
  | .int i, _, _, _, h, r => by
    have h : _ = V.int i := h
    subst h
    obtain ⟨t, rfl⟩ := r
    exact ⟨_, Reads.int i t, by simp⟩
  | .str x, _, _, _, h, r => by
    have h : _ = V.str x := h
    subst h
    obtain ⟨t, rfl⟩ := r
    exact ⟨_, Reads.str x t, by simp⟩
  | .list ds, _, _, w, ⟨a, vs, h1, h2, h3⟩, r => by
    subst h1
    cases r
    obtain ⟨its, rv, ⟨o, n, ho, hc, _, hd⟩, _⟩ := I.list (.inl h2)
    obtain ⟨as, hr, hn⟩ := readsAll_rd I hs ds vs its (by simpa [PyData.showable] using w) h3 rv
    refine ⟨_, Reads.list ho hc hd hr, fun m => ?_⟩
    rcases List.mem_cons.mp m with m | m
    · obtain ⟨o2, k1, k2⟩ := hs
      rw [m] at k1
      rw [ho] at k1
      cases k1
      rw [hc] at k2
      injection k2 with z
      exact absurd z (by decide)
    · exact hn m
  | .tuple ds, _, _, w, ⟨a, vs, h1, h2, h3⟩, r => by
    subst h1
    cases r
    obtain ⟨its, rv, ⟨o, ho, hc, n, hd⟩, _⟩ := I.tuple h2
    obtain ⟨as, hr, hn⟩ := readsAll_rd I hs ds vs its (by simpa [PyData.showable] using w) h3 rv
    exact ⟨_, Reads.tuple ho hc hd hr, hn⟩
  | .dict kvs, _, _, w, .inr ⟨a, C, φ, y, h1, h2, h3, h4⟩, r => by
    subst h2
    simp [PyData.showable, PyData.showableKv, huge_hid] at w
  | .dict kvs, _, _, w, .inl ⟨a, es, h1, h2, h3⟩, r => by
    subst h1
    cases r
    obtain ⟨z, hd, ps, rel, o, ea, ep, ho, hex, hdt, _, hp, _⟩ := dk_of I.hok h2
    obtain ⟨as, bs, k1, k2, k3, k4⟩ := readsKv_rd I hs kvs es ps ea.toList (by simpa [PyData.showable] using w) h3 rel hp
    refine ⟨_, Reads.dict ho hex.1 hdt k1 k2, fun m => ?_⟩
    rw [List.cons_append] at m
    rcases List.mem_cons.mp m with m | m
    · rw [← m] at hd
      simp at hd
    · rcases List.mem_append.mp m with m | m
      · exact k3 m
      · exact k4 m
theorem readsAll_rd (I : Inv X pins σ H s) (hs : ∃ o, s.heap.get? sysModules = some o ∧ o.cls = .type "dict") : ∀ (ds : List PyData) (vs : List V) (us : List Value), PyData.showableAll ds = true → RDs X.K H vs ds → Vals vs us → ∃ as, ReadsAll s.heap us ds as ∧ sysModules ∉ as
  | [], _, _, _, h, r => by
    have h : _ = [] := h
    subst h
    cases r
    exact ⟨_, ReadsAll.nil, by simp⟩
  | d :: ds, _, _, w, ⟨v, ws, e, h1, h2⟩, r => by
    subst e
    have w : d.showable = true ∧ PyData.showableAll ds = true := by simpa [PyData.showableAll] using w
    cases r with
    | cons r1 r2 =>
      obtain ⟨as, q1, n1⟩ := reads_rd I hs d _ _ w.1 h1 r1
      obtain ⟨bs, q2, n2⟩ := readsAll_rd I hs ds _ _ w.2 h2 r2
      exact ⟨_, ReadsAll.cons q1 q2, fun m => (List.mem_append.mp m).elim n1 n2⟩
theorem readsKv_rd (I : Inv X pins σ H s) (hs : ∃ o, s.heap.get? sysModules = some o ∧ o.cls = .type "dict") : ∀ (kvs : List (PyData × PyData)) (es : List (Key × V)) (ps : List (Key × Value)) (ea : List DictEntry), PyData.showableKv kvs = true → RDk X.K H es kvs → KV es ps → Pairs (mixKind X.prog X.w) ea ps →
    ∃ as bs, ReadsAll s.heap (ea.map (·.key)) (kvs.map (·.1)) as ∧ ReadsAll s.heap (ea.map (·.val)) (kvs.map (·.2)) bs ∧ sysModules ∉ as ∧ sysModules ∉ bs
  | [], _, _, _, _, h, r, p => by
    have h : _ = [] := h
    subst h
    cases r
    cases p
    exact ⟨_, _, ReadsAll.nil, ReadsAll.nil, by simp, by simp⟩
  | (k, d) :: kvs, _, _, _, w, ⟨q, v, es', e1, e2, h1, h2⟩, r, p => by
    have w : (k.showable = true ∧ d.showable = true) ∧ PyData.showableKv kvs = true := by simpa [PyData.showableKv] using w
    subst e1 e2
    cases r with
    | cons r1 r2 =>
      cases p with
      | @cons en kv _ _ p1 p2 p3 =>
        obtain ⟨r1a, r1b⟩ := r1
        obtain ⟨bs1, v1, n1⟩ := reads_rd I hs d _ _ w.1.2 h1 r1b
        obtain ⟨as, bs, w1, w2, w3, w4⟩ := readsKv_rd I hs kvs _ _ _ w.2 h2 r2 p3
        have hk : Reads s.heap en.key (kD q) [] := by
          have p1 : keyIs _ en.key = true := p1
          rw [← r1a] at p1
          rcases keyIs_shape p1 with ⟨i, t, e1, e2⟩ | ⟨x, t, e1, e2⟩
          · have e1 : q = Sum.inl i := e1
            rw [e2, e1]; exact Reads.int i t
          · have e1 : q = Sum.inr x := e1
            rw [e2, e1]; exact Reads.str x t
        refine ⟨[] ++ as, bs1 ++ bs, ReadsAll.cons hk w1, ReadsAll.cons (by show Reads s.heap en.val d bs1; rw [p2]; exact v1) w2, by simpa using w3, fun m => (List.mem_append.mp m).elim n1 w4⟩
end
end
theorem ro_rd {F H : Hp} {K : PySem.W.Frag} {v : V} {d : PyData} (e : Ex F H) (h : RO K F H v d) : RD K H v d := by
  rcases h with h | ⟨a, h1, h2⟩
  · exact RD.mono e d v h
  · cases d with
    | list ds =>
      obtain ⟨vs, h3, h4⟩ := h2
      exact ⟨a, vs, h1, .inl h3, RDs.mono e ds vs h4⟩
    | dict kvs =>
      obtain ⟨es, h3, h4⟩ := h2
      exact .inl ⟨a, es, h1, h3, RDk.mono e kvs es h4⟩
    | _ => exact h2.elim
theorem call_rep (hg : X.A.guards = some []) (hs : ∃ o, X.base.get? sysModules = some o ∧ o.cls = .type "dict") (hu : X.A.units + 65 < cLine) :
    CallR X (.builtin "repr") (fun xs H Q => ∃ v d, xs = [v] ∧ RD X.K H v d ∧ d.showable = true ∧ d.depth ≤ 60 ∧ d.shown.length ≤ sizeLine ∧ Q (.str d.shown) H) := by
  intro pins s σ H xs us Q I r h
  obtain ⟨v, d, rfl, hd, h1, h2, h3, q⟩ := h
  obtain ⟨u, rfl, ru⟩ := vals1 r
  have hsys : ∃ o, s.heap.get? sysModules = some o ∧ o.cls = .type "dict" := by
    obtain ⟨o, k1, k2⟩ := hs
    exact ⟨o, (I.bs _ _ k1).1, k2⟩
  obtain ⟨as, hr, hn⟩ := reads_rd I hsys d v u h1 hd ru
  have big : ∀ a, u = .ref a → wpAny (model X.prog X.w) X.A (call (.builtin "repr") [u]) (EP X pins σ Q) X.xe s := fun a e => by
    subst e
    refine repr_of_reads' hr h1 (fun _ => hn) hg (by omega) (fun _ _ z => z) (fun h' u' tk hk => ?_) h3
    exact ⟨.str d.shown, H, I.kept (t' := tk) hk, ⟨_, rfl⟩, q⟩
  cases hr with
  | none => exact PySem.P.repr_of_none ⟨.str _, H, I.tok _, ⟨_, rfl⟩, q⟩
  | bool b => exact PySem.P.repr_of_bool ⟨.str _, H, I.tok _, ⟨_, rfl⟩, q⟩
  | int i t => exact PySem.P.repr_of_int (by simpa [PyData.showable] using h1) ⟨.str _, H, I.tok _, ⟨_, rfl⟩, q⟩
  | str x t => exact PySem.P.repr_of_str ⟨.str _, H, I.tok _, ⟨_, rfl⟩, q⟩ h3
  | list _ _ _ _ => exact big _ rfl
  | tuple _ _ _ _ => exact big _ rfl
  | dict _ _ _ _ _ => exact big _ rfl
theorem sRepE (g : Good X C sc tb N Φ cs) {ma : E} {a : Expr} {x : Str} {p pos : Pos} (hr : tb.rp = true) (hx : x = "repr") (hg : glB sc x = true) (ha : PE X a (tE C (evE Φ cs ma))) (ka : okE a = true) : PE X (.Call (.Name x p) [a] [] pos) (tE C (evE Φ cs (.rep ma))) := by
  subst hx
  obtain ⟨h1, h2⟩ := g.rp hr
  have hs := ok_star ka [] X.env
  refine PE.imp (pe_callB (pos := pos) (p := p) (call_rep h1 h2 g.un) (g.gl hg) (g.bi _ (by decide +kernel)) (by decide +kernel) (pa_cons ha pa_nil hs) (by decide +kernel) (by decide +kernel) hs (by rfl)) fun σ H Q h => ?_
  refine go1 (rl := rlE C.K C.G) h fun x F1 env1 H1 v r1 _ hx h => ?_
  obtain ⟨d, ed, h⟩ := h.rd
  obtain ⟨r, er, q⟩ := h.opt
  have ro := hx.1.ro r1 ed
  unfold repD at er
  obtain ⟨c, rfl⟩ := Sm.ifs er
  rw [Bool.and_eq_true, Bool.and_eq_true, decide_eq_true_eq] at c
  obtain ⟨⟨c1, c2⟩, c3⟩ := c
  rw [g.k]
  exact ⟨v, d, rfl, ro_rd r1.fh ro, c1, c2, fits_le c3, q _ F1 H1 r1 .refl ⟨rfl, trivial⟩⟩
end
end Sm

set_option maxRecDepth 100000
set_option maxHeartbeats 4000000
namespace Sm
open PySem L2
/-! ### what a text that fits looks like -/
section
variable {tb : Tab} {N : List Str} {sc : Scope} {e : Expr}
theorem iv_nm {i : Nat} (h : chE tb N sc (.nm i) e = true) : ∃ x p, e = .Name x p ∧ ((N[i]? = some x ∧ visB sc x = true) ∧ plainN x = true) := by
  unfold chE at h
  split at h <;> first
    | (rename_i e1; cases e1; done)
    | exact absurd h Bool.false_ne_true
    | (rename_i e1; cases e1)
  try simp only [Bool.and_eq_true, decide_eq_true_eq, Bool.not_eq_true'] at h
  exact ⟨_, _, rfl, h⟩
theorem iv_cst {k : Nat} (h : chE tb N sc (.cst k) e = true) : ∃ x p, e = .Name x p ∧ ((x = tb.cn k ∧ glB sc x = true) ∧ plainN x = true) := by
  unfold chE at h
  split at h <;> first
    | (rename_i e1; cases e1; done)
    | exact absurd h Bool.false_ne_true
    | (rename_i e1; cases e1)
  try simp only [Bool.and_eq_true, decide_eq_true_eq, Bool.not_eq_true'] at h
  exact ⟨_, _, rfl, h⟩
theorem iv_lit {d : PyData} (h : chE tb N sc (.lit d) e = true) : ∃ c k p, e = .Constant c k p ∧ litB c d = true := by
  unfold chE at h
  split at h <;> first
    | (rename_i e1; cases e1; done)
    | exact absurd h Bool.false_ne_true
    | (rename_i e1; cases e1)
  try simp only [Bool.and_eq_true, decide_eq_true_eq, Bool.not_eq_true'] at h
  exact ⟨_, _, _, rfl, h⟩
theorem iv_bin {o : BO} {a b : E} (h : chE tb N sc (.bin o a b) e = true) : ∃ a' b' p q, e = .BinOp a' q b' p ∧ ((q = opB o ∧ chE tb N sc a a' = true) ∧ chE tb N sc b b' = true) := by
  unfold chE at h
  split at h <;> first
    | (rename_i e1; cases e1; done)
    | exact absurd h Bool.false_ne_true
    | (rename_i e1; cases e1)
  try simp only [Bool.and_eq_true, decide_eq_true_eq, Bool.not_eq_true'] at h
  exact ⟨_, _, _, _, rfl, h⟩
theorem iv_neg {a : E} (h : chE tb N sc (.neg a) e = true) : ∃ a' p, e = .UnaryOp .USub a' p ∧ chE tb N sc a a' = true := by
  unfold chE at h
  split at h <;> first
    | (rename_i e1; cases e1; done)
    | exact absurd h Bool.false_ne_true
    | (rename_i e1; cases e1)
  try simp only [Bool.and_eq_true, decide_eq_true_eq, Bool.not_eq_true'] at h
  exact ⟨_, _, rfl, h⟩
theorem iv_not {a : E} (h : chE tb N sc (.not a) e = true) : ∃ a' p, e = .UnaryOp .Not a' p ∧ chE tb N sc a a' = true := by
  unfold chE at h
  split at h <;> first
    | (rename_i e1; cases e1; done)
    | exact absurd h Bool.false_ne_true
    | (rename_i e1; cases e1)
  try simp only [Bool.and_eq_true, decide_eq_true_eq, Bool.not_eq_true'] at h
  exact ⟨_, _, rfl, h⟩
theorem iv_cmp {o : CO} {a b : E} (h : chE tb N sc (.cmp o a b) e = true) : ∃ a' b' p q, e = .Compare a' [q] [b'] p ∧ ((q = opOf o ∧ chE tb N sc a a' = true) ∧ chE tb N sc b b' = true) := by
  unfold chE at h
  split at h <;> first
    | (rename_i e1; cases e1; done)
    | exact absurd h Bool.false_ne_true
    | (rename_i e1; cases e1)
  try simp only [Bool.and_eq_true, decide_eq_true_eq, Bool.not_eq_true'] at h
  exact ⟨_, _, _, _, rfl, h⟩
theorem iv_ch {o p : CO} {a b c : E} (h : chE tb N sc (.ch o p a b c) e = true) : ∃ a' b' c' o' p' pos, e = .Compare a' [o', p'] [b', c'] pos ∧ ((((o' = opOf o ∧ p' = opOf p) ∧ chE tb N sc a a' = true) ∧ chE tb N sc b b' = true) ∧ chE tb N sc c c' = true) := by
  unfold chE at h
  split at h <;> first
    | (rename_i e1; cases e1; done)
    | exact absurd h Bool.false_ne_true
    | (rename_i e1; cases e1)
  try simp only [Bool.and_eq_true, decide_eq_true_eq, Bool.not_eq_true'] at h
  exact ⟨_, _, _, _, _, _, rfl, h⟩
theorem iv_isNfalse {a : E} (h : chE tb N sc (.isN a false) e = true) : ∃ a' k p2 p, e = .Compare a' [.Is] [.Constant .none k p2] p ∧ chE tb N sc a a' = true := by
  unfold chE at h
  split at h <;> first
    | (rename_i e1; cases e1; done)
    | exact absurd h Bool.false_ne_true
    | (rename_i e1; cases e1)
  try simp only [Bool.and_eq_true, decide_eq_true_eq, Bool.not_eq_true'] at h
  exact ⟨_, _, _, _, rfl, h⟩
theorem iv_isBfalse {a : E} {k : Bool} (h : chE tb N sc (.isB a k false) e = true) : ∃ a' k' j p2 p, e = .Compare a' [.Is] [.Constant (.bool k') j p2] p ∧ (chE tb N sc a a' = true ∧ k = k') := by
  unfold chE at h
  split at h <;> first
    | (rename_i e1; cases e1; done)
    | exact absurd h Bool.false_ne_true
    | (rename_i e1; cases e1)
  simp only [Bool.and_eq_true, beq_iff_eq] at h
  exact ⟨_, _, _, _, _, rfl, h⟩
theorem iv_isNtrue {a : E} (h : chE tb N sc (.isN a true) e = true) : ∃ a' k p2 p, e = .Compare a' [.IsNot] [.Constant .none k p2] p ∧ chE tb N sc a a' = true := by
  unfold chE at h
  split at h <;> first
    | (rename_i e1; cases e1; done)
    | exact absurd h Bool.false_ne_true
    | (rename_i e1; cases e1)
  try simp only [Bool.and_eq_true, decide_eq_true_eq, Bool.not_eq_true'] at h
  exact ⟨_, _, _, _, rfl, h⟩
theorem iv_isBtrue {a : E} {k : Bool} (h : chE tb N sc (.isB a k true) e = true) : ∃ a' k' j p2 p, e = .Compare a' [.IsNot] [.Constant (.bool k') j p2] p ∧ (chE tb N sc a a' = true ∧ k = k') := by
  unfold chE at h
  split at h <;> first
    | (rename_i e1; cases e1; done)
    | exact absurd h Bool.false_ne_true
    | (rename_i e1; cases e1)
  simp only [Bool.and_eq_true, beq_iff_eq] at h
  exact ⟨_, _, _, _, _, rfl, h⟩
theorem iv_and {as : A} (h : chE tb N sc (.and as) e = true) : ∃ es p, e = .BoolOp .And es p ∧ (es.isEmpty = false ∧ chA tb N sc as es = true) := by
  unfold chE at h
  split at h <;> first
    | (rename_i e1; cases e1; done)
    | exact absurd h Bool.false_ne_true
    | (rename_i e1; cases e1)
  try simp only [Bool.and_eq_true, decide_eq_true_eq, Bool.not_eq_true'] at h
  exact ⟨_, _, rfl, h⟩
theorem iv_or {as : A} (h : chE tb N sc (.or as) e = true) : ∃ es p, e = .BoolOp .Or es p ∧ (es.isEmpty = false ∧ chA tb N sc as es = true) := by
  unfold chE at h
  split at h <;> first
    | (rename_i e1; cases e1; done)
    | exact absurd h Bool.false_ne_true
    | (rename_i e1; cases e1)
  try simp only [Bool.and_eq_true, decide_eq_true_eq, Bool.not_eq_true'] at h
  exact ⟨_, _, rfl, h⟩
theorem iv_ife {c a b : E} (h : chE tb N sc (.ife c a b) e = true) : ∃ c' a' b' p, e = .IfExp c' a' b' p ∧ ((chE tb N sc c c' = true ∧ chE tb N sc a a' = true) ∧ chE tb N sc b b' = true) := by
  unfold chE at h
  split at h <;> first
    | (rename_i e1; cases e1; done)
    | exact absurd h Bool.false_ne_true
    | (rename_i e1; cases e1)
  try simp only [Bool.and_eq_true, decide_eq_true_eq, Bool.not_eq_true'] at h
  exact ⟨_, _, _, _, rfl, h⟩
theorem iv_ix {a b : E} (h : chE tb N sc (.ix a b) e = true) : ∃ a' b' p, e = .Subscript a' b' p ∧ (chE tb N sc a a' = true ∧ chE tb N sc b b' = true) := by
  unfold chE at h
  split at h <;> first
    | (rename_i e1; cases e1; done)
    | exact absurd h Bool.false_ne_true
    | (rename_i e1; cases e1)
  try simp only [Bool.and_eq_true, decide_eq_true_eq, Bool.not_eq_true'] at h
  exact ⟨_, _, _, rfl, h⟩
theorem iv_sl {a : E} {lo hi : OE} (h : chE tb N sc (.sl a lo hi) e = true) : ∃ a' l h p2 p, e = .Subscript a' (.Slice l h none p2) p ∧ ((chE tb N sc a a' = true ∧ chO tb N sc lo l = true) ∧ chO tb N sc hi h = true) := by
  unfold chE at h
  split at h <;> first
    | (rename_i e1; cases e1; done)
    | exact absurd h Bool.false_ne_true
    | (rename_i e1; cases e1)
  try simp only [Bool.and_eq_true, decide_eq_true_eq, Bool.not_eq_true'] at h
  exact ⟨_, _, _, _, _, rfl, h⟩
theorem iv_tup {as : A} (h : chE tb N sc (.tup as) e = true) : ∃ es k p, e = .Tuple es k p ∧ chA tb N sc as es = true := by
  unfold chE at h
  split at h <;> first
    | (rename_i e1; cases e1; done)
    | exact absurd h Bool.false_ne_true
    | (rename_i e1; cases e1)
  try simp only [Bool.and_eq_true, decide_eq_true_eq, Bool.not_eq_true'] at h
  exact ⟨_, _, _, rfl, h⟩
theorem iv_lst {as : A} (h : chE tb N sc (.lst as) e = true) : ∃ es p, e = .List es p ∧ chA tb N sc as es = true := by
  unfold chE at h
  split at h <;> first
    | (rename_i e1; cases e1; done)
    | exact absurd h Bool.false_ne_true
    | (rename_i e1; cases e1)
  try simp only [Bool.and_eq_true, decide_eq_true_eq, Bool.not_eq_true'] at h
  exact ⟨_, _, rfl, h⟩
theorem iv_call {f : Nat} {as : A} (h : chE tb N sc (.call f as) e = true) : ∃ x es q p, e = .Call (.Name x q) es [] p ∧ ((((x = tb.fn f ∧ glB sc x = true) ∧ plainN x = true) ∧ es.isEmpty = false) ∧ chA tb N sc as es = true) := by
  unfold chE at h
  split at h <;> first
    | (rename_i e1; cases e1; done)
    | exact absurd h Bool.false_ne_true
    | (rename_i e1; cases e1)
  try simp only [Bool.and_eq_true, decide_eq_true_eq, Bool.not_eq_true'] at h
  exact ⟨_, _, _, _, rfl, h⟩
theorem iv_calls {f : Nat} {as : A} (h : chE tb N sc (.calls f as) e = true) : ∃ x es q p, e = .Call (.Name x q) es [] p ∧ ((((x = tb.fn f ∧ glB sc x = true) ∧ plainN x = true) ∧ es.isEmpty = false) ∧ chA tb N sc as es = true) := by
  unfold chE at h
  split at h <;> first
    | (rename_i e1; cases e1; done)
    | exact absurd h Bool.false_ne_true
    | (rename_i e1; cases e1)
  try simp only [Bool.and_eq_true, decide_eq_true_eq, Bool.not_eq_true'] at h
  exact ⟨_, _, _, _, rfl, h⟩
theorem iv_bi {b : BI} {a : E} (h : chE tb N sc (.bi b a) e = true) : ∃ x a' q p, e = .Call (.Name x q) [a'] [] p ∧ ((x = biN b ∧ glB sc x = true) ∧ chE tb N sc a a' = true) := by
  unfold chE at h
  split at h <;> first
    | (rename_i e1; cases e1; done)
    | exact absurd h Bool.false_ne_true
    | (rename_i e1; cases e1)
  try simp only [Bool.and_eq_true, decide_eq_true_eq, Bool.not_eq_true'] at h
  exact ⟨_, _, _, _, rfl, h⟩
theorem iv_rep {a : E} (h : chE tb N sc (.rep a) e = true) : ∃ x q a' p, e = .Call (.Name x q) [a'] [] p ∧ ((tb.rp = true ∧ x = "repr") ∧ glB sc x = true) ∧ chE tb N sc a a' = true := by
  unfold chE at h
  split at h <;> first
    | (rename_i e1; cases e1; done)
    | exact absurd h Bool.false_ne_true
    | (rename_i e1; cases e1)
  simp only [Bool.and_eq_true, decide_eq_true_eq] at h
  exact ⟨_, _, _, _, rfl, h⟩
theorem iv_rv {a : E} (h : chE tb N sc (.rv a) e = true) : ∃ a' k p1 p2 p3 p, e = .Subscript a' (.Slice none none (some (.UnaryOp .USub (.Constant (.int 1) k p1) p2)) p3) p ∧ chE tb N sc a a' = true := by
  unfold chE at h
  split at h <;> first
    | (rename_i e1; cases e1; done)
    | exact absurd h Bool.false_ne_true
    | (rename_i e1; cases e1)
  exact ⟨_, _, _, _, _, _, rfl, h⟩
theorem iv_mx {a b : E} (h : chE tb N sc (.mx a b) e = true) : ∃ x q a' b' p, e = .Call (.Name x q) [a', b'] [] p ∧ ((x = "max" ∧ glB sc x = true) ∧ chE tb N sc a a' = true) ∧ chE tb N sc b b' = true := by
  unfold chE at h
  split at h <;> first
    | (rename_i e1; cases e1; done)
    | exact absurd h Bool.false_ne_true
    | (rename_i e1; cases e1)
  simp only [Bool.and_eq_true, decide_eq_true_eq] at h
  exact ⟨_, _, _, _, _, rfl, h⟩
theorem iv_cinf {k : Nat} {a : E} (h : chE tb N sc (.cin k a false) e = true) : ∃ x q a' p, e = .Compare a' [.In] [.Name x q] p ∧ ((x = tb.dn k ∧ glB sc x = true) ∧ plainN x = true) ∧ chE tb N sc a a' = true := by
  unfold chE at h
  split at h <;> first
    | (rename_i e1; cases e1; done)
    | exact absurd h Bool.false_ne_true
    | (rename_i e1; cases e1)
  simp only [Bool.and_eq_true, decide_eq_true_eq] at h
  exact ⟨_, _, _, _, rfl, h⟩
theorem iv_cint {k : Nat} {a : E} (h : chE tb N sc (.cin k a true) e = true) : ∃ x q a' p, e = .Compare a' [.NotIn] [.Name x q] p ∧ ((x = tb.dn k ∧ glB sc x = true) ∧ plainN x = true) ∧ chE tb N sc a a' = true := by
  unfold chE at h
  split at h <;> first
    | (rename_i e1; cases e1; done)
    | exact absurd h Bool.false_ne_true
    | (rename_i e1; cases e1)
  simp only [Bool.and_eq_true, decide_eq_true_eq] at h
  exact ⟨_, _, _, _, rfl, h⟩
theorem iv_cix {k : Nat} {a : E} (h : chE tb N sc (.cix k a) e = true) : ∃ x q a' p, e = .Subscript (.Name x q) a' p ∧ ((x = tb.dn k ∧ glB sc x = true) ∧ plainN x = true) ∧ chE tb N sc a a' = true := by
  unfold chE at h
  split at h <;> first
    | (rename_i e1; cases e1; done)
    | exact absurd h Bool.false_ne_true
    | (rename_i e1; cases e1)
  simp only [Bool.and_eq_true, decide_eq_true_eq] at h
  exact ⟨_, _, _, _, rfl, h⟩
theorem iv_dd {ks : List Str} {as : A} (h : chE tb N sc (.dd ks as) e = true) : ∃ keys vals p, e = .Dict keys vals p ∧ (((keysB ks keys = true ∧ ks.Nodup) ∧ ks.length ≤ 15) ∧ ks.length = vals.length) ∧ chA tb N sc as vals = true := by
  unfold chE at h
  split at h <;> first
    | (rename_i e1; cases e1; done)
    | exact absurd h Bool.false_ne_true
    | (rename_i e1; cases e1)
  simp only [Bool.and_eq_true, decide_eq_true_eq] at h
  exact ⟨_, _, _, rfl, h⟩
theorem iv_isi1 {a : E} {t : Ty} (h : chE tb N sc (.isi a [t] false) e = true) : ∃ x q a' y q2 p, e = .Call (.Name x q) [a', .Name y q2] [] p ∧ ((x = "isinstance" ∧ glB sc x = true) ∧ chE tb N sc a a' = true) ∧ y = Str.ofString (tyN t) ∧ glB sc y = true := by
  unfold chE at h
  split at h <;> first
    | (rename_i e1; cases e1; done)
    | exact absurd h Bool.false_ne_true
    | (rename_i e1; cases e1)
  simp only [Bool.and_eq_true, decide_eq_true_eq, tyB, and_true] at h
  exact ⟨_, _, _, _, _, _, rfl, ⟨h.1, h.2⟩⟩
theorem iv_isi0 {a : E} {ts : List Ty} (h : chE tb N sc (.isi a ts false) e = true) : ∃ t, ts = [t] := by
  unfold chE at h
  split at h <;> first
    | (rename_i e1; cases e1; done)
    | exact absurd h Bool.false_ne_true
    | (rename_i e1; cases e1)
  exact ⟨_, rfl⟩
theorem iv_isiN {a : E} {ts : List Ty} (h : chE tb N sc (.isi a ts true) e = true) : ∃ x q a' ys k q2 p, e = .Call (.Name x q) [a', .Tuple ys k q2] [] p ∧ (((x = "isinstance" ∧ glB sc x = true) ∧ chE tb N sc a a' = true) ∧ tyB ys ts sc = true) ∧ ts.length ≤ 100 := by
  unfold chE at h
  split at h <;> first
    | (rename_i e1; cases e1; done)
    | exact absurd h Bool.false_ne_true
    | (rename_i e1; cases e1)
  simp only [Bool.and_eq_true, decide_eq_true_eq] at h
  exact ⟨_, _, _, _, _, _, _, rfl, h⟩
theorem iv_lc {elt : E} {t : T} {it : I} {cs : A} {own : List Nat} (h : chE tb N sc (.lc elt t it cs own) e = true) : ∃ elt' tg iter ifs scope p, e = .ListComp elt' [⟨tg, iter, ifs, 0⟩] scope p ∧
    chI tb N sc it iter = true ∧ blkC N sc scope (names N own) = true ∧ (∀ i ∈ slT t, i ∈ own) ∧ ((∃ ts, t = .tup ts) ∨ tupIt it = false) ∧
      chTg N (relS scope sc) (fun x => scope.names.lookup x == some .cell) t tg = true ∧ chE tb N (relS scope sc) elt elt' = true ∧ chA tb N (relS scope sc) cs ifs = true := by
  unfold chE at h
  split at h <;> first
    | (rename_i e1; cases e1; done)
    | exact absurd h Bool.false_ne_true
    | (rename_i e1; cases e1)
  simp only [Bool.and_eq_true, decide_eq_true_eq] at h
  obtain ⟨⟨⟨⟨⟨⟨h1, h2⟩, h3⟩, h4⟩, h5⟩, h6⟩, h7⟩ := h
  refine ⟨_, _, _, _, _, _, rfl, h1, h2, h3, ?_, h5, h6, h7⟩
  cases t with
  | tup ts => exact .inl ⟨ts, rfl⟩
  | nm i => exact .inr (by simpa using h4)
theorem tg_tup {fnB : Str → Bool} {ts : Ts} {e : Expr} (h : chTg N sc fnB (.tup ts) e = true) : ∃ es k p, e = .Tuple es k p := by
  cases e <;> first | exact ⟨_, _, _, rfl⟩ | (simp [chTg] at h)
theorem iv_sq {a : E} (h : chI tb N sc (.sq a) e = true) : chE tb N sc a e = true := by
  unfold chI at h
  exact h
theorem iv_r1 {a : E} (h : chI tb N sc (.r1 a) e = true) : ∃ x q a' p, e = .Call (.Name x q) [a'] [] p ∧ (x = "range" ∧ glB sc x = true) ∧ chE tb N sc a a' = true := by
  unfold chI at h
  split at h <;> first
    | (rename_i e1; cases e1; done)
    | exact absurd h Bool.false_ne_true
    | (rename_i e1; cases e1)
  simp only [Bool.and_eq_true, decide_eq_true_eq] at h
  exact ⟨_, _, _, _, rfl, h⟩
theorem iv_r2 {a b : E} (h : chI tb N sc (.r2 a b) e = true) : ∃ x q a' b' p, e = .Call (.Name x q) [a', b'] [] p ∧ ((x = "range" ∧ glB sc x = true) ∧ chE tb N sc a a' = true) ∧ chE tb N sc b b' = true := by
  unfold chI at h
  split at h <;> first
    | (rename_i e1; cases e1; done)
    | exact absurd h Bool.false_ne_true
    | (rename_i e1; cases e1)
  simp only [Bool.and_eq_true, decide_eq_true_eq] at h
  exact ⟨_, _, _, _, _, rfl, h⟩
theorem iv_zip {a b : E} (h : chI tb N sc (.zip a b) e = true) : ∃ x q a' b' p, e = .Call (.Name x q) [a', b'] [] p ∧ ((x = "zip" ∧ glB sc x = true) ∧ chE tb N sc a a' = true) ∧ chE tb N sc b b' = true := by
  unfold chI at h
  split at h <;> first
    | (rename_i e1; cases e1; done)
    | exact absurd h Bool.false_ne_true
    | (rename_i e1; cases e1)
  simp only [Bool.and_eq_true, decide_eq_true_eq] at h
  exact ⟨_, _, _, _, _, rfl, h⟩
theorem iv_zip3 {a b c : E} (h : chI tb N sc (.zip3 a b c) e = true) : ∃ x q a' b' c' p, e = .Call (.Name x q) [a', b', c'] [] p ∧ (((x = "zip" ∧ glB sc x = true) ∧ chE tb N sc a a' = true) ∧ chE tb N sc b b' = true) ∧ chE tb N sc c c' = true := by
  unfold chI at h
  split at h <;> first
    | (rename_i e1; cases e1; done)
    | exact absurd h Bool.false_ne_true
    | (rename_i e1; cases e1)
  simp only [Bool.and_eq_true, decide_eq_true_eq] at h
  exact ⟨_, _, _, _, _, _, rfl, h⟩
theorem iv_star {a b : E} (h : chE tb N sc (.star a b) e = true) : ∃ a' p b' k q, e = .Tuple [.Starred a' p, b'] k q ∧ chE tb N sc a a' = true ∧ chE tb N sc b b' = true := by
  unfold chE at h
  split at h <;> first
    | (rename_i e1; cases e1; done)
    | exact absurd h Bool.false_ne_true
    | (rename_i e1; cases e1)
  simp only [Bool.and_eq_true, decide_eq_true_eq] at h
  exact ⟨_, _, _, _, _, rfl, h⟩
theorem iv_isx {a : E} {x : Str} {ys : List (Str × Bool)} (h : chE tb N sc (.isx a x ys) e = true) : ∃ f p a' y p2 q, e = .Call (.Name f p) [a', .Name y p2] [] q ∧ (((((f = "isinstance" ∧ glB sc f = true) ∧ chE tb N sc a a' = true) ∧ y = x) ∧ glB sc y = true) ∧ plainN y = true) ∧ (x, ys) ∈ tb.xi.ec := by
  unfold chE at h
  split at h <;> first
    | (rename_i e1; cases e1; done)
    | exact absurd h Bool.false_ne_true
    | (rename_i e1; cases e1)
  simp only [Bool.and_eq_true, decide_eq_true_eq] at h
  exact ⟨_, _, _, _, _, _, rfl, h⟩
theorem iv_mkx {a : E} {x : Str} (h : chE tb N sc (.mkx x a) e = true) : ∃ f p a' q, e = .Call (.Name f p) [a'] [] q ∧ (((f = x ∧ glB sc f = true) ∧ plainN f = true) ∧ x ∈ tb.xi.xs) ∧ chE tb N sc a a' = true := by
  unfold chE at h
  split at h <;> first
    | (rename_i e1; cases e1; done)
    | exact absurd h Bool.false_ne_true
    | (rename_i e1; cases e1)
  simp only [Bool.and_eq_true, decide_eq_true_eq] at h
  exact ⟨_, _, _, _, rfl, h⟩
theorem iv_enum {a : E} (h : chI tb N sc (.enum a) e = true) : ∃ x q a' p, e = .Call (.Name x q) [a'] [] p ∧ (x = "enumerate" ∧ glB sc x = true) ∧ chE tb N sc a a' = true := by
  unfold chI at h
  split at h <;> first
    | (rename_i e1; cases e1; done)
    | exact absurd h Bool.false_ne_true
    | (rename_i e1; cases e1)
  simp only [Bool.and_eq_true, decide_eq_true_eq] at h
  exact ⟨_, _, _, _, rfl, h⟩
theorem chI_fold {it : I} (h : chI tb N sc it e = true) (env : PySem.Env) (x : Value) : foldedSetIterable e env x = pure x := by
  cases it with
  | sq a => exact ok_fold (chE_ok a e (iv_sq h)) env x
  | r1 a => obtain ⟨_, _, _, _, rfl, _⟩ := iv_r1 h; rfl
  | r2 a b => obtain ⟨_, _, _, _, _, rfl, _⟩ := iv_r2 h; rfl
  | zip3 a b c => obtain ⟨_, _, _, _, _, _, rfl, _⟩ := iv_zip3 h; rfl
  | zip a b => obtain ⟨_, _, _, _, _, rfl, _⟩ := iv_zip h; rfl
  | enum a => obtain ⟨_, _, _, _, rfl, _⟩ := iv_enum h; rfl
end
end Sm

set_option maxRecDepth 100000
set_option maxHeartbeats 4000000
namespace Sm
open PySem L2
/-! ### expressions: what fits is done -/
structure SA (X : Cx) (C : Ctx) (Φ : Nat → Spec) (cs : Nat → PyData) (as : A) (es : List Expr) : Prop where
  a : PA X es (tA C (evA Φ cs as))
  r : PA X es (tR C (evR Φ cs as))
  ts : PTs X es (tT C (evTs Φ cs as))
  d : DD X C Φ cs as es
  b : ∀ a r, as = .cons a r → ∀ pos, (PE X (.BoolOp .And es pos) (tE C (evAnd Φ cs as)) ∧ PE X (.BoolOp .Or es pos) (tE C (evOr Φ cs as))) ∧ PW X (.BoolOp .And es pos) (tT C (evAndT Φ cs as)) ∧ PW X (.BoolOp .Or es pos) (tT C (evOrT Φ cs as))
section
variable {tb : Tab} {N : List Str} {Φ : Nat → Spec} {cs : Nat → D}
theorem pt_of {X : Cx} {C : Ctx} {sc : Scope} (g : Good X C sc tb N Φ cs) {m : M R} {e : Expr} (he : PE X e (tE C m)) (hv : valT e = true) : PT X e (tT C (both m).2) := by
  refine PT.imp (pt_truth he (val_true hv _)) fun σ H Q h => ?_
  rw [g.k]
  exact truthOf h
mutual
theorem mE : ∀ (m : E) {X : Cx} {C : Ctx} {sc : Scope} (g : Good X C sc tb N Φ cs) (e : Expr), chE tb N sc m e = true → PE X e (tE C (evE Φ cs m)) ∧ PT X e (tT C (evT Φ cs m))
  | .nm i, X, C, sc, g, e, h => by
    obtain ⟨x, p, rfl, ⟨h1, h2⟩, h3⟩ := iv_nm h
    have k := sNm (pos := p) g (decide_eq_true h1) h2 h3
    exact ⟨k, pt_of g k rfl⟩
  | .cst i, X, C, sc, g, e, h => by
    obtain ⟨x, p, rfl, ⟨h1, h2⟩, h3⟩ := iv_cst h
    have k := sCst (pos := p) g (decide_eq_true h1) h2 h3
    exact ⟨k, pt_of g k rfl⟩
  | .lit d, X, C, sc, g, e, h => by
    obtain ⟨c, k, p, rfl, h1⟩ := iv_lit h
    have k := sLit (X := X) (C := C) (Φ := Φ) (cs := cs) (k := k) (pos := p) h1
    exact ⟨k, pt_of g k rfl⟩
  | .bin o a b, X, C, sc, g, e, h => by
    obtain ⟨a', b', p, q, rfl, ⟨rfl, h1⟩, h2⟩ := iv_bin h
    have k := sBinE (o := o) (pos := p) g (mE a g a' h1).1 (mE b g b' h2).1
    exact ⟨k, pt_of g k rfl⟩
  | .neg a, X, C, sc, g, e, h => by
    obtain ⟨a', p, rfl, h1⟩ := iv_neg h
    have k := sNegE (pos := p) (mE a g a' h1).1
    exact ⟨k, pt_of g k rfl⟩
  | .cmp o a b, X, C, sc, g, e, h => by
    obtain ⟨a', b', p, q, rfl, ⟨rfl, h1⟩, h2⟩ := iv_cmp h
    exact sCmpE (o := o) (pos := p) g (mE a g a' h1).1 (mE b g b' h2).1 (chE_ok b b' h2)
  | .isN a false, X, C, sc, g, e, h => by
    obtain ⟨a', k, p2, p, rfl, h1⟩ := iv_isNfalse h
    exact sIsN (mE a g a' h1).1
  | .isN a true, X, C, sc, g, e, h => by
    obtain ⟨a', k, p2, p, rfl, h1⟩ := iv_isNtrue h
    exact sNotN (mE a g a' h1).1
  | .isB a b false, X, C, sc, g, e, h => by
    obtain ⟨a', k, j, p2, p, rfl, h1, rfl⟩ := iv_isBfalse h
    exact sIsB (mE a g a' h1).1
  | .isB a b true, X, C, sc, g, e, h => by
    obtain ⟨a', k, j, p2, p, rfl, h1, rfl⟩ := iv_isBtrue h
    exact sNotB (mE a g a' h1).1
  | .ch o p a b c, X, C, sc, g, e, h => by
    obtain ⟨a', b', c', o', p', pos, rfl, ⟨⟨⟨rfl, rfl⟩, h1⟩, h2⟩, h3⟩ := iv_ch h
    exact sChE g (mE a g a' h1).1 (mE b g b' h2).1 (mE c g c' h3).1 (chE_ok c c' h3)
  | .and as, X, C, sc, g, e, h => by
    obtain ⟨es, p, rfl, h0, h1⟩ := iv_and h
    have k := mA as g es h1
    cases as with
    | nil => cases es with
      | nil => cases h0
      | cons _ _ => simp [chA] at h1
    | cons a r =>
      obtain ⟨⟨k1, _⟩, k2, _⟩ := k.b a r rfl p
      exact ⟨k1, k2.pt⟩
  | .or as, X, C, sc, g, e, h => by
    obtain ⟨es, p, rfl, h0, h1⟩ := iv_or h
    have k := mA as g es h1
    cases as with
    | nil => cases es with
      | nil => cases h0
      | cons _ _ => simp [chA] at h1
    | cons a r =>
      obtain ⟨⟨_, k1⟩, _, k2⟩ := k.b a r rfl p
      exact ⟨k1, k2.pt⟩
  | .not a, X, C, sc, g, e, h => by
    obtain ⟨a', p, rfl, h1⟩ := iv_not h
    have k := mE a g a' h1
    exact ⟨sNotV g k.1, sNotE k.2⟩
  | .ife c a b, X, C, sc, g, e, h => by
    obtain ⟨c', a', b', p, rfl, ⟨h1, h2⟩, h3⟩ := iv_ife h
    have kc := mE c g c' h1
    have ka := mE a g a' h2
    have kb := mE b g b' h3
    exact ⟨sIfE kc.2 ka.1 kb.1, sIfT kc.2 ka.2 kb.2⟩
  | .ix a b, X, C, sc, g, e, h => by
    obtain ⟨a', b', p, rfl, h1, h2⟩ := iv_ix h
    have k := sIxE (pos := p) g (mE a g a' h1).1 (mE b g b' h2).1 (chE_ok b b' h2)
    exact ⟨k, pt_of g k rfl⟩
  | .sl a lo hi, X, C, sc, g, e, h => by
    obtain ⟨a', l, u, p2, p, rfl, ⟨h1, h2⟩, h3⟩ := iv_sl h
    have k := sSlE (pos := p) (p2 := p2) g (mE a g a' h1).1 (mO lo g l h2) (mO hi g u h3)
    exact ⟨k, pt_of g k rfl⟩
  | .tup as, X, C, sc, g, e, h => by
    obtain ⟨es, k, p, rfl, h1⟩ := iv_tup h
    have k := sTupE (k := k) (pos := p) (mA as g es h1).a
    exact ⟨k, pt_of g k rfl⟩
  | .lst as, X, C, sc, g, e, h => by
    obtain ⟨es, p, rfl, h1⟩ := iv_lst h
    have k := sLstE (pos := p) (mA as g es h1).a
    exact ⟨k, pt_of g k rfl⟩
  | .lc elt t it ifs own, X, C, sc, g, e, h => by
    obtain ⟨elt', tg, iter, ifs', scope, p, rfl, h1, h2, h3, h4, h5, h6, h7⟩ := iv_lc h
    have ht : (∃ es k p, tg = .Tuple es k p) ∨ tupIt it = false := by
      rcases h4 with ⟨ts, rfl⟩ | h4
      · exact .inl (tg_tup h5)
      · exact .inr h4
    have k := sLcE (pos := p) (t := t) g (mI it g iter h1 tg ht) h2 h3 (fun s H Ca cl fp => sTg (good_blk g (blkOk_by h2).kind s H Ca cl fp) (fun x hx => hx) t tg h5)
      (fun s H Ca cl fp => (mA ifs (good_blk g (blkOk_by h2).kind s H Ca cl fp) ifs' h7).ts) (fun s H Ca cl fp => (mE elt (good_blk g (blkOk_by h2).kind s H Ca cl fp) elt' h6).1) (chI_fold h1 _)
    exact ⟨k, pt_of g k rfl⟩
  | .call f as, X, C, sc, g, e, h => by
    obtain ⟨x, es, q, p, rfl, ⟨⟨⟨h1, h2⟩, h3⟩, h4⟩, h5⟩ := iv_call h
    have k := sCallE (p := q) (pos := p) g h1 h2 h3 (chA_ok as es h5) h4 (mA as g es h5).r
    exact ⟨k, pt_of g k rfl⟩
  | .calls f as, X, C, sc, g, e, h => by
    obtain ⟨x, es, q, p, rfl, ⟨⟨⟨h1, h2⟩, h3⟩, h4⟩, h5⟩ := iv_calls h
    have k := sCallSE (p := q) (pos := p) g h1 h2 h3 (chA_ok as es h5) h4 (mA as g es h5).r
    exact ⟨k, pt_of g k rfl⟩
  | .bi b a, X, C, sc, g, e, h => by
    obtain ⟨x, a', q, p, rfl, ⟨h1, h2⟩, h3⟩ := iv_bi h
    have k := sBiE (p := q) (pos := p) g h1 h2 (mE a g a' h3).1 (chE_ok a a' h3)
    exact ⟨k, pt_of g k rfl⟩
  | .isi a ts false, X, C, sc, g, e, h => by
    obtain ⟨t, rfl⟩ := iv_isi0 h
    obtain ⟨x, q, a', y, q2, p, rfl, ⟨⟨h1, h2⟩, h3⟩, h4, h5⟩ := iv_isi1 h
    have k := sIsi1 (p := q) (pos := p) (p2 := q2) g h1 h2 (mE a g a' h3).1 (chE_ok a a' h3) h4 h5
    exact ⟨k, pt_of g k rfl⟩
  | .isi a ts true, X, C, sc, g, e, h => by
    obtain ⟨x, q, a', ys, kk, q2, p, rfl, ⟨⟨⟨h1, h2⟩, h3⟩, h4⟩, h5⟩ := iv_isiN h
    have k := sIsiN (p := q) (pos := p) (p2 := q2) (k := kk) g h1 h2 (mE a g a' h3).1 (chE_ok a a' h3) h4 h5
    exact ⟨k, pt_of g k rfl⟩
  | .frz a, X, C, sc, g, e, h => by
    have h : (valT e && chE tb N sc a e) = true := by cases e <;> exact h
    rw [Bool.and_eq_true] at h
    have k := sFrzE (mE a g e h.2).1
    exact ⟨k, pt_of g k h.1⟩
  | .isx a x ys, X, C, sc, g, e, h => by
    obtain ⟨f, p, a', y, p2, q, rfl, ⟨⟨⟨⟨⟨h1, h2⟩, h3⟩, rfl⟩, h4⟩, h5⟩, h6⟩ := iv_isx h
    have k := sIsxE (p := p) (p2 := p2) (pos := q) g h1 h2 (mE a g a' h3).1 (chE_ok a a' h3) h4 h5 h6
    exact ⟨k, pt_of g k rfl⟩
  | .mkx x a, X, C, sc, g, e, h => by
    obtain ⟨f, p, a', q, rfl, ⟨⟨⟨rfl, h1⟩, h2⟩, h3⟩, h4⟩ := iv_mkx h
    have k := sMkxE (p := p) (pos := q) g (mE a g a' h4).1 (chE_ok a a' h4) h1 h2 h3
    exact ⟨k, pt_of g k rfl⟩
  | .star a b, X, C, sc, g, e, h => by
    obtain ⟨a', p, b', k, q, rfl, h1, h2⟩ := iv_star h
    have k := sStarE g (k := k) (p := p) (pos := q) (mE a g a' h1).1 (mE b g b' h2).1 (chE_ok b b' h2)
    exact ⟨k, pt_of g k rfl⟩
  | .rep a, X, C, sc, g, e, h => by
    obtain ⟨x, q, a', p, rfl, ⟨⟨h1, h2⟩, h3⟩, h4⟩ := iv_rep h
    have k := sRepE (p := q) (pos := p) g h1 h2 h3 (mE a g a' h4).1 (chE_ok a a' h4)
    exact ⟨k, pt_of g k rfl⟩
  | .rv a, X, C, sc, g, e, h => by
    obtain ⟨a', k, p1, p2, p3, p, rfl, h1⟩ := iv_rv h
    have k := sRvE (k := k) (p1 := p1) (p2 := p2) (p3 := p3) (pos := p) g (mE a g a' h1).1
    exact ⟨k, pt_of g k rfl⟩
  | .mx a b, X, C, sc, g, e, h => by
    obtain ⟨x, q, a', b', p, rfl, ⟨⟨h1, h2⟩, h3⟩, h4⟩ := iv_mx h
    have k := sMxE (p := q) (pos := p) g h1 h2 (mE a g a' h3).1 (mE b g b' h4).1 (chE_ok a a' h3) (chE_ok b b' h4)
    exact ⟨k, pt_of g k rfl⟩
  | .cin k a false, X, C, sc, g, e, h => by
    obtain ⟨x, q, a', p, rfl, ⟨⟨h1, h2⟩, h3⟩, h4⟩ := iv_cinf h
    exact sCinE g h1 h2 h3 (mE a g a' h4).1
  | .cin k a true, X, C, sc, g, e, h => by
    obtain ⟨x, q, a', p, rfl, ⟨⟨h1, h2⟩, h3⟩, h4⟩ := iv_cint h
    exact sCninE g h1 h2 h3 (mE a g a' h4).1
  | .cix k a, X, C, sc, g, e, h => by
    obtain ⟨x, q, a', p, rfl, ⟨⟨h1, h2⟩, h3⟩, h4⟩ := iv_cix h
    have k := sCixE (p := q) (pos := p) g h1 h2 h3 (mE a g a' h4).1 (chE_ok a a' h4)
    exact ⟨k, pt_of g k rfl⟩
  | .dd ks as, X, C, sc, g, e, h => by
    obtain ⟨keys, vals, p, rfl, ⟨⟨⟨h1, h2⟩, h3⟩, h4⟩, h5⟩ := iv_dd h
    have k := sDdE (pos := p) g h1 h2 h3 h4 (fun z => by
      subst z
      cases vals with
      | cons _ _ => cases h4
      | nil => cases as with
        | nil => rfl
        | cons _ _ => simp [chA] at h5) (mA as g vals h5).d
    exact ⟨k, pt_of g k rfl⟩
theorem mO : ∀ (m : OE) {X : Cx} {C : Ctx} {sc : Scope} (g : Good X C sc tb N Φ cs) (e : Option Expr), chO tb N sc m e = true → PO X e (tO C (evO Φ cs m))
  | .no, X, C, sc, g, none, h => sO0
  | .no, X, C, sc, g, some _, h => by simp [chO] at h
  | .yes m, X, C, sc, g, none, h => by simp [chO] at h
  | .yes m, X, C, sc, g, some e, h => sO1 (mE m g e (by simpa [chO] using h)).1
theorem mA : ∀ (m : A) {X : Cx} {C : Ctx} {sc : Scope} (g : Good X C sc tb N Φ cs) (es : List Expr), chA tb N sc m es = true → SA X C Φ cs m es
  | .nil, X, C, sc, g, [], h => ⟨sANil, sRNil, ⟨fun pins s σ H Q I w => pts_nil.run pins s σ H Q I (by
      obtain ⟨F, env, rel, w⟩ := w
      exact w.ret true F H rel .refl rfl)⟩, dd_nil, fun _ _ e => by cases e⟩
  | .nil, X, C, sc, g, _ :: _, h => by simp [chA] at h
  | .cons _ _, X, C, sc, g, [], h => by simp [chA] at h
  | .cons a r, X, C, sc, g, e :: es, h => by
    have h' : chE tb N sc a e = true ∧ chA tb N sc r es = true := by simpa [chA] using h
    obtain ⟨ka, kt⟩ := mE a g e h'.1
    have kr := mA r g es h'.2
    have oka := chE_ok a e h'.1
    refine ⟨sACons ka kr.a oka, sRCons ka kr.r oka, ?_, dd_cons ka kr.d, ?_⟩
    · cases r with
      | nil =>
        cases es with
        | nil => exact pts_one kt
        | cons _ _ => simp [chA] at h'
      | cons b r => exact ⟨fun pins s σ H Q I ⟨F, env, rel, o, env', w, _⟩ => by cases w⟩
    · intro a2 r2 e2 pos
      cases e2
      cases r with
      | nil =>
        cases es with
        | nil => exact ⟨⟨sAnd1 ka, sOr1 ka⟩, sAndT1 kt, sOrT1 kt⟩
        | cons _ _ => simp [chA] at h'
      | cons b r =>
        cases es with
        | nil => simp [chA] at h'
        | cons e2 es =>
          obtain ⟨⟨k1, k2⟩, k3, k4⟩ := kr.b b r rfl pos
          exact ⟨⟨sAnd2 ka k1, sOr2 ka k2⟩, sAndT2 kt k3, sOrT2 kt k4⟩
theorem mI : ∀ (m : I) {X : Cx} {C : Ctx} {sc : Scope} (g : Good X C sc tb N Φ cs) (e : Expr), chI tb N sc m e = true → ∀ tg : Expr, ((∃ es k p, tg = .Tuple es k p) ∨ tupIt m = false) → PI X tg e (tI C (evI Φ cs m))
  | .sq a, X, C, sc, g, e, h, tg, _ => sSqI g (mE a g e (iv_sq h)).1
  | .r1 a, X, C, sc, g, e, h, tg, _ => by
    obtain ⟨x, q, a', p, rfl, ⟨h1, h2⟩, h3⟩ := iv_r1 h
    exact sR1I g h1 h2 (mE a g a' h3).1 (chE_ok a a' h3)
  | .r2 a b, X, C, sc, g, e, h, tg, _ => by
    obtain ⟨x, q, a', b', p, rfl, ⟨⟨h1, h2⟩, h3⟩, h4⟩ := iv_r2 h
    exact sR2I g h1 h2 (mE a g a' h3).1 (mE b g b' h4).1 (chE_ok a a' h3) (chE_ok b b' h4)
  | .zip a b, X, C, sc, g, e, h, tg, ht => by
    obtain ⟨x, q, a', b', p, rfl, ⟨⟨h1, h2⟩, h3⟩, h4⟩ := iv_zip h
    rcases ht with ⟨es, k, p, rfl⟩ | ht
    · exact sZipI g h1 h2 (mE a g a' h3).1 (mE b g b' h4).1 (chE_ok a a' h3) (chE_ok b b' h4)
    · exact absurd (show true = false from ht) (by decide)
  | .enum a, X, C, sc, g, e, h, tg, ht => by
    obtain ⟨x, q, a', p, rfl, ⟨h1, h2⟩, h3⟩ := iv_enum h
    rcases ht with ⟨es, k, p, rfl⟩ | ht
    · exact sEnumI g h1 h2 (mE a g a' h3).1 (chE_ok a a' h3)
    · exact absurd (show true = false from ht) (by decide)
  | .zip3 a b c, X, C, sc, g, e, h, tg, ht => by
    obtain ⟨x, q, a', b', c', p, rfl, ⟨⟨⟨h1, h2⟩, h3⟩, h4⟩, h5⟩ := iv_zip3 h
    rcases ht with ⟨es, k, p, rfl⟩ | ht
    · exact sZip3I g h1 h2 (mE a g a' h3).1 (mE b g b' h4).1 (mE c g c' h5).1 (chE_ok a a' h3) (chE_ok b b' h4) (chE_ok c c' h5)
    · exact absurd (show true = false from ht) (by decide)
end
end
end Sm

set_option maxRecDepth 100000
set_option maxHeartbeats 4000000
namespace Sm
open PySem L2
/-! ### a worth on its way into a slot -/
def Loose (K : PySem.W.Frag) (G : Gh) (F H : Hp) (env : Sm.Env) (σ : St) (v : V) : SV → Prop
  | .d x => RD K F v x
  | .own x b => b = false ∧ ∃ a, v = .ref a ∧ F a = none ∧ Own K F H a x ∧ G.H0 a = none ∧ ¬ OwnA env σ a
  | .exc _ => False
section
variable {K : PySem.W.Frag} {G : Gh} {F H : Hp} {env env1 env' : Sm.Env} {σ : St}
theorem at_unset {i j : Nat} {w : SV} (h : At (env.set i none) j w) : j ≠ i ∧ At env j w := by
  have h : (env.set i none)[j]? = some (some w) := h
  by_cases q : i = j
  · subst q
    by_cases hv : i < env.length
    · rw [List.getElem?_set_self hv] at h; cases h
    · rw [List.getElem?_eq_none (by simpa using hv)] at h; cases h
  · rw [List.getElem?_set_ne q] at h
    exact ⟨fun e => q e.symm, h⟩
theorem unset_ownA {i : Nat} {p : Addr} (h : OwnA (env.set i none) σ p) : ∃ j x b, j ≠ i ∧ At env j (SV.own x b) ∧ Sl σ j (V.ref p) := by
  obtain ⟨j, x, b, h1, h2⟩ := h
  obtain ⟨n, h1⟩ := at_unset h1
  exact ⟨j, x, b, n, h1, h2⟩
theorem Rel.unset (rel : Rel K G F env σ H) {i : Nat} (na : isArg env i = false) : Rel K G F (env.set i none) σ H where
  fh := rel.fh
  f0 := rel.f0
  keep := rel.keep
  new := rel.new
  len := by rw [List.length_set]; exact rel.len
  slot := fun j sv h => rel.slot j sv (at_unset h).2
  sep := fun j k x b y c n h1 h2 => rel.sep j k x b y c n (at_unset h1).2 (at_unset h2).2
  arg := fun p hp => by
    obtain ⟨x, h1, h2⟩ := rel.arg p hp
    refine ⟨x, ?_, h2⟩
    have n : i ≠ p.1 := fun e => by
      unfold isArg at na
      rw [e] at na
      rw [show env[p.1]? = some (some (SV.own x true)) from h1] at na
      cases na
    show (env.set i none)[p.1]? = _
    rw [List.getElem?_set_ne n]
    exact h1
theorem sv_loose {r : R} {v : V} {sv : SV} (rel : Rel K G F env σ H) (hr : RR K G σ r F env H v) (e : r.sv env = some (sv, env1)) :
    Rel K G F env1 σ H ∧ Loose K G F H env1 σ v sv ∧ (∀ p, OwnA env1 σ p → OwnA env σ p) ∧ (∀ p x b, sv = .own x b → v = .ref p → OwnA env σ p ∨ ∃ y, r = .new y) := by
  cases r with
  | d x => cases e; exact ⟨rel, hr, fun _ h => h, fun _ _ _ e => by cases e⟩
  | new x =>
    cases e
    obtain ⟨p, rfl, h0, hF, ho, hn⟩ := hr
    exact ⟨rel, ⟨rfl, p, rfl, hF, ho, h0, hn⟩, fun _ h => h, fun _ _ _ _ _ => .inr ⟨x, rfl⟩⟩
  | exc c => exact hr.elim
  | al i =>
    have e : (match env[i]? with | some (some (SV.own x false)) => some (SV.own x false, env.set i none) | _ => none) = some (sv, env1) := e
    split at e
    · rename_i x hx
      cases e
      obtain ⟨a, h1, h2, h3, _, h4⟩ := rel.ownAt hx
      have hv : v = .ref a := by
        have : some (some v) = some (some (V.ref a)) := (show σ[i]? = _ from hr.1).symm.trans h1
        cases this; rfl
      subst hv
      have na : isArg env i = false := by unfold isArg; rw [hx]
      refine ⟨rel.unset na, ⟨rfl, a, rfl, h2, h3, h4 rfl, fun z => ?_⟩, fun p z => ?_, fun p y b _ ep => ?_⟩
      · obtain ⟨j, y, b, n, k1, k2⟩ := unset_ownA z
        exact rel.sep j i y b x false n k1 hx (k2.trans h1.symm)
      · obtain ⟨j, y, b, n, k1, k2⟩ := unset_ownA z
        exact ⟨j, y, b, k1, k2⟩
      · cases ep
        exact .inl ⟨i, x, false, hx, h1⟩
    · cases e
theorem put_loose {i : Nat} {v : V} {sv : SV} (rel : Rel K G F env σ H) (l : Loose K G F H env σ v sv) (e : setAt env i sv = some env') : Rel K G F env' (σ.set i (some v)) H := by
  obtain ⟨k1, k2, rfl⟩ := setAt_some e
  refine rel.put k1 k2 ?_ ?_
  · cases sv with
    | d x => exact l
    | own x b =>
      obtain ⟨rfl, a, rfl, h1, h2, h3, h4⟩ := l
      exact ⟨a, rfl, h1, h2, (fun z => by cases z), fun _ => h3⟩
    | exc c => exact l
  · intro x b eb
    subst eb
    obtain ⟨rfl, a, rfl, h1, h2, h3, h4⟩ := l
    refine ⟨rfl, fun p ep j y c n h5 h6 => ?_⟩
    cases ep
    exact h4 ⟨j, y, c, h5, h6⟩
theorem put_ownA2 {i : Nat} {v : V} {sv : SV} {p : Addr} (h : OwnA (env.set i (some sv)) (σ.set i (some v)) p) : (∃ x b, sv = .own x b ∧ v = .ref p) ∨ OwnA env σ p := by
  obtain ⟨j, y, b, h1, h2⟩ := h
  rcases at_set h1 with ⟨e1, e2⟩ | ⟨n, h1⟩
  · subst e1
    refine .inl ⟨y, b, e2.symm, ?_⟩
    have h2 : (σ.set j (some v))[j]? = _ := h2
    by_cases hj : j < σ.length
    · rw [List.getElem?_set_self hj] at h2
      cases h2; rfl
    · rw [List.getElem?_eq_none (by simpa using hj)] at h2; cases h2
  · refine .inr ⟨j, y, b, h1, ?_⟩
    have h2 : (σ.set i (some v))[j]? = _ := h2
    rw [List.getElem?_set_ne (Ne.symm n)] at h2
    exact h2
/-- two names at once -/
theorem asg2_ok {i j : Nat} {x y : R} {v w : V} (rel : Rel K G F env σ H) (hx : RR K G σ x F env H v) (hy : RR K G σ y F env H w) (ne : ∀ a b p, x = .new a → y = .new b → v = .ref p → w ≠ .ref p) (e : asg2 i j x y env = some (.ok (), env')) :
    Rel K G F env' ((σ.set i (some v)).set j (some w)) H := by
  unfold asg2 at e
  split at e
  · cases e
  · rename_i sv env1 e1
    obtain ⟨r1, l1, o1, n1⟩ := sv_loose rel hx e1
    have hy1 : RR K G σ y F env1 H w := by
      cases y with
      | d z => exact hy
      | new z =>
        obtain ⟨p, rfl, h0, hF, ho, hn⟩ := hy
        exact ⟨p, rfl, h0, hF, ho, fun z => hn (o1 p z)⟩
      | al k => exact hy
      | exc c => exact hy
    split at e
    · cases e
    · rename_i sw env2 e2
      obtain ⟨r2, l2, o2, n2⟩ := sv_loose r1 hy1 e2
      have l1' : Loose K G F H env2 σ v sv := by
        cases sv with
        | d z => exact l1
        | own z b =>
          obtain ⟨hb, a, ea, h1, h2, h3, h4⟩ := l1
          exact ⟨hb, a, ea, h1, h2, h3, fun z => h4 (o2 a z)⟩
        | exc c => exact l1
      split at e
      · cases e
      · rename_i env3 e3
        have r3 := put_loose r2 l1' e3
        obtain ⟨k1, k2, k3⟩ := setAt_some e3
        have l2' : Loose K G F H env3 (σ.set i (some v)) w sw := by
          cases sw with
          | d z => exact l2
          | own z b =>
            obtain ⟨hb, a, ea, h1, h2, h3, h4⟩ := l2
            refine ⟨hb, a, ea, h1, h2, h3, fun q => ?_⟩
            rw [k3] at q
            rcases put_ownA2 q with ⟨x1, b1, es, ev⟩ | q
            · subst es
              obtain ⟨_, a1, ea1, _, _, _, h5⟩ := l1
              rw [ev] at ea1
              cases ea1
              rcases n2 a z b rfl ea with z1 | ⟨y1, z1⟩
              · exact h5 z1
              · rcases n1 a x1 b1 rfl ev with z2 | ⟨y2, z2⟩
                · subst z1
                  obtain ⟨p, ep, _, _, _, hn⟩ := hy
                  rw [ea] at ep
                  cases ep
                  exact hn z2
                · exact ne y2 y1 a z2 z1 ev ea
            · exact h4 q
          | exc c => exact l2
        split at e
        · cases e
        · rename_i env4 e4
          cases e
          exact put_loose r3 l2' e4
end
/-! ### statements: readings -/
def PostS (C : Ctx) (F : Hp) (D : Ends) (o : Out Fl) (env' : Sm.Env) : Prop := match o with
  | .ok .nx => ∀ σ' F' H', Rel C.K C.G F' env' σ' H' → Ex F F' → D.nx σ' H'
  | .ok .bk => ∀ σ' F' H', Rel C.K C.G F' env' σ' H' → Ex F F' → D.bk σ' H'
  | .ok .ct => ∀ σ' F' H', Rel C.K C.G F' env' σ' H' → Ex F F' → D.ct σ' H'
  | .ok (.rt r) => ∀ v σ' F' H', Rel C.K C.G F' env' σ' H' → Ex F F' → RR C.K C.G σ' r F' env' H' v → D.rt v H'
  | .rs c => ∀ σ' F' H', Rel C.K C.G F' env' σ' H' → Ex F F' → C.W (C.cl c) none σ' H'
def GS (C : Ctx) (m : M Fl) (D : Ends) (F : Hp) (env : Sm.Env) : Prop := ∃ o env', m env = some (o, env') ∧ PostS C F D o env'
def tS (C : Ctx) (m : M Fl) : TS := fun D σ H => ∃ F env, Rel C.K C.G F env σ H ∧ GS C m D F env
section
variable {C : Ctx} {D : Ends} {F F1 H : Hp} {env env' : Sm.Env} {σ : St}
theorem PostS.mono {o : Out Fl} (h : PostS C F D o env') (f : Ex F F1) : PostS C F1 D o env' := by
  cases o with
  | rs c => exact fun σ' F' H' r e => h σ' F' H' r (f.trans e)
  | ok a => cases a with
    | rt r => exact fun v σ' F' H' r e => h v σ' F' H' r (f.trans e)
    | nx => exact fun σ' F' H' r e => h σ' F' H' r (f.trans e)
    | bk => exact fun σ' F' H' r e => h σ' F' H' r (f.trans e)
    | ct => exact fun σ' F' H' r e => h σ' F' H' r (f.trans e)
theorem GS.mono {m : M Fl} (h : GS C m D F env) (f : Ex F F1) : GS C m D F1 env := by
  obtain ⟨o, env', e, p⟩ := h
  exact ⟨o, env', e, p.mono f⟩
/-- first an expression (a test ..), then the rest -/
theorem gsE {α β : Type} {rl : Rl α β} {m : M α} {f : α → M Fl} {P : β → Hp → Prop} (rel : Rel C.K C.G F env σ H) (h : GS C (m.bind f) D F env)
    (k : ∀ a b F1 env1 H1, Rel C.K C.G F1 env1 σ H1 → Step env env1 σ F H F1 H1 → rl.r σ H a F1 env1 H1 b → GS C (f a) D F1 env1 → P b H1) : Go C rl m σ H P := by
  obtain ⟨o, env', e, p⟩ := h
  refine ⟨F, env, rel, ?_⟩
  unfold M.bind at e
  cases q : m env with
  | none => rw [q] at e; cases e
  | some z =>
    obtain ⟨o1, env1⟩ := z
    rw [q] at e
    cases o1 with
    | rs c =>
      cases e
      exact ⟨.rs c, _, q, fun F' H' r s => p σ F' H' r s.f⟩
    | ok a => exact ⟨.ok a, env1, q, fun b F' H' r s hb => k a b F' env1 H' r s hb ⟨o, env', e, p.mono s.f⟩⟩
theorem gs_ret {f : Fl} (h : GS C (.ret f) D F env) : PostS C F D (.ok f) env := by
  obtain ⟨o, env', e, p⟩ := h
  cases e
  exact p
end
end Sm

set_option maxRecDepth 100000
set_option maxHeartbeats 4000000
namespace Sm
open PySem L2
/-! ### statements: one after the other -/
section
variable {X : Cx} {C : Ctx} {sc : Scope} {tb : Tab} {N : List Str} {Φ : Nat → Spec} {cs : Nat → D} {W : Nat}
theorem sPassS {pos : Pos} : PS X (.Pass pos) (tS C (evS Φ cs W .pass)) := PS.imp ps_pass fun D σ H ⟨F, env, rel, h⟩ => gs_ret h σ F H rel (.refl F)
theorem sDocS {x : Str} {j : Nat} {p pos : Pos} : PS X (.Expr (.Constant (.str x) j p) pos) (tS C (evS Φ cs W .pass)) := PS.imp ps_doc fun D σ H ⟨F, env, rel, h⟩ => gs_ret h σ F H rel (.refl F)
theorem sBrkS {pos : Pos} : PS X (.Break pos) (tS C (evS Φ cs W .brk)) := PS.imp ps_break fun D σ H ⟨F, env, rel, h⟩ => gs_ret h σ F H rel (.refl F)
theorem sCtS {pos : Pos} : PS X (.Continue pos) (tS C (evS Φ cs W .ct)) := PS.imp ps_continue fun D σ H ⟨F, env, rel, h⟩ => gs_ret h σ F H rel (.refl F)
theorem sNeverS {st : Stmt} : PS X st (tS C (evS Φ cs W .never)) := ⟨fun pins s σ H D I ⟨F, env, rel, o, env', e, _⟩ => by cases e⟩
theorem sRetS {me : E} {e : Expr} {pos : Pos} (he : PE X e (tE C (evE Φ cs me))) : PS X (.Return (some e) pos) (tS C (evS Φ cs W (.ret me))) := by
  refine PS.imp (ps_ret he) fun D σ H ⟨F, env, rel, h⟩ => ?_
  exact gsE (rl := rlE C.K C.G) rel h fun a b F1 env1 H1 r1 s1 hb h => gs_ret h b σ F1 H1 r1 (.refl _) hb.1
theorem sRetNS {pos : Pos} : PS X (.Return none pos) (tS C (evS Φ cs W .retN)) := PS.imp ps_retN fun D σ H ⟨F, env, rel, h⟩ => gs_ret h .non σ F H rel (.refl F) rfl
theorem sExS {me : E} {e : Expr} {pos : Pos} (he : PE X e (tE C (evE Φ cs me))) (hs : swapsWith e none pos.line X.env = pure false) : PS X (.Expr e pos) (tS C (evS Φ cs W (.ex me))) := by
  refine PS.imp (ps_expr he hs) fun D σ H ⟨F, env, rel, h⟩ => ?_
  exact gsE (rl := rlE C.K C.G) rel h fun a b F1 env1 H1 r1 s1 hb h => gs_ret h σ F1 H1 r1 (.refl _)
theorem sIfS {mc : E} {ma mb : B} {c : Expr} {a b : List Stmt} {pos : Pos} (hc : PT X c (tT C (evT Φ cs mc))) (ha : PSs X a (tS C (evB Φ cs W ma))) (hb : PSs X b (tS C (evB Φ cs W mb))) : PS X (.If c a b pos) (tS C (evS Φ cs W (.ife mc ma mb))) := by
  refine PS.imp (ps_if hc ha hb) fun D σ H ⟨F, env, rel, h⟩ => ?_
  refine gsE (rl := rlB) rel h fun k b F1 env1 H1 r1 s1 hb h => ?_
  have hb : b = k := hb
  subst hb
  cases b with
  | true => exact ⟨F1, env1, r1, h⟩
  | false => exact ⟨F1, env1, r1, h⟩
/-- a name takes a worth -/
theorem asgN {i : Nat} {r : R} {v : V} {F H : Hp} {env : Sm.Env} {σ : St} {D : Ends} (rel : Rel C.K C.G F env σ H) (hr : RR C.K C.G σ r F env H v) (h : GS C ((asg (.nm i) r).bind fun _ => .ret .nx) D F env) : D.nx (σ.set i (some v)) H := by
  obtain ⟨o, env', e, p⟩ := h
  unfold M.bind at e
  cases q : asg (.nm i) r env with
  | none => rw [q] at e; cases e
  | some z =>
    obtain ⟨o1, env1⟩ := z
    have q' : (match r.sv env with | none => none | some (v, e1) => match setAt e1 i v with | none => none | some e2 => some (Out.ok (), e2)) = some (o1, env1) := q
    split at q'
    · cases q'
    · rename_i sv e1 q1
      split at q'
      · cases q'
      · rename_i e2 q2
        cases q'
        rw [q] at e
        cases e
        obtain ⟨r1, l1, _⟩ := sv_loose rel hr q1
        exact p _ F H (put_loose r1 l1 q2) (.refl F)
theorem sAsgS (g : Good X C sc tb N Φ cs) (hf : ∀ x, X.fn x = true) {i : Nat} {x : Str} {me : E} {e : Expr} {p pos : Pos} (hi : N[i]? = some x) (hl : Loc X.env.scope x) (he : PE X e (tE C (evE Φ cs me))) (hs : swapsWith e (some (.Name x p)) pos.line X.env = pure false) :
    PS X (.Assign [.Name x p] e pos) (tS C (evS Φ cs W (.asg (.nm i) me))) := by
  refine PS.imp (ps_set (by rw [g.n]; exact g.nd) (by rw [g.n]; exact hi) hl he hs (.inl (hf x))) fun D σ H ⟨F, env, rel, h⟩ => ?_
  exact gsE (rl := rlE C.K C.G) rel h fun a b F1 env1 H1 r1 s1 hb h => asgN r1 hb.1 h
/-- several names take a tuple's items -/
theorem asgT {t : T} {r : R} {v : V} {F H : Hp} {env : Sm.Env} {σ : St} {D : Ends} (ht : ∃ ts, t = .tup ts) (rel : Rel C.K C.G F env σ H) (hr : RR C.K C.G σ r F env H v) (h : GS C ((asg t r).bind fun _ => .ret .nx) D F env) : tG C t v σ H D.nx := by
  obtain ⟨ts, rfl⟩ := ht
  obtain ⟨o, env', e, p⟩ := h
  unfold M.bind at e
  cases q : asg (.tup ts) r env with
  | none => rw [q] at e; cases e
  | some z =>
    obtain ⟨o1, env1⟩ := z
    have q' : (match r.rd env with | some (.tuple xs) => asgs ts xs env | _ => none) = some (o1, env1) := q
    split at q'
    · rename_i xs hx
      have hd : RD C.K F v (.tuple xs) := by
        cases r with
        | d x => cases hx; exact hr
        | new x =>
          cases hx
          obtain ⟨p, _, _, _, ho, _⟩ := hr
          exact ho.elim
        | al j =>
          have hx : (match env[j]? with | some (some (SV.own x _)) => some x | _ => none) = some (.tuple xs) := hx
          split at hx
          · rename_i y b hy
            cases hx
            obtain ⟨a, _, _, ho, _⟩ := rel.ownAt hy
            exact ho.elim
          · cases hx
        | exc c => exact hr.elim
      cases o1 with
      | rs c =>
        exfalso
        exact asgs_ok ts xs env env1 c q'
      | ok u =>
        rw [q] at e
        cases e
        exact ⟨F, env, .tuple xs, _, rel, hd, q', fun σ' rel' _ _ _ _ => p σ' F H rel' (.refl F)⟩
    · cases q'
where asgs_ok : ∀ (ts : Ts) (xs : List PyData) (env env1 : Sm.Env) (c : Nat), asgs ts xs env ≠ some (.rs c, env1)
  | .nil, [], env, env1, c, e => by cases e
  | .nil, _ :: _, env, env1, c, e => by cases e
  | .cons _ _, [], env, env1, c, e => by cases e
  | .cons t r, x :: xs, env, env1, c, e => by
    have e : (match asg t (.d x) env with | some (.ok (), e1) => asgs r xs e1 | _ => none) = some (Out.rs c, env1) := e
    split at e
    · exact asgs_ok r xs _ env1 c e
    · cases e
theorem sAsgTS (g : Good X C sc tb N Φ cs) (hf : ∀ x, X.fn x = true) {ts : Ts} {me : E} {tg e : Expr} {pos : Pos} (hg : chTg N sc (fun _ => true) (.tup ts) tg = true) (he : PE X e (tE C (evE Φ cs me))) (hs : swapsWithSole [tg] e pos.line X.env = pure false) (hw : swappedStores [tg] e X.env = pure none) :
    PS X (.Assign [tg] e pos) (tS C (evS Φ cs W (.asg (.tup ts) me))) := by
  obtain ⟨es, k, p, rfl⟩ := tg_tup hg
  refine PS.imp (ps_asg he (sTg g (fun x _ => hf x) _ _ hg) hs hw (by rfl)) fun D σ H ⟨F, env, rel, h⟩ => ?_
  exact gsE (rl := rlE C.K C.G) rel h fun a b F1 env1 H1 r1 s1 hb h => asgT ⟨ts, rfl⟩ r1 hb.1 h
/-- name = [..], on one line -/
theorem sAsgLS (g : Good X C sc tb N Φ cs) {i : Nat} {y : Str} {py : Pos} {me : E} {t : T} {mi : I} {mts : A} {own : List Nat} {elt tg iter : Expr} {ifs : List Expr} {scope : Scope} {pos spos : Pos} (hy : N[i]? = some y) (hyl : X.env.scope.names.lookup y = some .local)
    (hi : PI X tg iter (tI C (evI Φ cs mi))) (hb : blkC N sc scope (names N own) = true) (hown : ∀ i ∈ slT t, i ∈ own)
    (hg : ∀ (s : Shared) (H : Hp) (Ca : Addr) (cl : List (Str × Addr)) (fp : List Addr), PG (X.blk s H scope (compEnvC scope cl Ca X.env) fp) tg (tG (blkCtx C) t))
    (ht : ∀ (s : Shared) (H : Hp) (Ca : Addr) (cl : List (Str × Addr)) (fp : List Addr), PTs (X.blk s H scope (compEnvC scope cl Ca X.env) fp) ifs (tT (blkCtx C) (evTs Φ cs mts)))
    (he : ∀ (s : Shared) (H : Hp) (Ca : Addr) (cl : List (Str × Addr)) (fp : List Addr), PE (X.blk s H scope (compEnvC scope cl Ca X.env) fp) elt (tE (blkCtx C) (evE Φ cs me)))
    (hs : ∀ x, foldedSetIterable iter X.env x = pure x) (hsw : swapsWith (.ListComp elt [⟨tg, iter, ifs, 0⟩] scope pos) (some (.Name y py)) spos.line X.env = pure true) :
    PS X (.Assign [.Name y py] (.ListComp elt [⟨tg, iter, ifs, 0⟩] scope pos) spos) (tS C (evS Φ cs W (.asg (.nm i) (.lc me t mi mts own)))) := by
  have ok := blkOk_by hb
  rw [← g.n, ← g.sc] at ok
  have P := ps_setLc (i := i) (py := py) g.calm (by rw [g.n]; exact g.nd) (by rw [g.n]; exact hy) hyl hsw hi ok hg ht he hs
  rw [show (names X.N own).map (·.2) = own from names_map] at P
  refine PS.imp P fun D σ H ⟨F, env, rel, h⟩ => ?_
  refine lc_imp hown ?_
  exact gsE (rl := rlE C.K C.G) (m := lcM own (fun x => asg t (.d x)) (evI Φ cs mi) (evTs Φ cs mts) (evX Φ cs me).1) rel h fun a b F1 env1 H1 r1 s1 hb h => asgN r1 hb.1 h
/-- two names at once -/
theorem sParS (g : Good X C sc tb N Φ cs) {i j : Nat} {x y : Str} {ma mb : E} {a b : Expr} {px py pt pt2 pos : Pos} {kt k2 : Nat} (hi : N[i]? = some x) (hj : N[j]? = some y) (hij : i ≠ j) (hx : X.env.scope.names.lookup x = some .local) (hy : X.env.scope.names.lookup y = some .local)
    (ha : PE X a (tE C (evE Φ cs ma))) (hb : PE X b (tE C (evE Φ cs mb))) (ka : okE a = true) (kb : okE b = true)
    (hw : swappedStores [.Tuple [.Name x px, .Name y py] kt pt] (.Tuple [a, b] k2 pt2) X.env = pure (some [x, y])) :
    PS X (.Assign [.Tuple [.Name x px, .Name y py] kt pt] (.Tuple [a, b] k2 pt2) pos) (tS C (evS Φ cs W (.par i j ma mb))) := by
  refine PS.imp (ps_par g.calm (by rw [g.n]; exact g.nd) (by rw [g.n]; exact hi) (by rw [g.n]; exact hj) hij hx hy (pa_cons ha (pa_cons hb pa_nil (ok_star kb [] _)) (ok_star ka [b] _)) hw (by rfl)) fun D σ H ⟨F, env, rel, h⟩ => ?_
  refine gsE (rl := rlE C.K C.G) rel h fun rx v F1 env1 H1 r1 s1 hv h => ?_
  refine gsE (rl := rlE C.K C.G) r1 h fun ry w F2 env2 H2 r2 s2 hw h => ?_
  refine ⟨v, w, rfl, ?_⟩
  obtain ⟨o, env', e, p⟩ := h
  unfold M.bind at e
  cases q : asg2 i j rx ry env2 with
  | none => rw [q] at e; cases e
  | some z =>
    obtain ⟨o1, env3⟩ := z
    have ho : o1 = .ok () := by
      unfold asg2 at q
      split at q
      · cases q
      · split at q
        · cases q
        · split at q
          · cases q
          · split at q
            · cases q
            · cases q; rfl
    subst ho
    rw [q] at e
    cases e
    refine p _ F2 H2 (asg2_ok r2 (hv.1.lift s2) hw.1 (fun a b p ex ey ep eq => ?_) q) (.refl F2)
    subst ex ey
    obtain ⟨q1, e1, _, _, ho, _⟩ := hv.1
    rw [ep] at e1
    cases e1
    obtain ⟨u, hu⟩ := ho.some
    have := hw.2 _ eq
    rw [this] at hu
    cases hu
end
end Sm

set_option maxRecDepth 100000
set_option maxHeartbeats 4000000
namespace Sm
open PySem L2
/-! ### loops, lists that change -/
section
variable {X : Cx} {C : Ctx} {sc : Scope} {tb : Tab} {N : List Str} {Φ : Nat → Spec} {cs : Nat → D} {W : Nat}
def loopEnds (D : Ends) (Nx : St → Hp → Prop) : Ends := { D with nx := Nx, ct := Nx, bk := D.nx }
theorem asg_ok {t : T} {d : PyData} {env env1 : Sm.Env} {o : Out Unit} (e : asg t (.d d) env = some (o, env1)) : o = .ok () := by
  cases o with
  | ok u => rfl
  | rs c =>
    exfalso
    cases t with
    | nm i =>
      have e : (match (R.d d).sv env with | none => none | some (v, e1) => match setAt e1 i v with | none => none | some e2 => some (Out.ok (), e2)) = some (Out.rs c, env1) := e
      have e : (match setAt env i (.d d) with | none => none | some e2 => some (Out.ok (), e2)) = some (Out.rs c, env1) := e
      split at e <;> cases e
    | tup ts =>
      have e : (match (R.d d).rd env with | some (.tuple xs) => asgs ts xs env | _ => none) = some (Out.rs c, env1) := e
      split at e
      · exact asgT.asgs_ok _ _ _ _ c e
      · cases e
theorem sForS (g : Good X C sc tb N Φ cs) {t : T} {mi : I} {mb : B} {tg iter : Expr} {body : List Stmt} {pos : Pos} (hi : PI X tg iter (tI C (evI Φ cs mi))) (hg : PG X tg (tG C t)) (hb : PSs X body (tS C (evB Φ cs W mb)))
    (hs : ∀ x, foldedSetIterable iter X.env x = pure x) : PS X (.For tg iter body [] pos) (tS C (evS Φ cs W (.for t mi mb))) := by
  refine PS.imp (ps_for g.po g.calm hi hg hb hs) fun D σ H ⟨F, env, rel, h⟩ => ?_
  refine gsE (rl := rlI C.K) rel h fun ds J F1 e1 H1 r1 s1 hJ h => ?_
  refine ⟨fun i m σ H => m = ds.length - i ∧ i ≤ ds.length ∧ ∃ F e, Rel C.K C.G F e σ H ∧ Ex F1 F ∧ GS C (forL (fun x => asg t (.d x)) (evB Φ cs W mb) (ds.drop i)) D F e, ⟨ds.length, by simp, Nat.zero_le _, F1, e1, r1, .refl _, h⟩, ?_⟩
  rintro i m σ2 H2 ⟨rfl, hle, F, e, rel, f, h⟩
  obtain ⟨j1, j2⟩ := hJ F H2 f rel.fh
  by_cases hlt : i < ds.length
  · obtain ⟨d, hd⟩ : ∃ d, ds[i]? = some d := ⟨_, List.getElem?_eq_getElem hlt⟩
    obtain ⟨jg, jy⟩ := j2 i d hd
    have hdrop : ds.drop i = d :: ds.drop (i + 1) := by
      rw [List.drop_eq_getElem_cons hlt]
      rw [List.getElem?_eq_getElem hlt] at hd
      cases hd; rfl
    rw [hdrop] at h
    obtain ⟨o, e9, eq, p⟩ := h
    refine .inr ⟨jg, fun σ H => ∃ F e, Rel C.K C.G F e σ H ∧ Ex F1 F ∧ GS C (forL (fun x => asg t (.d x)) (evB Φ cs W mb) (ds.drop (i + 1))) D F e, fun σ' H' ⟨F', e', k1, k2, k3⟩ => ⟨ds.length - (i + 1), by omega, rfl, hlt, F', e', k1, k2, k3⟩, fun x H3 y => ?_⟩
    obtain ⟨F3, gr, hx⟩ := jy x H3 y
    have eq : (match asg t (.d d) e with
      | some (.ok (), e1) => match evB Φ cs W mb e1 with
        | some (.ok .nx, e2) => forL (fun x => asg t (.d x)) (evB Φ cs W mb) (ds.drop (i + 1)) e2
        | some (.ok .ct, e2) => forL (fun x => asg t (.d x)) (evB Φ cs W mb) (ds.drop (i + 1)) e2
        | some (.ok .bk, e2) => some (Out.ok Fl.nx, e2)
        | some (.ok (.rt r), e2) => some (.ok (.rt r), e2)
        | some (.rs c, e2) => some (.rs c, e2)
        | none => none
      | _ => none) = some (o, e9) := eq
    split at eq
    · rename_i e2 hb2
      refine ⟨F3, e, d, e2, rel.grow gr, hx, hb2, fun σ3 r3 _ _ _ _ => ⟨F3, e2, r3, ?_⟩⟩
      cases hbody : evB Φ cs W mb e2 with
      | none => rw [hbody] at eq; cases eq
      | some z =>
        obtain ⟨o4, e4⟩ := z
        rw [hbody] at eq
        refine ⟨o4, e4, hbody, ?_⟩
        cases o4 with
        | rs c =>
          cases eq
          exact fun σ' F' H' r f' => p σ' F' H' r (gr.f.trans f')
        | ok fl =>
          cases fl with
          | nx => exact fun σ' F' H' r f' => ⟨F', e4, r, (f.trans gr.f).trans f', o, e9, eq, p.mono (gr.f.trans f')⟩
          | ct => exact fun σ' F' H' r f' => ⟨F', e4, r, (f.trans gr.f).trans f', o, e9, eq, p.mono (gr.f.trans f')⟩
          | bk =>
            cases eq
            exact fun σ' F' H' r f' => p σ' F' H' r (gr.f.trans f')
          | rt r0 =>
            cases eq
            exact fun v σ' F' H' r f' hv => p v σ' F' H' r (gr.f.trans f') hv
    · cases eq
  · have hi2 : i = ds.length := by omega
    subst hi2
    rw [List.drop_length] at h
    exact .inl ⟨j1, gs_ret h σ2 F H2 rel (.refl _)⟩
theorem sWhileS (g : Good X C sc tb N Φ cs) {mc : E} {mb : B} {c : Expr} {body : List Stmt} {pos : Pos} (hc : PT X c (tT C (evT Φ cs mc))) (hb : PSs X body (tS C (evB Φ cs W mb))) : PS X (.While c body [] pos) (tS C (evS Φ cs W (.whil mc mb))) := by
  refine PS.imp (ps_while g.po hc hb) fun D σ H ⟨F, env, rel, h⟩ => ?_
  refine ⟨fun m σ H => ∃ F e, Rel C.K C.G F e σ H ∧ GS C (whileL (evT Φ cs mc) (evB Φ cs W mb) m) D F e, ⟨W, F, env, rel, h⟩, ?_⟩
  rintro m σ2 H2 ⟨F, e, rel, o, e9, eq, p⟩
  cases m with
  | zero => cases eq
  | succ n =>
    have eq : (match evT Φ cs mc e with
      | some (.ok true, e1) => match evB Φ cs W mb e1 with
        | some (.ok .nx, e2) => whileL (evT Φ cs mc) (evB Φ cs W mb) n e2
        | some (.ok .ct, e2) => whileL (evT Φ cs mc) (evB Φ cs W mb) n e2
        | some (.ok .bk, e2) => some (Out.ok Fl.nx, e2)
        | some (.ok (.rt r), e2) => some (.ok (.rt r), e2)
        | some (.rs c, e2) => some (.rs c, e2)
        | none => none
      | some (.ok false, e1) => some (.ok .nx, e1)
      | some (.rs c, e1) => some (.rs c, e1)
      | none => none) = some (o, e9) := eq
    cases hT : evT Φ cs mc e with
    | none => rw [hT] at eq; cases eq
    | some z =>
      obtain ⟨o1, e1⟩ := z
      rw [hT] at eq
      refine ⟨F, e, rel, o1, e1, hT, ?_⟩
      cases o1 with
      | rs c =>
        cases eq
        exact fun F' H' r s => p σ2 F' H' r s.f
      | ok b =>
        intro b' F' H' r s hb'
        have hb' : b' = b := hb'
        subst hb'
        cases b' with
        | false =>
          cases eq
          exact p σ2 F' H' r s.f
        | true =>
          refine ⟨fun σ H => ∃ F e, Rel C.K C.G F e σ H ∧ GS C (whileL (evT Φ cs mc) (evB Φ cs W mb) n) D F e, fun σ' H' w => ⟨n, Nat.lt_succ_self n, w⟩, F', e1, r, ?_⟩
          have eq : (match evB Φ cs W mb e1 with
            | some (.ok .nx, e2) => whileL (evT Φ cs mc) (evB Φ cs W mb) n e2
            | some (.ok .ct, e2) => whileL (evT Φ cs mc) (evB Φ cs W mb) n e2
            | some (.ok .bk, e2) => some (Out.ok Fl.nx, e2)
            | some (.ok (.rt r), e2) => some (.ok (.rt r), e2)
            | some (.rs c, e2) => some (.rs c, e2)
            | none => none) = some (o, e9) := eq
          cases hbody : evB Φ cs W mb e1 with
          | none => rw [hbody] at eq; cases eq
          | some z =>
            obtain ⟨o4, e4⟩ := z
            rw [hbody] at eq
            refine ⟨o4, e4, hbody, ?_⟩
            cases o4 with
            | rs c =>
              cases eq
              exact fun σ' F2 H2 r2 f' => p σ' F2 H2 r2 (s.f.trans f')
            | ok fl =>
              cases fl with
              | nx => exact fun σ' F2 H2 r2 f' => ⟨F2, e4, r2, o, e9, eq, p.mono (s.f.trans f')⟩
              | ct => exact fun σ' F2 H2 r2 f' => ⟨F2, e4, r2, o, e9, eq, p.mono (s.f.trans f')⟩
              | bk =>
                cases eq
                exact fun σ' F2 H2 r2 f' => p σ' F2 H2 r2 (s.f.trans f')
              | rt r0 =>
                cases eq
                exact fun v σ' F2 H2 r2 f' hv => p v σ' F2 H2 r2 (s.f.trans f') hv
/-- an own list is another -/
theorem Rel.mut {K : PySem.W.Frag} {G : Gh} {F H : Hp} {env : Sm.Env} {σ : St} {i : Nat} {ds ds' : List PyData} {b : Bool} {a : Addr} {us : List V} (rel : Rel K G F env σ H) (hi : At env i (SV.own (.list ds) b)) (ha : Sl σ i (.ref a)) (hu : RDs K F us ds') :
    Rel K G F (env.set i (some (.own (.list ds') b))) σ (upd H a (.lst us)) := by
  obtain ⟨a', h1, h2, h3, h4, h5⟩ := rel.ownAt hi
  have : some (some (V.ref a')) = some (some (V.ref a)) := h1.symm.trans ha
  cases this
  have hil : i < env.length := (List.getElem?_eq_some_iff.mp hi).1
  refine ⟨fun p o e => ?_, rel.f0, fun p o e n => ?_, rel.new, by rw [List.length_set]; exact rel.len, fun j sv h => ?_, fun j k x b1 y c n z1 z2 => ?_, fun p hp => ?_⟩
  · have : p ≠ a := fun q => by rw [q, h2] at e; cases e
    rw [upd_ne this]; exact rel.fh p o e
  · have : p ≠ a := fun q => by
      subst q
      cases b with
      | true => exact n _ (h4 rfl) rfl
      | false => rw [h5 rfl] at e; cases e
    rw [upd_ne this]; exact rel.keep p o e n
  · rcases at_set h with ⟨e1, e2⟩ | ⟨n, h⟩
    · subst e1; subst e2
      exact ⟨.ref a, ha, a, rfl, h2, ⟨us, upd_same, hu⟩, h4, h5⟩
    · obtain ⟨v, k1, k2⟩ := rel.slot j sv h
      refine ⟨v, k1, k2.mono (.refl _) fun a2 ea ⟨x, b2, es⟩ => ?_⟩
      subst ea es
      have : a2 ≠ a := fun q => rel.sep j i x b2 _ _ n h hi (by rw [show σ[j]? = some (some (V.ref a2)) from k1, show σ[i]? = some (some (V.ref a)) from ha, q])
      rw [upd_ne this]
      exact ⟨(rel.ownSome ⟨j, x, b2, h, k1⟩).1, rfl⟩
  · have back : ∀ {l w d}, At (env.set i (some (SV.own (.list ds') b))) l (SV.own w d) → ∃ w', At env l (SV.own w' d) := fun {l w d} z => by
      rcases at_set z with ⟨e1, e2⟩ | ⟨_, z⟩
      · cases e2; subst e1; exact ⟨_, hi⟩
      · exact ⟨w, z⟩
    obtain ⟨x', z1⟩ := back z1
    obtain ⟨y', z2⟩ := back z2
    exact rel.sep j k x' b1 y' c n z1 z2
  · obtain ⟨x, k1, k2⟩ := rel.arg p hp
    by_cases q : i = p.1
    · rw [q] at hi hil ⊢
      have : some (some (SV.own (.list ds) b)) = some (some (SV.own x true)) := hi.symm.trans k1
      cases this
      exact ⟨.list ds', by show (env.set p.1 _)[p.1]? = _; rw [List.getElem?_set_self hil], k2⟩
    · exact ⟨x, by show (env.set i _)[p.1]? = _; rw [List.getElem?_set_ne q]; exact k1, k2⟩
theorem mutL_at {i : Nat} {f : List PyData → Option (List PyData)} {env env' : Sm.Env} {o : Out Unit} (e : mutL i f env = some (o, env')) : ∃ ds ds' b, At env i (SV.own (.list ds) b) ∧ f ds = some ds' ∧ o = .ok () ∧ env' = env.set i (some (.own (.list ds') b)) := by
  unfold mutL at e
  split at e
  · rename_i ds b q
    cases hf : f ds with
    | none => rw [hf] at e; cases e
    | some ds' =>
      rw [hf] at e
      cases e
      exact ⟨ds, ds', b, q, hf, rfl, rfl⟩
  · cases e
theorem gsFrz {ma : M R} {f : PyData → M Fl} {σ : St} {H F : Hp} {env : Sm.Env} {D : Ends} {P : VK} (rel : Rel C.K C.G F env σ H) (h : GS C (ma.bind fun x => (frz x).bind f) D F env)
    (k : ∀ d F1 env1 H1 v, Rel C.K C.G F1 env1 σ H1 → Step env env1 σ F H F1 H1 → RD C.K F1 v d → GS C (f d) D F1 env1 → P v H1) : tE C ma σ H P := by
  obtain ⟨o, env', e, p⟩ := h
  refine ⟨F, env, rel, ?_⟩
  unfold M.bind at e
  cases q : ma env with
  | none => rw [q] at e; cases e
  | some z =>
    obtain ⟨o1, env1⟩ := z
    rw [q] at e
    cases o1 with
    | rs c =>
      cases e
      exact ⟨.rs c, _, q, fun F' H' r s => p σ F' H' r s.f⟩
    | ok a =>
      refine ⟨.ok a, env1, q, fun v F1 H1 r1 s1 h1 => ?_⟩
      have e : ((frz a).bind f) env1 = some (o, env') := e
      unfold M.bind at e
      split at e
      · cases e
      · rename_i c e' z
        obtain ⟨d, hd⟩ := frz_ok z
        cases hd
      · rename_i d e' z
        obtain ⟨F2, r2, s2, hd⟩ := frzR r1 s1 h1.1 h1.2 z
        exact k d F2 e' H1 v r2 s2 hd ⟨o, env', e, p.mono s2.f⟩
theorem gsLst {i : Nat} {f : Unit → M Fl} {D : Ends} {F : Hp} {env : Sm.Env} (h : GS C ((lstAt i).bind f) D F env) : ∃ ds b, At env i (SV.own (.list ds) b) ∧ GS C (f ()) D F env := by
  obtain ⟨o, env', eq, pp⟩ := h
  unfold M.bind at eq
  cases ql : lstAt i env with
  | none => rw [ql] at eq; cases eq
  | some z =>
    obtain ⟨o1, e1⟩ := z
    unfold lstAt at ql
    split at ql
    · rename_i ds b q
      cases ql
      rw [show lstAt i env = some (Out.ok (), env) by unfold lstAt; rw [q]] at eq
      exact ⟨ds, b, q, o, env', eq, pp⟩
    · cases ql
theorem gsMut {i : Nat} {g : List PyData → Option (List PyData)} {D : Ends} {F : Hp} {env : Sm.Env} (h : GS C ((mutL i g).bind fun _ => .ret .nx) D F env) :
    ∃ ds ds' b, At env i (SV.own (.list ds) b) ∧ g ds = some ds' ∧ PostS C F D (.ok .nx) (env.set i (some (.own (.list ds') b))) := by
  obtain ⟨o2, env2, eq2, pp2⟩ := h
  unfold M.bind at eq2
  cases qm : mutL i g env with
  | none => rw [qm] at eq2; cases eq2
  | some z =>
    obtain ⟨o3, e3⟩ := z
    obtain ⟨ds, ds', b, hat2, hf, rfl, rfl⟩ := mutL_at qm
    rw [qm] at eq2
    cases eq2
    exact ⟨ds, ds', b, hat2, hf, pp2⟩
theorem gsAsg {i : Nat} {d : PyData} {v : V} {f : Unit → M Fl} {F H : Hp} {env : Sm.Env} {σ : St} {D : Ends} (rel : Rel C.K C.G F env σ H) (hd : RD C.K F v d) (h : GS C ((asg (.nm i) (.d d)).bind f) D F env) :
    ∃ env1, Rel C.K C.G F env1 (σ.set i (some v)) H ∧ GS C (f ()) D F env1 := by
  obtain ⟨o, env', e, p⟩ := h
  unfold M.bind at e
  cases q : asg (.nm i) (.d d) env with
  | none => rw [q] at e; cases e
  | some z =>
    obtain ⟨o1, env1⟩ := z
    rw [q] at e
    have ho := asg_ok q
    subst ho
    have q' : (match (R.d d).sv env with | none => none | some (v, e1) => match setAt e1 i v with | none => none | some e2 => some (Out.ok (), e2)) = some (Out.ok (), env1) := q
    have q' : (match setAt env i (.d d) with | none => none | some e2 => some (Out.ok (), e2)) = some (Out.ok (), env1) := q'
    split at q'
    · cases q'
    · rename_i e2 q2
      cases q'
      exact ⟨_, put_loose rel (sv := .d d) hd q2, o, env', e, p⟩
/-- three names at once -/
theorem sPar3S (g : Good X C sc tb N Φ cs) {i j l : Nat} {x y z : Str} {ma mb mc : E} {a b c : Expr} {px py pz pt pt2 pos : Pos} {kt k2 : Nat} (hi : N[i]? = some x) (hj : N[j]? = some y) (hl : N[l]? = some z) (hij : i ≠ j) (hil : i ≠ l) (hjl : j ≠ l)
    (hx : X.env.scope.names.lookup x = some .local) (hy : X.env.scope.names.lookup y = some .local) (hz : X.env.scope.names.lookup z = some .local)
    (ha : PE X a (tE C (evE Φ cs ma))) (hb : PE X b (tE C (evE Φ cs mb))) (hc : PE X c (tE C (evE Φ cs mc))) (ka : okE a = true) (kb : okE b = true) (kc : okE c = true)
    (hw : swappedStores [.Tuple [.Name x px, .Name y py, .Name z pz] kt pt] (.Tuple [a, b, c] k2 pt2) X.env = pure (some [x, y, z])) :
    PS X (.Assign [.Tuple [.Name x px, .Name y py, .Name z pz] kt pt] (.Tuple [a, b, c] k2 pt2) pos) (tS C (evS Φ cs W (.par3 i j l ma mb mc))) := by
  refine PS.imp (ps_par3 g.calm (by rw [g.n]; exact g.nd) (by rw [g.n]; exact hi) (by rw [g.n]; exact hj) (by rw [g.n]; exact hl) hij hil hjl hx hy hz
    (pa_cons ha (pa_cons hb (pa_cons hc pa_nil (ok_star kc [] _)) (ok_star kb [c] _)) (ok_star ka [b, c] _)) hw (by rfl)) fun D σ H ⟨F, env, rel, h⟩ => ?_
  refine gsFrz rel h fun dx F1 env1 H1 u r1 s1 hu h => ?_
  refine gsFrz r1 h fun dy F2 env2 H2 v r2 s2 hv h => ?_
  refine gsFrz r2 h fun dz F3 env3 H3 w r3 s3 hw h => ?_
  refine ⟨u, v, w, rfl, ?_⟩
  obtain ⟨e1, k1, h⟩ := gsAsg r3 (RD.mono s3.f _ _ (RD.mono s2.f _ _ hu)) h
  obtain ⟨e2, k2, h⟩ := gsAsg k1 (RD.mono s3.f _ _ hv) h
  obtain ⟨e3, k3, h⟩ := gsAsg k2 hw h
  exact gs_ret h _ F3 H3 k3 (.refl _)
/-- x.append(e) -/
theorem sAppS (g : Good X C sc tb N Φ cs) {i : Nat} {x : Str} {me : E} {e : Expr} {p ap cp pos : Pos} (hi : N[i]? = some x) (hv : visB sc x = true) (hp : plainN x = true) (he : PE X e (tE C (evE Φ cs me))) (ke : okE e = true) (hl : (ap.endLine == cp.line) = true)
    (hb : attributeBase (.Name x p) "append" X.env (eval (.Name x p) X.env) = eval (.Name x p) X.env) :
    PS X (.Expr (.Call (.Attribute (.Name x p) "append" ap) [e] [] cp) pos) (tS C (evS Φ cs W (.app i me))) := by
  have ho : PE X (.Name x p) (tVar i) := pe_var (i := i) (by rw [g.n]; exact hi) (g.vis hv) (plain_of hp).1 (plain_of hp).2
  have hs := ok_star ke [] X.env
  have P := pe_bm (cpos := cp) (apos := ap) PySem.F.plainAttrs_list PySem.F.slot_list_append PySem.F.type_list_append mt_append ho (pa_cons he pa_nil hs) hb (by rw [hs]; rfl) hl hs (by rfl)
  refine PS.imp (ps_expr P (by rfl)) fun D σ H ⟨F, env, rel, h⟩ => ?_
  obtain ⟨ds0, b0, hat, h⟩ := gsLst h
  obtain ⟨a, h1, h2, ⟨us0, h3, h3'⟩, _⟩ := rel.ownAt hat
  refine ⟨.ref a, h1, .inl ⟨rfl, _, .inl (.inl h3)⟩, ?_⟩
  refine gsFrz rel h fun d F1 env1 H1 v r1 s1 hd h => ?_
  obtain ⟨ds, ds', b, hat2, hf, pp2⟩ := gsMut h
  obtain ⟨hz, rfl⟩ := Sm.ifs hf
  rw [decide_eq_true_eq] at hz
  obtain ⟨a2, k1, k2, ⟨us, k3, k4⟩, _⟩ := r1.ownAt hat2
  have : some (some (V.ref a2)) = some (some (V.ref a)) := k1.symm.trans h1
  cases this
  refine ⟨_, us, v, rfl, rfl, k3, by rw [k4.len]; exact hz, ?_⟩
  exact pp2 σ F1 _ (r1.mut hat2 k1 (rds_snoc hd k4)) (.refl _)
theorem gsOwnL {r : R} {f : List PyData → M Fl} {D : Ends} {F H : Hp} {env : Sm.Env} {σ : St} {v : V} (rel : Rel C.K C.G F env σ H) (hr : RR C.K C.G σ r F env H v) (h : GS C ((ownL r).bind f) D F env) : ∃ a xs vs, v = .ref a ∧ H a = some (.lst vs) ∧ RDs C.K F vs xs ∧ GS C (f xs) D F env := by
  obtain ⟨o, env', eq, pp⟩ := h
  unfold M.bind ownL at eq
  cases r with
  | d x => cases eq
  | exc c => cases eq
  | new x =>
    cases x <;> first | (cases eq; done) | skip
    rename_i xs
    obtain ⟨p, rfl, _, _, ⟨vs, h1, h2⟩, _⟩ := hr
    exact ⟨p, xs, vs, rfl, h1, h2, o, env', eq, pp⟩
  | al i =>
    obtain ⟨h1, p, rfl⟩ := hr
    dsimp only at eq
    cases q : env[i]? with
    | none => simp only [q, reduceCtorEq] at eq
    | some sv =>
      cases sv with
      | none => simp only [q, reduceCtorEq] at eq
      | some sv =>
        cases sv with
        | d x => simp only [q, reduceCtorEq] at eq
        | exc c => simp only [q, reduceCtorEq] at eq
        | own x b =>
          cases x <;> simp only [q, reduceCtorEq] at eq
          rename_i xs
          obtain ⟨a, k1, _, ⟨vs, k3, k4⟩, _⟩ := rel.ownAt q
          have : some (some (V.ref p)) = some (some (V.ref a)) := h1.symm.trans k1
          cases this
          exact ⟨p, _, vs, rfl, k3, k4, o, env', eq, pp⟩
theorem rds_app {K : PySem.W.Frag} {F : Hp} {ds es : List PyData} {vs ws : List V} (h : RDs K F vs ds) (h' : RDs K F ws es) : RDs K F (vs ++ ws) (ds ++ es) := RDs.app h h'
/-- x.extend(e) -/
theorem sExtS (g : Good X C sc tb N Φ cs) {i : Nat} {x : Str} {me : E} {e : Expr} {p ap cp pos : Pos} (hi : N[i]? = some x) (hv : visB sc x = true) (hp : plainN x = true) (he : PE X e (tE C (evE Φ cs me))) (ke : okE e = true) (hl : (ap.endLine == cp.line) = true)
    (hb : attributeBase (.Name x p) "extend" X.env (eval (.Name x p) X.env) = eval (.Name x p) X.env) :
    PS X (.Expr (.Call (.Attribute (.Name x p) "extend" ap) [e] [] cp) pos) (tS C (evS Φ cs W (.ext i me))) := by
  have ho : PE X (.Name x p) (tVar i) := pe_var (i := i) (by rw [g.n]; exact hi) (g.vis hv) (plain_of hp).1 (plain_of hp).2
  have hs := ok_star ke [] X.env
  have P := pe_bm (cpos := cp) (apos := ap) PySem.F.plainAttrs_list PySem.F.slot_list_extend PySem.F.type_list_extend mt_extend ho (pa_cons he pa_nil hs) hb (by rw [hs]; rfl) hl hs (by rfl)
  refine PS.imp (ps_expr P (by rfl)) fun D σ H ⟨F, env, rel, h⟩ => ?_
  obtain ⟨ds0, b0, hat, h⟩ := gsLst h
  obtain ⟨a, h1, h2, ⟨us0, h3, h3'⟩, _⟩ := rel.ownAt hat
  refine ⟨.ref a, h1, .inl ⟨rfl, _, .inl (.inl h3)⟩, ?_⟩
  refine gsE (rl := rlE C.K C.G) rel h fun rk v F1 env1 H1 r1 s1 hw h => ?_
  obtain ⟨a3, xs, ws, rfl, k5, k6, h⟩ := gsOwnL r1 hw.1 h
  obtain ⟨ds, ds', b, hat2, hf, pp2⟩ := gsMut h
  obtain ⟨hz, rfl⟩ := Sm.ifs hf
  obtain ⟨a2, k1, k2, ⟨us, k3, k4⟩, _⟩ := r1.ownAt hat2
  have : some (some (V.ref a2)) = some (some (V.ref a)) := k1.symm.trans h1
  cases this
  refine ⟨_, a3, us, ws, rfl, rfl, k3, k5, by rw [k4.len, k6.len]; exact fits_le hz, ?_⟩
  exact pp2 σ F1 _ (r1.mut hat2 k1 (rds_app k4 k6)) (.refl _)
theorem rds_set {K : PySem.W.Frag} {F : Hp} {v : V} {d : PyData} (h : RD K F v d) : ∀ {ds : List PyData} {vs : List V} {j : Nat}, RDs K F vs ds → RDs K F (vs.set j v) (ds.set j d)
  | [], vs, j, e => by
    have e : vs = [] := e
    subst e
    exact (rfl : ([] : List V) = [])
  | _ :: ds, _, 0, ⟨w, ws, e, h1, h2⟩ => by
    subst e
    exact ⟨v, ws, rfl, h, h2⟩
  | _ :: ds, _, j + 1, ⟨w, ws, e, h1, h2⟩ => by
    subst e
    exact ⟨w, ws.set j v, rfl, h1, rds_set h h2⟩
/-- x[k] = e -/
theorem sSetiS (g : Good X C sc tb N Φ cs) {i : Nat} {x : Str} {mk me : E} {k e : Expr} {p sp pos : Pos} (hi : N[i]? = some x) (hv : visB sc x = true) (hp : plainN x = true) (he : PE X e (tE C (evE Φ cs me))) (hk : PE X k (tE C (evE Φ cs mk)))
    (hs : swapsWithSole [.Subscript (.Name x p) k sp] e pos.line X.env = pure false) (hw : swappedStores [.Subscript (.Name x p) k sp] e X.env = pure none) 
    (ha : ∀ v, assign (.Subscript (.Name x p) k sp) X.env v = (do
      let ov ← holding [v] (eval (.Name x p) X.env)
      let iv ← holding [v, ov] (eval k X.env)
      standAt sp
      holding [v, ov, iv] (setItem ov iv v)
      release [v, ov, iv] [])) :
    PS X (.Assign [.Subscript (.Name x p) k sp] e pos) (tS C (evS Φ cs W (.seti i mk me))) := by
  have ho : PE X (.Name x p) (tVar i) := pe_var (i := i) (by rw [g.n]; exact hi) (g.vis hv) (plain_of hp).1 (plain_of hp).2
  refine PS.imp (ps_asg he (pg_sub ho hk set_list ha) hs hw (by rfl)) fun D σ H ⟨F, env, rel, h⟩ => ?_
  refine gsFrz rel h fun d F1 env1 H1 v r1 s1 hd h => ?_
  obtain ⟨ds0, b0, hat, h⟩ := gsLst h
  obtain ⟨a, h1, h2, ⟨us0, h3, h3'⟩, _⟩ := r1.ownAt hat
  refine ⟨.ref a, h1, ?_⟩
  refine gsE (rl := rlE C.K C.G) r1 h fun rk w F2 env2 H2 r2 s2 hw h => ?_
  obtain ⟨o2, env3, eq2, pp2⟩ := h
  unfold M.bind rdM at eq2
  cases qk : rk.rd env2 with
  | none => rw [qk] at eq2; cases eq2
  | some dk =>
    rw [qk] at eq2
    have h : GS C ((mutL i (setF dk d)).bind fun _ => .ret .nx) D F2 env2 := ⟨o2, env3, eq2, pp2⟩
    obtain ⟨ds, ds', b, hat2, hf, pp2⟩ := gsMut h
    have ro := hw.1.ro r2 qk
    cases dk <;> simp only [setF, reduceCtorEq] at hf
    rename_i z
    obtain ⟨j, hj, rfl⟩ := Option.map_eq_some_iff.mp hf
    obtain ⟨a2, k1, k2, ⟨us, k3, k4⟩, _⟩ := r2.ownAt hat2
    have : some (some (V.ref a2)) = some (some (V.ref a)) := k1.symm.trans h1
    cases this
    have hint := ro.int
    subst hint
    refine ⟨_, us, z, j, rfl, rfl, k3, by rw [k4.len]; exact hj, ?_⟩
    exact pp2 σ F2 _ (r2.mut hat2 k1 (rds_set (RD.mono s2.f d v hd) k4)) (.refl _)
end
end Sm

set_option maxRecDepth 100000
set_option maxHeartbeats 4000000
namespace Sm
open PySem L2 PySem.Spec PyProof.Rows
/-! ### try: a suite that keeps the exception in a local name -/
section
variable {X : Cx} {pins : List (Addr × Obj)} {σ : L2.St} {H : Hp} {s : Shared}
/-- what was pinned is tracked from now on -/
theorem inv_track {a : Addr} {oe : Obj} {φ : Heap → Prop} (I : Inv X ((a, oe) :: pins) σ H s) (n0 : X.s_0.heap.get? a = none) (hp : ∀ p ∈ X.pn ++ pins, p.1 ≠ a) (hφ : ∀ h : Heap, h.get? a = some oe → φ h)
    (st : ∀ h1 h2 : Heap, φ h1 → (∀ o, h1.get? a = some o → h2.get? a = some o) → φ h2) : Inv X pins σ (upd H a (.ext φ)) s := by
  obtain ⟨ha, hn, hl, hf, hc⟩ := I.pin (a, oe) (List.mem_append_right _ List.mem_cons_self)
  have ne0 : ∀ b o, X.s_0.heap.get? b = some o → b ≠ a := fun b o e z => by rw [z, n0] at e; cases e
  refine ⟨I.ok, I.os, I.bare, ⟨I.base.keep, I.base.slot, fun b o e n hx => ?_, I.base.there, fun b xs e => ?_, fun b o u e => ?_, fun b ps e => ?_⟩, I.loc, I.cell, ?_, fun x c e => ?_, fun p hm => ?_, ?_, I.len⟩
  · rw [upd_ne (ne0 b o e)]; exact I.base.free b o e n hx
  · have q := I.base.tups b xs e
    rw [upd_ne (ne_of_none q hn)]; exact q
  · have q := I.base.frzs b o u e
    rw [upd_ne (ne_of_none q hn)]; exact q
  · obtain ⟨more, q⟩ := I.base.tbls b ps e
    exact ⟨more, by rw [upd_ne (ne_of_none q hn)]; exact q⟩
  · rw [upd_ne (Ne.symm hl)]; exact I.free
  · have nc : c ≠ a := fun z => by
      obtain ⟨v, o, ho, hd⟩ := I.cell x c e
      rw [z] at ho
      rw [show s.heap.get? a = some oe from ha] at ho
      cases ho
      exact hc _ hd
    rw [upd_ne nc]; exact I.freeC x c e
  · have hm2 : p ∈ X.pn ++ ((a, oe) :: pins) := by
      rcases List.mem_append.mp hm with z | z
      · exact List.mem_append_left _ z
      · exact List.mem_append_right _ (List.mem_cons_of_mem _ z)
    obtain ⟨q1, q2, q3⟩ := I.pin p hm2
    exact ⟨q1, by rw [upd_ne (hp p hm)]; exact q2, q3⟩
  · exact I.hok.laidN (fun _ _ z => z) hn ⟨hφ _ ha, ⟨oe, ha⟩, st⟩
theorem inv_unsuite {a : Addr} {oe : Obj} {more : List (Addr × Obj)} (I : Inv (X.suite a ((a, oe) :: (X.pn ++ pins))) more σ H s) (ok : X.Ok) : Inv X ((a, oe) :: pins) σ H s :=
  ⟨ok, I.os, I.bare, I.base, I.loc, I.cell, I.free, I.freeC, fun p hp => I.pin p (List.mem_append_left _ (by
    rcases List.mem_append.mp hp with z | z
    · exact List.mem_cons_of_mem _ (List.mem_append_left _ z)
    · rcases List.mem_cons.mp z with z | z
      · rw [z]; exact List.mem_cons_self
      · exact List.mem_cons_of_mem _ (List.mem_append_right _ z))), I.hok, I.len⟩
end
/-- an exception of the body: kept in slot j (it came by slot i), or passed on -/
def wKeep (K : PySem.W.Frag) (cv : Value) (i j : Nat) (Wo : WX) (D : Ends) : WX := fun cls d σ H => ∃ b, PySem.W.exmOne K cls cv = some b ∧
  (b = true → d = none ∧ ∃ Ca, cls = .ref Ca ∧ ∀ a φ, H a = none → XcI Ca a φ → D.nx ((σ.set j (some (.ref a))).set i none) (upd H a (.ext φ))) ∧ (b = false → Wo cls d σ H)
/-- the exception's object as it is at the end of the suite -/
def exAt (a : Addr) (Ca : Addr) (h : Heap) : Prop := ∃ oe vs, h.get? a = some oe ∧ Zc (.ref Ca) none oe ∧ oe.data = .fields vs
section
variable {X : Cx} {x n m : Str} {cv : Value} {i j : Nat} {body : List Stmt} {np mp np2 ap pos pos' : Pos} {tb : WX → TS} {Wo : WX}
theorem ps_try_keep (hs : X.stack = X.env :: X.outer) (hf : X.env.frame = some X.env.locals) (hex : X.ex = []) (hN : X.N.Nodup) (hi : X.N[i]? = some n) (hln : X.env.kindOf n = some .local) (hj : X.N[j]? = some m) (hlm : X.env.kindOf m = some .local) (hij : i ≠ j)
    (dn : (n == ("__debug__" : Str)) = false) (dc : (n == ("__classdict__" : Str)) = false) (hc : Names X x cv) (tk : Takes X Wo) (hsw : ∀ env : PySem.Env, swapsWith (.Name n np2) (some (.Name m mp)) ap.line env = pure false)
    (hb : ∀ (W : WX) (pn : List (Addr × Obj)) (xe : Value → Shared → Prop), Takes (X.tr pn xe) W → PassesOwn (model X.prog X.w) X.A X.env xe → PSs (X.tr pn xe) body (tb W)) :
    PS X (.Try body [.ExceptHandler (some (.Name x np)) (some n) [.Assign [.Name m mp] (.Name n np2) ap] pos'] [] [] pos) (fun D σ H => tb (wKeep X.K cv i j Wo D) D σ H) := by
  refine ⟨fun pins s σ H D I h => wpAny_Try_except ?_⟩
  have ok := I.ok
  have fr : X.A.frames = some (X.env :: X.outer) := ok.frames.trans (congrArg some hs)
  generalize hh : (ExceptHandler.ExceptHandler (some (Expr.Name x np)) (some n) [.Assign [.Name m mp] (.Name n np2) ap] pos') = hd
  refine wpAny_mono ((hb (wKeep X.K cv i j Wo D) (X.pn ++ pins) (fun e s₁ => wpAny (model X.prog X.w) X.A (noteFrame e X.env) (fun _ s₂ => wpAny (model X.prog X.w) X.A (setFlight e none) (fun _ s₃ => wpAny (model X.prog X.w) X.A (handleBy e X.env [hd]) (SP X pins D) X.xe s₃) X.xe s₂) X.xe s₁)
    (fun u s' ⟨a, B, sI, pins', σ', H', cls, d, eu, J', nb, up, sky, na, os, ag, b, hb1, hyes, hno⟩ => ?_) PassesOwn.looking).run [] s σ H D (I.toTry _) h) (fun f s1 hsp => ?_) (fun e s1 he => he)
  · subst eu hh
    have J : Inv X pins σ' H' sI := J'.ofTry ok
    show wpAny (model X.prog X.w) X.A (noteFrame (.ref a) X.env) _ _ _
    refine Sky.land Zc.steady fr hf (show Sky B (X.env :: X.outer) a (Zc cls d) X.env.locals s'.heap by rw [← hs]; exact sky) fun h3 fl up3 => ?_
    have J3 : Inv X pins σ' H' { s' with heap := h3 } := J.landed nb fl.1 (up.trans up3) os ag
    obtain ⟨oe, vs, g1, g2, g3⟩ := fl.there
    have nfr : a ∉ frs (X.env :: X.outer) := fun hm => by
      obtain ⟨_, o', e', hnf⟩ := fl.2.2.1.mem hm
      rw [g1] at e'; cases e'
      exact hnf _ g3
    have nL : a ≠ X.env.locals := fun z => nfr (List.mem_filterMap.mpr ⟨X.env, List.mem_cons_self, hf.trans (congrArg some z.symm)⟩)
    have nF : a ∉ X.fs := fun hm => by
      obtain ⟨e, he, q⟩ := List.mem_filterMap.mp hm
      exact nfr (List.mem_filterMap.mpr ⟨e, List.mem_cons_of_mem _ he, q⟩)
    have nI : sI.heap.get? a = none := by
      cases q : sI.heap.get? a with
      | none => rfl
      | some o =>
        have z := nb a o q (by rw [hs]; exact nfr)
        rw [fl.2.1] at z; cases z
    have n0 : X.s_0.heap.get? a = none := by
      cases q : X.s_0.heap.get? a with
      | none => rfl
      | some o =>
        obtain ⟨o', z⟩ := J.base.there a o q (by rw [hex]; exact fun z => nomatch z)
        rw [nI] at z; cases z
    have np' : ∀ p ∈ X.pn ++ pins, p.1 ≠ a := fun p hp z => by
      have q := (J.pin p hp).1
      rw [z, nI] at q; cases q
    have S3 := J3.suite g1 g3 na nL nF
    refine wpAny_handleBy_cons (codeAny_handlers_test ?_) (fun q => by cases q)
    have LT : PySem.W.Looks (model X.prog X.w) h3 (typeOf (.ref a)) cls := fun A Q E s k q => wpAny_typeOf_ref (k _ _ g1) (by rw [g2.1]; exact q)
    have LM := PySem.W.exm_one (M := model X.prog X.w) (J3.kIn) LT hb1
    obtain ⟨hg, hdbg, hm⟩ := hc
    have test : ∀ {Q : Value → Shared → Prop} {E : Value → Shared → Prop}, Q cv { s' with heap := h3 } → wpAny (model X.prog X.w) (X.A.mark (some (.ref a))) (eval (.Name x np) X.env) Q E { s' with heap := h3 } := fun {Q E} q => by
      rcases hm with hm | ⟨hm, hv, hnn⟩
      · exact ld_glob (X := X.suite a ((a, oe) :: (X.pn ++ pins))) S3 hg hm q hdbg
      · exact ld_blt (X := X.suite a ((a, oe) :: (X.pn ++ pins))) S3 hg hm hv q hnn hdbg
    refine test (LM.here ?_)
    cases b with
    | true =>
      obtain ⟨rfl, Ca, rfl, hq⟩ := hyes rfl
      refine codeAny_handlers_suite_as (HandSPX.lands_againZ fl fun h4 fl4 up4 => ?_)
      have J4 : Inv X pins σ' H' { s' with heap := h4 } := J.landed nb fl4.1 ((up.trans up3).trans up4) os ag
      obtain ⟨o4, v4, k1, k2, k3⟩ := fl4.there
      have S4 := J4.suite k1 k3 na nL nF
      refine store_ok (X := X.suite a ((a, o4) :: (X.pn ++ pins))) (v := .ref a) S4 hN hi (.inl hln) rfl (fun s5 S5 => ?_) (.inr hln)
      have st : PSs (X.suite a ((a, o4) :: (X.pn ++ pins))) [.Assign [.Name m mp] (.Name n np2) ap] (tAsg (tVar i) (gName j)) := pss_one (ps_set hN hj (.inl hlm) (pe_var hi (.inl hln) dn dc) (hsw _) (.inr hlm))
      have hlt : i < σ'.length := by
        rw [J.len]
        exact (List.getElem?_eq_some_iff.mp hi).1
      refine wpAny_mono (st.run [] s5 _ H' { nx := fun σ6 H6 => σ6 = (σ'.set i (some (.ref a))).set j (some (.ref a)) ∧ H6 = H', rt := fun _ _ => False, bk := fun _ _ => False, ct := fun _ _ => False } S5 ⟨.ref a, List.getElem?_set_self hlt, rfl, rfl⟩) (fun f s6 hsp => ?_) (fun _ _ z => False.elim z)
      cases f with
      | next =>
        obtain ⟨σ6, H6, S6, rfl, rfl⟩ := hsp
        refine gone_ok (inv_unsuite S6 ok) hN hi hln fun s7 J7 => ?_
        have e : (((σ'.set i (some (V.ref a))).set j (some (.ref a))).set i none) = (σ'.set j (some (.ref a))).set i none := by
          rw [List.set_comm _ _ hij, List.set_set]
        rw [e] at J7
        have J8 := inv_track (φ := exAt a Ca) J7 n0 np' (fun h z => ⟨o4, v4, z, k2, k3⟩) fun h1 h2 ⟨o, v, z1, z2⟩ k => ⟨o, v, k _ z1, z2⟩
        exact ⟨_, _, J8, hq a _ na fun h ⟨o, v, z⟩ => ⟨o, v, z⟩⟩
      | brk => obtain ⟨_, _, _, z⟩ := hsp; exact z.elim
      | cont => obtain ⟨_, _, _, z⟩ := hsp; exact z.elim
      | ret u => obtain ⟨_, _, _, _, _, z⟩ := hsp; exact z.elim
    | false =>
      show wpAny _ X.A (handleBy (.ref a) X.env []) _ _ _
      refine wpAny_handleBy_nil ?_
      obtain ⟨f1, f2, f3, oe', vs', T, oT, ts', y1, y2, y3, y4, y5⟩ := id fl
      unfold PySem.passOn
      refine wpAny_bind (wpAny_field y1 y3 y4 ?_)
      rw [if_neg (show ¬ ((Value.ref T == Value.none) = true) from by simp)]
      have fin : wpAny (model X.prog X.w) X.A (setFlight (.ref a) X.env.frame) (fun _ s4 => wpAny (model X.prog X.w) X.A (throw (.ref a) : Sem Flow) (SP X pins D) X.xe s4) X.xe { s' with heap := h3 } := by
        rw [hf]
        refine HandSPX.setFlight_upZ fl fun h4 hh4 up4 => wpAny_throw (tk _ _ ⟨a, B, sI, pins, σ', H', cls, d, rfl, J, nb, (up.trans up3).trans up4, .inr (.inr (by rw [hs]; exact hh4)), na, os, ag, hno rfl⟩)
      first
        | exact wpAny_bind (wpAny_pure (wpAny_bind fin))
        | exact wpAny_bind fin
  · cases f with
    | next => obtain ⟨σ', H', J', q⟩ := hsp; exact wpAny_execs_nil ⟨σ', H', J'.ofTry ok, q⟩
    | brk => obtain ⟨σ', H', J', q⟩ := hsp; exact ⟨σ', H', J'.ofTry ok, q⟩
    | cont => obtain ⟨σ', H', J', q⟩ := hsp; exact ⟨σ', H', J'.ofTry ok, q⟩
    | ret u => obtain ⟨v, σ', H', J', r, q⟩ := hsp; exact ⟨v, σ', H', J'.ofTry ok, r, q⟩
end
end Sm

set_option maxRecDepth 100000
set_option maxHeartbeats 4000000
namespace Sm
open PySem L2
/-! ### statements: the text against the terms -/
def isLc : Expr → Bool
  | .ListComp _ _ _ _ => true
  | .SetComp _ _ _ _ => true
  | .DictComp _ _ _ _ _ => true
  | _ => false
def isTupE : Expr → Bool
  | .Tuple _ _ _ => true
  | _ => false
/-- a target that is no local name: the tuple is built, then taken apart -/
def notLoc (sc : Scope) : Expr → Bool
  | .Name x _ => !decide (sc.names.lookup x = some .local)
  | _ => true
def noSwT (sc : Scope) (tg v : Expr) : Bool := !isTupE v || (match tg with
  | .Tuple ts _ _ => ts.any (notLoc sc)
  | .List _ _ => false
  | _ => true)
def isLcE : E → Bool
  | .lc _ _ _ _ _ => true
  | _ => false
def locN (sc : Scope) (x : Str) : Bool := decide (sc.names.lookup x = some .local)
def okIt : T → I → Bool
  | .tup _, _ => true
  | .nm _, it => !tupIt it
/-- name = [..] on one line -/
def swB (x : Str) (p : Pos) : Expr → Bool
  | .ListComp _ _ s q => (p.line == q.line) && !(s.names.any fun (n, k) => n == x && (k == .local || k == .cell))
  | _ => false
def parB (x y : Str) (px py : Pos) (a b : Expr) : Bool := (py.line == px.line) && !(x == y) && !([a, b].all (foldedForSure 8)) && !([a, b].all (constantsAlone 8))
def par3B (x y z : Str) (px py pz : Pos) (a b c : Expr) : Bool := (py.line == px.line) && (pz.line == px.line) && !(x == y) && !(x == z) && !(y == z) && !([a, b, c].all (foldedForSure 8)) && !([a, b, c].all (constantsAlone 8))
def ownNm : Expr → Bool
  | .Name _ _ => true
  | _ => false
/-- the classes that may be raised, as the clause sees them -/
def tryB (tb : Tab) (x : Str) (ys : List (Str × Bool)) (cs : List (Nat × Str × Bool)) : Bool := decide ((x, ys) ∈ tb.xi.ec) && cs.all fun p => decide (tb.xi.xs[p.1]? = some p.2.1) && decide ((p.2.1, p.2.2) ∈ ys)
section
variable (tb : Tab) (N : List Str) (sc : Scope)
mutual
def chS : S → Stmt → Bool
  | .asg (.nm i) e, .Assign [.Name x p] v _ => decide (N[i]? = some x) && (locN sc x || decide (sc.names.lookup x = some .cell)) && chE tb N sc e v && (!isLc v || (isLcE e && locN sc x && swB x p v))
  | .asg (.tup ts) e, .Assign [tg] v _ => chTg N sc (fun _ => true) (.tup ts) tg && chE tb N sc e v && !isLc v && noSwT sc tg v
  | .par i j a b, .Assign [.Tuple [.Name x px, .Name y py] _ _] (.Tuple [a', b'] _ _) _ => decide (N[i]? = some x) && decide (N[j]? = some y) && !decide (i = j) && locN sc x && locN sc y && chE tb N sc a a' && chE tb N sc b b' && parB x y px py a' b'
  | .par3 i j l a b c, .Assign [.Tuple [.Name x px, .Name y py, .Name z pz] _ _] (.Tuple [a', b', c'] _ _) _ => decide (N[i]? = some x) && decide (N[j]? = some y) && decide (N[l]? = some z) && !decide (i = j) && !decide (i = l) && !decide (j = l) && locN sc x && locN sc y && locN sc z && chE tb N sc a a' && chE tb N sc b b' && chE tb N sc c c' && par3B x y z px py pz a' b' c'
  | .ex e, .Expr v _ => chE tb N sc e v && !isLc v
  | .app i e, .Expr (.Call (.Attribute (.Name x _) nm ap) [v] [] cp) _ => decide (N[i]? = some x) && visB sc x && plainN x && decide (nm = "append") && (ap.endLine == cp.line) && chE tb N sc e v
  | .seti i k e, .Assign [.Subscript (.Name x _) k' _] v _ => decide (N[i]? = some x) && visB sc x && plainN x && chE tb N sc k k' && chE tb N sc e v && !isLc v
  | .ext i e, .Expr (.Call (.Attribute (.Name x _) nm ap) [v] [] cp) _ => decide (N[i]? = some x) && visB sc x && plainN x && decide (nm = "extend") && (ap.endLine == cp.line) && chE tb N sc e v
  | .ret e, .Return (some v) _ => chE tb N sc e v
  | .retN, .Return none _ => true
  | .ife c a b, .If c' a' b' _ => chE tb N sc c c' && chB a a' && chB b b'
  | .for t it b, .For tg iter body [] _ => chI tb N sc it iter && chTg N sc (fun _ => true) t tg && okIt t it && chB b body
  | .whil c b, .While c' b' [] _ => chE tb N sc c c' && chB b b'
  | .pass, .Pass _ => true
  | .pass, .Expr (.Constant (.str _) _ _) _ => true
  | .brk, .Break _ => true
  | .ct, .Continue _ => true
  | .never, _ => true
  | .rs c, .Raise (some (.Call (.Name x _) [.Constant (.str _) _ _] [] _)) none _ => decide (tb.xi.xs[c]? = some x) && glB sc x && plainN x
  | .tr b x ys cs (.keep i j), .Try body [.ExceptHandler (some (.Name y _)) (some n) [.Assign [.Name m mp] (.Name n2 np2) ap] _] [] [] _ =>
    chB b body && tryB tb x ys cs && decide (y = x) && glB sc x && plainN x && decide (N[i]? = some n) && decide (N[j]? = some m) && decide (n2 = n) && locN sc n && locN sc m && plainN n && !decide (i = j)
  | .tr b x ys cs (.ret d), .Try body [.ExceptHandler (some (.Name y _)) none [.Return (some (.Constant k _ _)) _] _] [] [] _ =>
    chB b body && tryB tb x ys cs && decide (y = x) && glB sc x && plainN x && litB k d
  | .tr b x ys cs (.set j d), .Try body [.ExceptHandler (some (.Name y _)) none [.Assign [.Name m mp] (.Constant k kk kp) ap] _] [] [] _ =>
    chB b body && tryB tb x ys cs && decide (y = x) && glB sc x && plainN x && decide (N[j]? = some m) && locN sc m && litB k d
  | _, _ => false
def chB : B → List Stmt → Bool
  | .nil, [] => true
  | .cons s r, st :: rest => chS s st && chB r rest
  | _, _ => false
end
end
section
variable {tb : Tab} {N : List Str} {sc : Scope} {st : Stmt}
theorem iw_rs {c : Nat} (h : chS tb N sc (.rs c) st = true) : ∃ x p m k p2 q r, st = .Raise (some (.Call (.Name x p) [.Constant (.str m) k p2] [] q)) none r ∧ (tb.xi.xs[c]? = some x ∧ glB sc x = true) ∧ plainN x = true := by
  unfold chS at h
  split at h <;> first
    | (rename_i e1; cases e1; done)
    | exact absurd h Bool.false_ne_true
    | (rename_i e1; cases e1)
  simp only [Bool.and_eq_true, decide_eq_true_eq] at h
  exact ⟨_, _, _, _, _, _, _, rfl, h⟩
theorem iw_keep {b : B} {x : Str} {ys : List (Str × Bool)} {cs : List (Nat × Str × Bool)} {i j : Nat} (h : chS tb N sc (.tr b x ys cs (.keep i j)) st = true) : ∃ body y p n m mp n2 np2 ap q r, st = .Try body [.ExceptHandler (some (.Name y p)) (some n) [.Assign [.Name m mp] (.Name n2 np2) ap] q] [] [] r ∧
    ((((((((((chB tb N sc b body = true ∧ tryB tb x ys cs = true) ∧ y = x) ∧ glB sc x = true) ∧ plainN x = true) ∧ N[i]? = some n) ∧ N[j]? = some m) ∧ n2 = n) ∧ locN sc n = true) ∧ locN sc m = true) ∧ plainN n = true) ∧ ¬ i = j := by
  unfold chS at h
  split at h <;> first
    | (rename_i e1; cases e1; done)
    | exact absurd h Bool.false_ne_true
    | (rename_i e1; cases e1)
  simp only [Bool.and_eq_true, decide_eq_true_eq, Bool.not_eq_true', decide_eq_false_iff_not] at h
  exact ⟨_, _, _, _, _, _, _, _, _, _, _, rfl, h⟩
theorem iw_tret {b : B} {x : Str} {ys : List (Str × Bool)} {cs : List (Nat × Str × Bool)} {d : PyData} (h : chS tb N sc (.tr b x ys cs (.ret d)) st = true) : ∃ body y p k k2 p2 p3 q r, st = .Try body [.ExceptHandler (some (.Name y p)) none [.Return (some (.Constant k k2 p2)) p3] q] [] [] r ∧
    ((((chB tb N sc b body = true ∧ tryB tb x ys cs = true) ∧ y = x) ∧ glB sc x = true) ∧ plainN x = true) ∧ litB k d = true := by
  unfold chS at h
  split at h <;> first
    | (rename_i e1; cases e1; done)
    | exact absurd h Bool.false_ne_true
    | (rename_i e1; cases e1)
  simp only [Bool.and_eq_true, decide_eq_true_eq, Bool.not_eq_true', decide_eq_false_iff_not] at h
  exact ⟨_, _, _, _, _, _, _, _, _, rfl, h⟩
theorem iw_tset {b : B} {x : Str} {ys : List (Str × Bool)} {cs : List (Nat × Str × Bool)} {j : Nat} {d : PyData} (h : chS tb N sc (.tr b x ys cs (.set j d)) st = true) : ∃ body y p m mp k k2 p2 p3 q r, st = .Try body [.ExceptHandler (some (.Name y p)) none [.Assign [.Name m mp] (.Constant k k2 p2) p3] q] [] [] r ∧
    ((((((chB tb N sc b body = true ∧ tryB tb x ys cs = true) ∧ y = x) ∧ glB sc x = true) ∧ plainN x = true) ∧ N[j]? = some m) ∧ locN sc m = true) ∧ litB k d = true := by
  unfold chS at h
  split at h <;> first
    | (rename_i e1; cases e1; done)
    | exact absurd h Bool.false_ne_true
    | (rename_i e1; cases e1)
  simp only [Bool.and_eq_true, decide_eq_true_eq, Bool.not_eq_true', decide_eq_false_iff_not] at h
  exact ⟨_, _, _, _, _, _, _, _, _, _, _, rfl, h⟩
theorem iw_asgn {i : Nat} {e : E} (h : chS tb N sc (.asg (.nm i) e) st = true) : ∃ x p v q, st = .Assign [.Name x p] v q ∧ ((N[i]? = some x ∧ (locN sc x = true ∨ sc.names.lookup x = some .cell)) ∧ chE tb N sc e v = true) ∧ (isLc v = false ∨ ((isLcE e = true ∧ locN sc x = true) ∧ swB x p v = true)) := by
  unfold chS at h
  split at h <;> first
    | (rename_i e1; cases e1; done)
    | exact absurd h Bool.false_ne_true
    | (rename_i e1; cases e1)
  simp only [Bool.and_eq_true, decide_eq_true_eq, Bool.or_eq_true, Bool.not_eq_true'] at h
  exact ⟨_, _, _, _, rfl, h⟩
theorem iw_asgt {ts : Ts} {e : E} (h : chS tb N sc (.asg (.tup ts) e) st = true) : ∃ tg v q, st = .Assign [tg] v q ∧ ((chTg N sc (fun _ => true) (.tup ts) tg = true ∧ chE tb N sc e v = true) ∧ isLc v = false) ∧ noSwT sc tg v = true := by
  unfold chS at h
  split at h <;> first
    | (rename_i e1; cases e1; done)
    | exact absurd h Bool.false_ne_true
    | (rename_i e1; cases e1)
  simp only [Bool.and_eq_true, Bool.not_eq_true'] at h
  exact ⟨_, _, _, rfl, h⟩
theorem iw_par {i j : Nat} {a b : E} (h : chS tb N sc (.par i j a b) st = true) : ∃ x y px py kt pt a' b' k2 pt2 q, st = .Assign [.Tuple [.Name x px, .Name y py] kt pt] (.Tuple [a', b'] k2 pt2) q ∧
    ((((((N[i]? = some x ∧ N[j]? = some y) ∧ ¬ i = j) ∧ locN sc x = true) ∧ locN sc y = true) ∧ chE tb N sc a a' = true) ∧ chE tb N sc b b' = true) ∧ parB x y px py a' b' = true := by
  unfold chS at h
  split at h <;> first
    | (rename_i e1; cases e1; done)
    | exact absurd h Bool.false_ne_true
    | (rename_i e1; cases e1)
  simp only [Bool.and_eq_true, decide_eq_true_eq, Bool.not_eq_true', decide_eq_false_iff_not] at h
  exact ⟨_, _, _, _, _, _, _, _, _, _, _, rfl, h⟩
theorem iw_par3 {i j l : Nat} {a b c : E} (h : chS tb N sc (.par3 i j l a b c) st = true) : ∃ x y z px py pz kt pt a' b' c' k2 pt2 q, st = .Assign [.Tuple [.Name x px, .Name y py, .Name z pz] kt pt] (.Tuple [a', b', c'] k2 pt2) q ∧
    (((((((((((N[i]? = some x ∧ N[j]? = some y) ∧ N[l]? = some z) ∧ ¬ i = j) ∧ ¬ i = l) ∧ ¬ j = l) ∧ locN sc x = true) ∧ locN sc y = true) ∧ locN sc z = true) ∧ chE tb N sc a a' = true) ∧ chE tb N sc b b' = true) ∧ chE tb N sc c c' = true) ∧ par3B x y z px py pz a' b' c' = true := by
  unfold chS at h
  split at h <;> first
    | (rename_i e1; cases e1; done)
    | exact absurd h Bool.false_ne_true
    | (rename_i e1; cases e1)
  simp only [Bool.and_eq_true, decide_eq_true_eq, Bool.not_eq_true', decide_eq_false_iff_not] at h
  exact ⟨_, _, _, _, _, _, _, _, _, _, _, _, _, _, rfl, h⟩
theorem iw_ex {e : E} (h : chS tb N sc (.ex e) st = true) : ∃ v q, st = .Expr v q ∧ chE tb N sc e v = true ∧ isLc v = false := by
  unfold chS at h
  split at h <;> first
    | (rename_i e1; cases e1; done)
    | exact absurd h Bool.false_ne_true
    | (rename_i e1; cases e1)
  simp only [Bool.and_eq_true, Bool.not_eq_true'] at h
  exact ⟨_, _, rfl, h⟩
theorem iw_app {i : Nat} {e : E} (h : chS tb N sc (.app i e) st = true) : ∃ x p nm ap v cp q, st = .Expr (.Call (.Attribute (.Name x p) nm ap) [v] [] cp) q ∧ ((((N[i]? = some x ∧ visB sc x = true) ∧ plainN x = true) ∧ nm = "append") ∧ (ap.endLine == cp.line) = true) ∧ chE tb N sc e v = true := by
  unfold chS at h
  split at h <;> first
    | (rename_i e1; cases e1; done)
    | exact absurd h Bool.false_ne_true
    | (rename_i e1; cases e1)
  simp only [Bool.and_eq_true, decide_eq_true_eq] at h
  exact ⟨_, _, _, _, _, _, _, rfl, h⟩
theorem iw_ext {i : Nat} {e : E} (h : chS tb N sc (.ext i e) st = true) : ∃ x p nm ap v cp q, st = .Expr (.Call (.Attribute (.Name x p) nm ap) [v] [] cp) q ∧ ((((N[i]? = some x ∧ visB sc x = true) ∧ plainN x = true) ∧ nm = "extend") ∧ (ap.endLine == cp.line) = true) ∧ chE tb N sc e v = true := by
  unfold chS at h
  split at h <;> first
    | (rename_i e1; cases e1; done)
    | exact absurd h Bool.false_ne_true
    | (rename_i e1; cases e1)
  simp only [Bool.and_eq_true, decide_eq_true_eq] at h
  exact ⟨_, _, _, _, _, _, _, rfl, h⟩
theorem iw_seti {i : Nat} {k e : E} (h : chS tb N sc (.seti i k e) st = true) : ∃ x p k' sp v q, st = .Assign [.Subscript (.Name x p) k' sp] v q ∧ ((((N[i]? = some x ∧ visB sc x = true) ∧ plainN x = true) ∧ chE tb N sc k k' = true) ∧ chE tb N sc e v = true) ∧ isLc v = false := by
  unfold chS at h
  split at h <;> first
    | (rename_i e1; cases e1; done)
    | exact absurd h Bool.false_ne_true
    | (rename_i e1; cases e1)
  simp only [Bool.and_eq_true, decide_eq_true_eq, Bool.not_eq_true'] at h
  exact ⟨_, _, _, _, _, _, rfl, h⟩
theorem iw_ret {e : E} (h : chS tb N sc (.ret e) st = true) : ∃ v q, st = .Return (some v) q ∧ chE tb N sc e v = true := by
  unfold chS at h
  split at h <;> first
    | (rename_i e1; cases e1; done)
    | exact absurd h Bool.false_ne_true
    | (rename_i e1; cases e1)
  exact ⟨_, _, rfl, h⟩
theorem iw_retN (h : chS tb N sc .retN st = true) : ∃ q, st = .Return none q := by
  unfold chS at h
  split at h <;> first
    | (rename_i e1; cases e1; done)
    | exact absurd h Bool.false_ne_true
    | (rename_i e1; cases e1)
  exact ⟨_, rfl⟩
theorem iw_ife {c : E} {a b : B} (h : chS tb N sc (.ife c a b) st = true) : ∃ c' a' b' q, st = .If c' a' b' q ∧ (chE tb N sc c c' = true ∧ chB tb N sc a a' = true) ∧ chB tb N sc b b' = true := by
  unfold chS at h
  split at h <;> first
    | (rename_i e1; cases e1; done)
    | exact absurd h Bool.false_ne_true
    | (rename_i e1; cases e1)
  simp only [Bool.and_eq_true] at h
  exact ⟨_, _, _, _, rfl, h⟩
theorem iw_for {t : T} {it : I} {b : B} (h : chS tb N sc (.for t it b) st = true) : ∃ tg iter body q, st = .For tg iter body [] q ∧ ((chI tb N sc it iter = true ∧ chTg N sc (fun _ => true) t tg = true) ∧ okIt t it = true) ∧ chB tb N sc b body = true := by
  unfold chS at h
  split at h <;> first
    | (rename_i e1; cases e1; done)
    | exact absurd h Bool.false_ne_true
    | (rename_i e1; cases e1)
  simp only [Bool.and_eq_true] at h
  exact ⟨_, _, _, _, rfl, h⟩
theorem iw_whil {c : E} {b : B} (h : chS tb N sc (.whil c b) st = true) : ∃ c' b' q, st = .While c' b' [] q ∧ chE tb N sc c c' = true ∧ chB tb N sc b b' = true := by
  unfold chS at h
  split at h <;> first
    | (rename_i e1; cases e1; done)
    | exact absurd h Bool.false_ne_true
    | (rename_i e1; cases e1)
  simp only [Bool.and_eq_true] at h
  exact ⟨_, _, _, rfl, h⟩
theorem iw_pass (h : chS tb N sc .pass st = true) : (∃ q, st = .Pass q) ∨ ∃ x j p q, st = .Expr (.Constant (.str x) j p) q := by
  unfold chS at h
  split at h <;> first
    | (rename_i e1; cases e1; done)
    | exact absurd h Bool.false_ne_true
    | exact .inl ⟨_, rfl⟩
    | exact .inr ⟨_, _, _, _, rfl⟩
theorem iw_brk (h : chS tb N sc .brk st = true) : ∃ q, st = .Break q := by
  unfold chS at h
  split at h <;> first
    | (rename_i e1; cases e1; done)
    | exact absurd h Bool.false_ne_true
    | exact ⟨_, rfl⟩
theorem iw_ct (h : chS tb N sc .ct st = true) : ∃ q, st = .Continue q := by
  unfold chS at h
  split at h <;> first
    | (rename_i e1; cases e1; done)
    | exact absurd h Bool.false_ne_true
    | exact ⟨_, rfl⟩
theorem no_sw {v : Expr} (h : isLc v = false) (t : Option Expr) (l : Nat) (env : PySem.Env) : swapsWith v t l env = pure false := by
  cases v <;> first | rfl | (cases h)
theorem no_st {v tg : Expr} (h : isTupE v = false) (env : PySem.Env) : swappedStores [tg] v env = pure none := by
  cases v <;> first | (cases tg <;> rfl) | (cases h)
theorem swap_len {env : PySem.Env} {line : Nat} : ∀ ts : List Expr, (ts.filterMap fun
    | .Name id pos => if env.kindOf id == some .local && pos.line == line then some id else none
    | _ => none).length ≤ ts.length := fun ts => List.length_filterMap_le _ _
theorem swap_lt {env : PySem.Env} {line : Nat} : ∀ {ts : List Expr}, ts.any (notLoc env.scope) = true → (ts.filterMap fun
    | .Name id pos => if env.kindOf id == some .local && pos.line == line then some id else none
    | _ => none).length < ts.length
  | [], h => by cases h
  | t :: r, h => by
    rw [List.any_cons, Bool.or_eq_true] at h
    have hle := swap_len (env := env) (line := line) r
    rcases h with h | h
    · rw [List.filterMap_cons]
      cases t with
      | Name x p =>
        have h : (!decide (env.scope.names.lookup x = some .local)) = true := h
        have hk : (env.kindOf x == some .local) = false := by
          rw [Bool.not_eq_true', decide_eq_false_iff_not] at h
          exact beq_eq_false_iff_ne.mpr h
        simp only [hk, Bool.false_and, Bool.false_eq_true, if_false]
        exact Nat.lt_succ_of_le hle
      | _ => exact Nat.lt_succ_of_le hle
    · have hlt := swap_lt (line := line) h
      rw [List.filterMap_cons]
      split
      · exact Nat.lt_succ_of_lt hlt
      · exact Nat.succ_lt_succ hlt
theorem no_st2 {v tg : Expr} {env : PySem.Env} (h : noSwT env.scope tg v = true) : swappedStores [tg] v env = pure none := by
  cases hv : isTupE v with
  | false => exact no_st hv env
  | true =>
    unfold noSwT at h
    rw [hv] at h
    cases v <;> first | (cases hv; done) | skip
    rename_i vs kv pv
    cases tg <;> first | rfl | (cases h; done) | skip
    rename_i ts kt pt
    have h : ts.any (notLoc env.scope) = true := h
    have hlt := swap_lt (line := (ts.head?.map (·.pos.line)).getD 0) h
    unfold swappedStores
    simp only [pure_bind]
    split
    · rfl
    · split
      · rfl
      · exact if_pos (by rw [Bool.or_eq_true]; exact .inl (bne_iff_ne.mpr (Nat.ne_of_lt hlt)))
theorem par_st {x y : Str} {a b : Expr} {px py pt pt2 : Pos} {kt k2 : Nat} {env : PySem.Env} (hk : env.scope.kind = .function) (hx : env.scope.names.lookup x = some .local) (hy : env.scope.names.lookup y = some .local) (ka : okE a = true) (kb : okE b = true) (h : parB x y px py a b = true) :
    swappedStores [.Tuple [.Name x px, .Name y py] kt pt] (.Tuple [a, b] k2 pt2) env = pure (some [x, y]) := by
  have hb : env.blockKind = .function := by unfold Env.blockKind; rw [hk]; rfl
  have kx : env.kindOf x = some .local := hx
  have ky : env.kindOf y = some .local := hy
  unfold parB at h
  simp only [Bool.and_eq_true, Bool.not_eq_true'] at h
  obtain ⟨⟨⟨h1, h2⟩, h3⟩, h4⟩ := h
  have hst : ([a, b].any fun | .Starred .. => true | _ => false) = false := by
    cases a <;> cases b <;> first | rfl | (cases ka; done) | (cases kb; done)
  unfold swappedStores
  simp only [List.length_cons, List.length_nil, Expr.pos, List.head?_cons, Option.map_some, Option.getD_some, List.filterMap_cons, List.filterMap_nil, hb, kx, ky, h1, h3, h4, hst, BEq.rfl, Bool.and_self, if_true, Bool.true_or, Bool.not_true, Bool.false_or, bne_self_eq_false, Bool.or_self, Bool.false_eq_true, if_false]
  have e1 : [x, y].eraseDups = [x, y] := by
    have h2' : (y == x) = false := by
      rw [beq_eq_false_iff_ne] at h2 ⊢
      exact fun e => h2 e.symm
    rw [List.eraseDups_cons]
    simp only [List.filter_cons, List.filter_nil, h2', Bool.not_false, if_true, List.eraseDups_cons, List.eraseDups_nil]
  rw [e1]
  refine (if_neg ?_).trans rfl
  cases a <;> cases b <;> first | exact Bool.false_ne_true | (cases ka; done) | (cases kb; done)
theorem par3_st {x y z : Str} {a b c : Expr} {px py pz pt pt2 : Pos} {kt k2 : Nat} {env : PySem.Env} (hk : env.scope.kind = .function) (hx : env.scope.names.lookup x = some .local) (hy : env.scope.names.lookup y = some .local) (hz : env.scope.names.lookup z = some .local)
    (ka : okE a = true) (kb : okE b = true) (kc : okE c = true) (h : par3B x y z px py pz a b c = true) :
    swappedStores [.Tuple [.Name x px, .Name y py, .Name z pz] kt pt] (.Tuple [a, b, c] k2 pt2) env = pure (some [x, y, z]) := by
  have hb : env.blockKind = .function := by unfold Env.blockKind; rw [hk]; rfl
  have kx : env.kindOf x = some .local := hx
  have ky : env.kindOf y = some .local := hy
  have kz : env.kindOf z = some .local := hz
  unfold par3B at h
  simp only [Bool.and_eq_true, Bool.not_eq_true'] at h
  obtain ⟨⟨⟨⟨⟨⟨h1, h1'⟩, h2⟩, h5⟩, h6⟩, h3⟩, h4⟩ := h
  unfold swappedStores
  simp only [List.length_cons, List.length_nil, Expr.pos, List.head?_cons, Option.map_some, Option.getD_some, List.filterMap_cons, List.filterMap_nil, hb, kx, ky, kz, h1, h1', h3, h4, BEq.rfl, Bool.and_self, if_true, Bool.true_or, Bool.or_true, Bool.not_true, Bool.false_or, bne_self_eq_false, Bool.or_self, Bool.false_eq_true, if_false]
  have e1 : [x, y, z].eraseDups = [x, y, z] := by
    have sw : ∀ {u v : Str}, (u == v) = false → (v == u) = false := fun {u v} h => by
      rw [beq_eq_false_iff_ne] at h ⊢
      exact fun e => h e.symm
    rw [List.eraseDups_cons]
    simp only [List.filter_cons, List.filter_nil, sw h2, sw h5, sw h6, Bool.not_false, if_true, List.eraseDups_cons, List.eraseDups_nil]
  rw [e1]
  refine (if_neg ?_).trans ?_
  · cases a <;> first | (cases ka; done) | (cases b <;> first | (cases kb; done) | (cases c <;> first | exact Bool.false_ne_true | (cases kc; done)))
  · rfl
end
end Sm

set_option maxRecDepth 100000
set_option maxHeartbeats 4000000
namespace Sm
open PySem L2
/-! ### raise and try -/
/-- a def's own context, or a try's body in it -/
structure TryOk (X : Cx) : Prop where
  st : X.stack = X.env :: X.outer
  fr : X.env.frame = some X.env.locals
  ex : X.ex = []
theorem TryOk.tr {X : Cx} (t : TryOk X) (pn : List (Addr × Obj)) (xe : Value → Shared → Prop) : TryOk (X.tr pn xe) := ⟨t.st, t.fr, t.ex⟩
section
variable {K : PySem.W.Frag} {G : Gh} {F H : Hp} {env : Sm.Env} {σ : L2.St}
theorem Rel.unset2 (rel : Rel K G F env σ H) {i : Nat} (na : isArg env i = false) : Rel K G F (env.set i none) (σ.set i none) H where
  fh := rel.fh
  f0 := rel.f0
  keep := rel.keep
  new := rel.new
  len := by rw [List.length_set, List.length_set]; exact rel.len
  slot := fun j sv h => by
    obtain ⟨n, h⟩ := at_unset h
    obtain ⟨v, h1, h2⟩ := rel.slot j sv h
    exact ⟨v, by show (σ.set i none)[j]? = _; rw [List.getElem?_set_ne (Ne.symm n)]; exact h1, h2⟩
  sep := fun j k x b y c n h1 h2 => by
    obtain ⟨n1, h1⟩ := at_unset h1
    obtain ⟨n2, h2⟩ := at_unset h2
    rw [List.getElem?_set_ne (Ne.symm n1), List.getElem?_set_ne (Ne.symm n2)]
    exact rel.sep j k x b y c n h1 h2
  arg := fun p hp => by
    obtain ⟨x, h1, h2⟩ := rel.arg p hp
    have n : i ≠ p.1 := fun e => by
      unfold isArg at na
      rw [e, show env[p.1]? = some (some (SV.own x true)) from h1] at na
      cases na
    refine ⟨x, ?_, ?_⟩
    · show (env.set i none)[p.1]? = _
      rw [List.getElem?_set_ne n]; exact h1
    · show (σ.set i none)[p.1]? = _
      rw [List.getElem?_set_ne n]; exact h2
theorem setAt_ok {e : Sm.Env} {i : Nat} {v : SV} (hl : i < e.length) (na : isArg e i = false) : setAt e i v = some (e.set i (some v)) := by
  unfold setAt
  have h : e[i]? = some e[i] := List.getElem?_eq_getElem hl
  unfold isArg at na
  rw [h] at na ⊢
  cases q : e[i] with
  | none => rfl
  | some sv =>
    rw [q] at na
    cases sv with
    | own x b =>
      cases b with
      | true => cases na
      | false => rfl
    | _ => rfl
end
section
variable {X : Cx} {C : Ctx} {sc : Scope} {tb : Tab} {N : List Str} {Φ : Nat → Spec} {cs : Nat → D} {W : Nat}
theorem good_tr (g : Good X C sc tb N Φ cs) {pn : List (Addr × Obj)} {xe : Value → Shared → Prop} {W' : WX} (tk : Takes (X.tr pn xe) W') (po : PassesOwn (model X.prog X.w) X.A X.env xe) : Good (X.tr pn xe) { C with W := W' } sc tb N Φ cs :=
  ⟨g.sc, g.kd, g.k, g.n, g.nd, g.calm, g.un, g.bi, g.cn, g.cd, g.rp, po, tk, g.fns, g.xs, g.ec⟩
theorem sRsS (g : Good X C sc tb N Φ cs) {c : Nat} {x m : Str} {k : Nat} {p p2 q r : Pos} (h1 : tb.xi.xs[c]? = some x) (h2 : glB sc x = true) (h3 : plainN x = true) :
    PS X (.Raise (some (.Call (.Name x p) [.Constant (.str m) k p2] [] q)) none r) (tS C (evS Φ cs W (.rs c))) := by
  obtain ⟨Ca, e1, e2, e3, e4, e5, e6, e7⟩ := g.xs c x h1
  refine PS.imp (ps_raise g.calm g.tk (pmk_own PySem.F.excBase_ValueError e4 e2 e5 (raises_own e6 e7) (g.gl h2) (plain_of h3).1)) fun D σ H ⟨F, env, rel, o, env', e, w⟩ => ?_
  cases e
  have := w σ F H rel (.refl F)
  rw [e1] at this
  exact this
theorem look_mem {α : Type} {c : Nat} {z : α} : ∀ {l : List (Nat × α)}, l.lookup c = some z → (c, z) ∈ l
  | [], e => by cases e
  | (k, v) :: r, e => by
    rw [List.lookup_cons] at e
    by_cases q : (c == k) = true
    · rw [q] at e
      cases e
      rw [beq_iff_eq.mp q]
      exact List.mem_cons_self
    · rw [Bool.not_eq_true] at q
      rw [q] at e
      exact List.mem_cons_of_mem _ (look_mem e)
/-- what the clause says of a class -/
theorem try_ec (g : Good X C sc tb N Φ cs) {x : Str} {ys : List (Str × Bool)} {ks : List (Nat × Str × Bool)} (h : tryB tb x ys ks = true) (hg : glB sc x = true) (hp : plainN x = true) :
    ∃ u, Names X x u ∧ ∀ c y b, ks.lookup c = some (y, b) → ∃ Ca, C.cl c = .ref Ca ∧ XcC X.K y Ca ∧ PySem.W.exmOne X.K (.ref Ca) u = some b := by
  unfold tryB at h
  rw [Bool.and_eq_true, decide_eq_true_eq, List.all_eq_true] at h
  obtain ⟨v, u, h1, h2, h3, h4, h5⟩ := g.ec _ h.1
  refine ⟨u, ⟨g.gl hg, (plain_of hp).1, h1⟩, fun c y b e => ?_⟩
  have hm := h.2 (c, y, b) (look_mem e)
  rw [Bool.and_eq_true, decide_eq_true_eq, decide_eq_true_eq] at hm
  obtain ⟨Ca, e1, e2, e3, _⟩ := g.xs c y hm.1
  exact ⟨Ca, e1, e3, (h5 (y, b) hm.2 Ca e3).1⟩
theorem postS_ok {C : Ctx} {W' : WX} {D : Ends} {F : Hp} {f : Fl} {e : Sm.Env} (h : PostS C F D (.ok f) e) : PostS { C with W := W' } F D (.ok f) e := by
  cases f <;> exact h
theorem sKeepS (g : Good X C sc tb N Φ cs) (ht : TryOk X) {b : B} {x : Str} {ys : List (Str × Bool)} {ks : List (Nat × Str × Bool)} {i j : Nat} {body : List Stmt} {n m : Str} {p mp np2 ap q r : Pos}
    (hb : ∀ (W' : WX) (pn : List (Addr × Obj)) (xe : Value → Shared → Prop), Takes (X.tr pn xe) W' → PassesOwn (model X.prog X.w) X.A X.env xe → PSs (X.tr pn xe) body (tS { C with W := W' } (evB Φ cs W b)))
    (ht2 : tryB tb x ys ks = true) (hg : glB sc x = true) (hp : plainN x = true) (hi : N[i]? = some n) (hj : N[j]? = some m) (hn : sc.names.lookup n = some .local) (hm : sc.names.lookup m = some .local) (pn' : plainN n = true) (hij : i ≠ j) :
    PS X (.Try body [.ExceptHandler (some (.Name x p)) (some n) [.Assign [.Name m mp] (.Name n np2) ap] q] [] [] r) (tS C (evS Φ cs W (.tr b x ys ks (.keep i j)))) := by
  obtain ⟨u, hN, hq⟩ := try_ec g ht2 hg hp
  refine PS.imp (ps_try_keep (tb := fun W' => tS { C with W := W' } (evB Φ cs W b)) ht.st ht.fr ht.ex (by rw [g.n]; exact g.nd) (by rw [g.n]; exact hi) (by show X.env.scope.names.lookup n = _; rw [g.sc]; exact hn) (by rw [g.n]; exact hj) (by show X.env.scope.names.lookup m = _; rw [g.sc]; exact hm) hij
    (plain_of pn').1 (plain_of pn').2 hN g.tk (fun _ => rfl) hb) fun D σ H ⟨F, env, rel, o, env', e, w⟩ => ?_
  have e : tryM (evB Φ cs W b) ks (.keep i j) env = some (o, env') := e
  unfold tryM at e
  refine ⟨F, env, rel, ?_⟩
  cases hev : evB Φ cs W b env with
  | none => rw [hev] at e; cases e
  | some z =>
    obtain ⟨o1, e1⟩ := z
    rw [hev] at e
    refine ⟨o1, e1, hev, ?_⟩
    cases o1 with
    | ok f =>
      cases e
      exact postS_ok w
    | rs c =>
      intro σ' F' H' r' ex
      have e : (match ks.lookup c with
        | some (y, true) => suEnd (.keep i j) y e1
        | some (_, false) => some (.rs c, e1)
        | none => none) = some (o, env') := e
      cases hl : ks.lookup c with
      | none => rw [hl] at e; cases e
      | some yb =>
        obtain ⟨y, b'⟩ := yb
        obtain ⟨Ca, k1, k2, k3⟩ := hq c y b' hl
        rw [hl] at e
        refine ⟨b', by show PySem.W.exmOne X.K (C.cl c) u = _; rw [k1]; exact k3, fun hb' => ?_, fun hb' => ?_⟩
        · subst hb'
          refine ⟨rfl, Ca, k1, fun a φ na hi' => ?_⟩
          have e : suEnd (.keep i j) y e1 = some (o, env') := e
          unfold suEnd at e
          dsimp only at e
          obtain ⟨c1, e⟩ := Sm.ifs e
          simp only [Bool.and_eq_true, decide_eq_true_eq, Bool.not_eq_true', decide_eq_false_iff_not] at c1
          obtain ⟨⟨⟨⟨c1, c2⟩, c3⟩, c4⟩, _⟩ := c1
          cases e
          have r1 := r'.grow (.laid (o := .ext φ) r'.fh na)
          have hrd : RD C.K (upd F' a (.ext φ)) (.ref a) (excD y) := .inr ⟨a, Ca, φ, y, rfl, rfl, upd_same, hi', by rw [← g.k]; exact k2⟩
          have r2 := put_loose (sv := .d (excD y)) r1 hrd (setAt_ok c2 c4)
          have na2 : isArg (e1.set j (some (.d (excD y)))) i = false := by
            unfold isArg
            rw [List.getElem?_set_ne (Ne.symm hij)]
            exact c3
          have r3 := r2.unset2 na2
          exact w _ _ _ r3 (ex.trans (Ex.upd (r'.fh.free na)))
        · subst hb'
          cases e
          exact w _ _ _ r' ex
theorem lit_pe {X : Cx} {k : Const} {d : D} {j : Nat} {p : Pos} (h : litB k d = true) : ∃ v, PE X (.Constant k j p) (tC v) ∧ ∀ K F, RD K F v d := by
  cases k <;> cases d <;> simp only [litB, Bool.false_eq_true, beq_iff_eq, decide_eq_true_eq] at h
  · exact ⟨.non, pe_non, fun _ _ => rfl⟩
  · subst h; exact ⟨.bl _, pe_bl, fun _ _ => rfl⟩
  · subst h; exact ⟨.int _, pe_int, fun _ _ => rfl⟩
  · subst h; exact ⟨.str _, pe_str, fun _ _ => rfl⟩
theorem sTretS (g : Good X C sc tb N Φ cs) (ht : TryOk X) {b : B} {x : Str} {ys : List (Str × Bool)} {ks : List (Nat × Str × Bool)} {body : List Stmt} {k : Const} {k2 : Nat} {d : D} {p p2 p3 q r : Pos}
    (hb : ∀ (W' : WX) (pn : List (Addr × Obj)) (xe : Value → Shared → Prop), Takes (X.tr pn xe) W' → PassesOwn (model X.prog X.w) X.A X.env xe → PSs (X.tr pn xe) body (tS { C with W := W' } (evB Φ cs W b)))
    (ht2 : tryB tb x ys ks = true) (hg : glB sc x = true) (hp : plainN x = true) (hk : litB k d = true) :
    PS X (.Try body [.ExceptHandler (some (.Name x p)) none [.Return (some (.Constant k k2 p2)) p3] q] [] [] r) (tS C (evS Φ cs W (.tr b x ys ks (.ret d)))) := by
  obtain ⟨u, hN, hq⟩ := try_ec g ht2 hg hp
  have lit : ∀ X : Cx, ∃ v, PE X (.Constant k k2 p2) (tC v) ∧ ∀ K F, RD K F v d := fun X => lit_pe hk
  obtain ⟨v, _, hv⟩ := lit X
  have hsu : ∀ X : Cx, PSs X [.Return (some (.Constant k k2 p2)) p3] (tRet (tC v)) := fun X' => by
    obtain ⟨v', h1, h2⟩ := lit X'
    have ev : v' = v := by
      have z1 := h2 X.K fun _ => none
      have z2 := hv X.K fun _ => none
      cases d with
      | none => exact z1.trans z2.symm
      | bool _ => exact z1.trans z2.symm
      | int _ => exact z1.trans z2.symm
      | str _ => exact z1.trans z2.symm
      | _ => cases k <;> cases hk
    rw [ev] at h1
    exact pss_one (ps_ret h1)
  refine PS.imp (ps_try_only (tb := fun W' => tS { C with W := W' } (evB Φ cs W b)) (ts := fun _ _ _ => tRet (tC v)) ht.st ht.fr hN g.tk hb fun a oe cls dd pn _ _ => hsu _) fun D σ H ⟨F, env, rel, o, env', e, w⟩ => ?_
  have e : tryM (evB Φ cs W b) ks (.ret d) env = some (o, env') := e
  unfold tryM at e
  refine ⟨F, env, rel, ?_⟩
  cases hev : evB Φ cs W b env with
  | none => rw [hev] at e; cases e
  | some z =>
    obtain ⟨o1, e1⟩ := z
    rw [hev] at e
    refine ⟨o1, e1, hev, ?_⟩
    cases o1 with
    | ok f =>
      cases e
      exact postS_ok w
    | rs c =>
      intro σ' F' H' r' ex
      have e : (match ks.lookup c with
        | some (y, true) => suEnd (.ret d) y e1
        | some (_, false) => some (.rs c, e1)
        | none => none) = some (o, env') := e
      cases hl : ks.lookup c with
      | none => rw [hl] at e; cases e
      | some yb =>
        obtain ⟨y, b'⟩ := yb
        obtain ⟨Ca, k1, k2, k3⟩ := hq c y b' hl
        rw [hl] at e
        refine ⟨b', by show PySem.W.exmOne X.K (C.cl c) u = _; rw [k1]; exact k3, fun hb' a na => ?_, fun hb' => ?_⟩
        · subst hb'
          cases e
          exact w v _ _ _ r' ex (hv _ _)
        · subst hb'
          cases e
          exact w _ _ _ r' ex
theorem sTsetS (g : Good X C sc tb N Φ cs) (ht : TryOk X) {b : B} {x m : Str} {ys : List (Str × Bool)} {ks : List (Nat × Str × Bool)} {body : List Stmt} {k : Const} {k2 j : Nat} {d : D} {p mp p2 p3 q r : Pos}
    (hb : ∀ (W' : WX) (pn : List (Addr × Obj)) (xe : Value → Shared → Prop), Takes (X.tr pn xe) W' → PassesOwn (model X.prog X.w) X.A X.env xe → PSs (X.tr pn xe) body (tS { C with W := W' } (evB Φ cs W b)))
    (ht2 : tryB tb x ys ks = true) (hg : glB sc x = true) (hp : plainN x = true) (hj : N[j]? = some m) (hm : sc.names.lookup m = some .local) (hk : litB k d = true) :
    PS X (.Try body [.ExceptHandler (some (.Name x p)) none [.Assign [.Name m mp] (.Constant k k2 p2) p3] q] [] [] r) (tS C (evS Φ cs W (.tr b x ys ks (.set j d)))) := by
  obtain ⟨u, hN, hq⟩ := try_ec g ht2 hg hp
  have lit : ∀ X : Cx, ∃ v, PE X (.Constant k k2 p2) (tC v) ∧ ∀ K F, RD K F v d := fun X => lit_pe hk
  obtain ⟨v, _, hv⟩ := lit X
  have hml : X.env.scope.names.lookup m = some .local := by rw [g.sc]; exact hm
  have hsu : ∀ (a : Addr) (pn : List (Addr × Obj)), PSs (X.suite a pn) [.Assign [.Name m mp] (.Constant k k2 p2) p3] (tAsg (tC v) (gName j)) := fun a pn => by
    obtain ⟨v', h1, h2⟩ := lit (X.suite a pn)
    have ev : v' = v := by
      have z1 := h2 X.K fun _ => none
      have z2 := hv X.K fun _ => none
      cases d with
      | none => exact z1.trans z2.symm
      | bool _ => exact z1.trans z2.symm
      | int _ => exact z1.trans z2.symm
      | str _ => exact z1.trans z2.symm
      | _ => cases k <;> cases hk
    rw [ev] at h1
    exact pss_one (ps_set (by show X.N.Nodup; rw [g.n]; exact g.nd) (by show X.N[j]? = _; rw [g.n]; exact hj) (.inl hml) h1 (by rfl) (.inr hml))
  refine PS.imp (ps_try_only (tb := fun W' => tS { C with W := W' } (evB Φ cs W b)) (ts := fun _ _ _ => tAsg (tC v) (gName j)) ht.st ht.fr hN g.tk hb fun a oe cls dd pn _ _ => hsu _ _) fun D σ H ⟨F, env, rel, o, env', e, w⟩ => ?_
  have e : tryM (evB Φ cs W b) ks (.set j d) env = some (o, env') := e
  unfold tryM at e
  refine ⟨F, env, rel, ?_⟩
  cases hev : evB Φ cs W b env with
  | none => rw [hev] at e; cases e
  | some z =>
    obtain ⟨o1, e1⟩ := z
    rw [hev] at e
    refine ⟨o1, e1, hev, ?_⟩
    cases o1 with
    | ok f =>
      cases e
      exact postS_ok w
    | rs c =>
      intro σ' F' H' r' ex
      have e : (match ks.lookup c with
        | some (y, true) => suEnd (.set j d) y e1
        | some (_, false) => some (.rs c, e1)
        | none => none) = some (o, env') := e
      cases hl : ks.lookup c with
      | none => rw [hl] at e; cases e
      | some yb =>
        obtain ⟨y, b'⟩ := yb
        obtain ⟨Ca, k1, k2, k3⟩ := hq c y b' hl
        rw [hl] at e
        refine ⟨b', by show PySem.W.exmOne X.K (C.cl c) u = _; rw [k1]; exact k3, fun hb' a na => ?_, fun hb' => ?_⟩
        · subst hb'
          have e : suEnd (.set j d) y e1 = some (o, env') := e
          unfold suEnd at e
          dsimp only at e
          obtain ⟨c1, e⟩ := Sm.ifs e
          simp only [Bool.and_eq_true, decide_eq_true_eq, Bool.not_eq_true'] at c1
          cases e
          exact w _ _ _ (put_loose (sv := .d d) r' (show RD C.K F' v d from hv _ _) (setAt_ok c1.1 c1.2)) ex
        · subst hb'
          cases e
          exact w _ _ _ r' ex
end
end Sm

set_option maxRecDepth 100000
set_option maxHeartbeats 4000000
namespace Sm
open PySem L2
/-! ### statements: what fits is done -/
section
variable {X : Cx} {C : Ctx} {sc : Scope} {tb : Tab} {N : List Str} {Φ : Nat → Spec} {cs : Nat → D} {W : Nat}
theorem sNilB : PSs X [] (tS C (evB Φ cs W .nil)) := ⟨fun pins s σ H D I ⟨F, env, rel, h⟩ => pss_nil.run pins s σ H D I (gs_ret h σ F H rel (.refl F))⟩
theorem PSs.imp' {X : Cx} {e : List Stmt} {t t' : TS} (h : PSs X e t) (i : ∀ D σ H, t' D σ H → t D σ H) : PSs X e t' := PSs.imp h i
theorem sConsB {ms : S} {mr : B} {st : Stmt} {rest : List Stmt} (h1 : PS X st (tS C (evS Φ cs W ms))) (h2 : PSs X rest (tS C (evB Φ cs W mr))) : PSs X (st :: rest) (tS C (evB Φ cs W (.cons ms mr))) := by
  refine PSs.imp (pss_cons h1 h2) fun D σ H ⟨F, env, rel, o, env', e, p⟩ => ?_
  have e : ((evS Φ cs W ms).bind fun f => (match f with | .nx => evB Φ cs W mr | f => M.ret f)) env = some (o, env') := e
  unfold M.bind at e
  cases q : evS Φ cs W ms env with
  | none => rw [q] at e; cases e
  | some z =>
    obtain ⟨o1, e1⟩ := z
    rw [q] at e
    refine ⟨F, env, rel, o1, e1, q, ?_⟩
    cases o1 with
    | rs c => cases e; exact p
    | ok f =>
      cases f with
      | nx =>
        intro σ' F' H' r f
        exact ⟨F', e1, r, o, env', e, p.mono f⟩
      | rt r => cases e; exact p
      | bk => cases e; exact p
      | ct => cases e; exact p
theorem ls_loc {x : Str} (h : locN sc x = true) : sc.names.lookup x = some .local := of_decide_eq_true h
mutual
theorem mS : ∀ (m : S) {X : Cx} {C : Ctx} (g : Good X C sc tb N Φ cs) (hf : ∀ x, X.fn x = true) (ht : TryOk X) (st : Stmt), chS tb N sc m st = true → PS X st (tS C (evS Φ cs W m))
  | .asg (.nm i) e, X, C, g, hf, tk, st, h => by
    obtain ⟨x, p, v, q, rfl, ⟨⟨h1, h2⟩, h3⟩, h4⟩ := iw_asgn h
    have hl : Loc X.env.scope x := by
      rw [g.sc]
      rcases h2 with h2 | h2
      · exact .inl (ls_loc h2)
      · exact .inr h2
    cases hlc : isLc v with
    | false => exact sAsgS g hf h1 hl (mE e g v h3).1 (no_sw hlc _ _ _)
    | true =>
      rcases h4 with h4 | ⟨h4, h5⟩
      · rw [hlc] at h4; cases h4
      · cases v <;> first | (cases h5; done) | skip
        have hloc : X.env.scope.names.lookup x = some .local := by rw [g.sc]; exact ls_loc h4.2
        · cases e <;> first | (exact absurd h4.1 Bool.false_ne_true) | skip
          rename_i elt t it ifs own
          obtain ⟨elt', tg, iter, ifs', scope, p2, e1, k1, k2, k3, k4, k5, k6, k7⟩ := iv_lc h3
          cases e1
          have ht : (∃ es k p, tg = .Tuple es k p) ∨ tupIt it = false := by
            rcases k4 with ⟨ts, rfl⟩ | k4
            · exact .inl (tg_tup k5)
            · exact .inr k4
          unfold swB at h5
          simp only [Bool.and_eq_true, Bool.not_eq_true'] at h5
          exact sAsgLS (t := t) g h1 hloc (mI it g iter k1 tg ht) k2 k3 (fun s H Ca cl fp => sTg (good_blk g (blkOk_by k2).kind s H Ca cl fp) (fun x hx => hx) t tg k5)
            (fun s H Ca cl fp => (mA ifs (good_blk g (blkOk_by k2).kind s H Ca cl fp) ifs' k7).ts) (fun s H Ca cl fp => (mE elt (good_blk g (blkOk_by k2).kind s H Ca cl fp) _ k6).1) (chI_fold k1 _) (sw_true g.kd hloc h5.1 h5.2)
  | .asg (.tup ts) e, X, C, g, hf, tk, st, h => by
    obtain ⟨tg, v, q, rfl, ⟨⟨h1, h2⟩, h3⟩, h4⟩ := iw_asgt h
    exact sAsgTS g hf h1 (mE e g v h2).1 (no_sw h3 _ _ _) (no_st2 (by rw [g.sc]; exact h4))
  | .par i j a b, X, C, g, hf, tk, st, h => by
    obtain ⟨x, y, px, py, kt, pt, a', b', k2, pt2, q, rfl, ⟨⟨⟨⟨⟨⟨h1, h2⟩, h3⟩, h4⟩, h5⟩, h6⟩, h7⟩, h8⟩ := iw_par h
    have hx : X.env.scope.names.lookup x = some .local := by rw [g.sc]; exact ls_loc h4
    have hy : X.env.scope.names.lookup y = some .local := by rw [g.sc]; exact ls_loc h5
    have ka := chE_ok a a' h6
    have kb := chE_ok b b' h7
    exact sParS g h1 h2 h3 hx hy (mE a g a' h6).1 (mE b g b' h7).1 ka kb (par_st g.kd hx hy ka kb h8)
  | .par3 i j l a b c, X, C, g, hf, tk, st, h => by
    obtain ⟨x, y, z, px, py, pz, kt, pt, a', b', c', k2, pt2, q, rfl, ⟨⟨⟨⟨⟨⟨⟨⟨⟨⟨⟨h1, h2⟩, h3⟩, h4⟩, h5⟩, h6⟩, h7⟩, h8⟩, h9⟩, i1⟩, i2⟩, i3⟩, i4⟩ := iw_par3 h
    have hx : X.env.scope.names.lookup x = some .local := by rw [g.sc]; exact ls_loc h7
    have hy : X.env.scope.names.lookup y = some .local := by rw [g.sc]; exact ls_loc h8
    have hz : X.env.scope.names.lookup z = some .local := by rw [g.sc]; exact ls_loc h9
    have ka := chE_ok a a' i1
    have kb := chE_ok b b' i2
    have kc := chE_ok c c' i3
    exact sPar3S g h1 h2 h3 h4 h5 h6 hx hy hz (mE a g a' i1).1 (mE b g b' i2).1 (mE c g c' i3).1 ka kb kc (par3_st g.kd hx hy hz ka kb kc i4)
  | .ex e, X, C, g, hf, tk, st, h => by
    obtain ⟨v, q, rfl, h1, h2⟩ := iw_ex h
    exact sExS (mE e g v h1).1 (no_sw h2 _ _ _)
  | .app i e, X, C, g, hf, tk, st, h => by
    obtain ⟨x, p, nm, ap, v, cp, q, rfl, ⟨⟨⟨⟨h1, h2⟩, h3⟩, rfl⟩, h4⟩, h5⟩ := iw_app h
    exact sAppS g h1 h2 h3 (mE e g v h5).1 (chE_ok e v h5) h4 (by rfl)
  | .seti i k e, X, C, g, hf, tk, st, h => by
    obtain ⟨x, p, k', sp, v, q, rfl, ⟨⟨⟨⟨h1, h2⟩, h3⟩, h4⟩, h5⟩, h6⟩ := iw_seti h
    have kk := chE_ok k k' h4
    exact sSetiS g h1 h2 h3 (mE e g v h5).1 (mE k g k' h4).1 (by show swapsWith v (some (.Subscript (.Name x p) k' sp)) q.line X.env = pure false; exact no_sw h6 _ _ _) (by cases v <;> rfl) (by cases k' <;> first | (intro _; rfl) | (cases kk; done))
  | .ext i e, X, C, g, hf, tk, st, h => by
    obtain ⟨x, p, nm, ap, v, cp, q, rfl, ⟨⟨⟨⟨h1, h2⟩, h3⟩, rfl⟩, h4⟩, h5⟩ := iw_ext h
    exact sExtS g h1 h2 h3 (mE e g v h5).1 (chE_ok e v h5) h4 (by rfl)
  | .ret e, X, C, g, hf, tk, st, h => by
    obtain ⟨v, q, rfl, h1⟩ := iw_ret h
    exact sRetS (mE e g v h1).1
  | .retN, X, C, g, hf, tk, st, h => by
    obtain ⟨q, rfl⟩ := iw_retN h
    exact sRetNS
  | .ife c a b, X, C, g, hf, tk, st, h => by
    obtain ⟨c', a', b', q, rfl, ⟨h1, h2⟩, h3⟩ := iw_ife h
    exact sIfS (mE c g c' h1).2 (mB a g hf tk a' h2) (mB b g hf tk b' h3)
  | .for t it b, X, C, g, hf, tk, st, h => by
    obtain ⟨tg, iter, body, q, rfl, ⟨⟨h1, h2⟩, h3⟩, h4⟩ := iw_for h
    have ht : (∃ es k p, tg = .Tuple es k p) ∨ tupIt it = false := by
      cases t with
      | tup ts => exact .inl (tg_tup h2)
      | nm i => exact .inr (by simpa [okIt] using h3)
    exact sForS g (mI it g iter h1 tg ht) (sTg g (fun x _ => hf x) t tg h2) (mB b g hf tk body h4) (chI_fold h1 _)
  | .whil c b, X, C, g, hf, tk, st, h => by
    obtain ⟨c', b', q, rfl, h1, h2⟩ := iw_whil h
    exact sWhileS g (mE c g c' h1).2 (mB b g hf tk b' h2)
  | .pass, X, C, g, hf, tk, st, h => by
    rcases iw_pass h with ⟨q, rfl⟩ | ⟨x, j, p, q, rfl⟩
    · exact sPassS
    · exact sDocS
  | .brk, X, C, g, hf, tk, st, h => by
    obtain ⟨q, rfl⟩ := iw_brk h
    exact sBrkS
  | .ct, X, C, g, hf, tk, st, h => by
    obtain ⟨q, rfl⟩ := iw_ct h
    exact sCtS
  | .never, X, C, g, hf, tk, st, _ => sNeverS
  | .rs c, X, C, g, hf, tk, st, h => by
    obtain ⟨x, p, m, k, p2, q, r, rfl, ⟨h1, h2⟩, h3⟩ := iw_rs h
    exact sRsS g h1 h2 h3
  | .tr b x ys ks (.keep i j), X, C, g, hf, tk, st, h => by
    obtain ⟨body, y, p, n, m, mp, n2, np2, ap, q, r, rfl, ⟨⟨⟨⟨⟨⟨⟨⟨⟨⟨h1, h2⟩, rfl⟩, h3⟩, h4⟩, h5⟩, h6⟩, rfl⟩, h7⟩, h8⟩, h9⟩, h10⟩ := iw_keep h
    exact sKeepS g tk (fun W' pn xe t po => mB b (good_tr g t po) hf (tk.tr pn xe) body h1) h2 h3 h4 h5 h6 (ls_loc h7) (ls_loc h8) h9 h10
  | .tr b x ys ks (.ret d), X, C, g, hf, tk, st, h => by
    obtain ⟨body, y, p, k, k2, p2, p3, q, r, rfl, ⟨⟨⟨⟨h1, h2⟩, rfl⟩, h3⟩, h4⟩, h5⟩ := iw_tret h
    exact sTretS g tk (fun W' pn xe t po => mB b (good_tr g t po) hf (tk.tr pn xe) body h1) h2 h3 h4 h5
  | .tr b x ys ks (.set j d), X, C, g, hf, tk, st, h => by
    obtain ⟨body, y, p, m, mp, k, k2, p2, p3, q, r, rfl, ⟨⟨⟨⟨⟨⟨h1, h2⟩, rfl⟩, h3⟩, h4⟩, h5⟩, h6⟩, h7⟩ := iw_tset h
    exact sTsetS g tk (fun W' pn xe t po => mB b (good_tr g t po) hf (tk.tr pn xe) body h1) h2 h3 h4 h5 (ls_loc h6) h7
theorem mB : ∀ (m : B) {X : Cx} {C : Ctx} (g : Good X C sc tb N Φ cs) (hf : ∀ x, X.fn x = true) (ht : TryOk X) (sts : List Stmt), chB tb N sc m sts = true → PSs X sts (tS C (evB Φ cs W m))
  | .nil, X, C, g, hf, tk, [], _ => sNilB
  | .nil, X, C, g, hf, tk, _ :: _, h => by simp [chB] at h
  | .cons _ _, X, C, g, hf, tk, [], h => by simp [chB] at h
  | .cons s r, X, C, g, hf, tk, st :: rest, h => by
    have h' : chS tb N sc s st = true ∧ chB tb N sc r rest = true := by simpa [chB] using h
    exact sConsB (mS s g hf tk st h'.1) (mB r g hf tk rest h'.2)
end
end
end Sm

set_option maxRecDepth 100000
set_option maxHeartbeats 4000000
namespace Sm
open PySem L2 PySem.Spec PyProof.Rows PySem.W
/-! ### a def by the small machine -/
def insOf : List Arg → List Addr → Nat → List (Nat × Addr)
  | [], _, _ => []
  | .d _ :: r, ps, k => insOf r ps (k + 1)
  | .bor _ :: r, p :: ps, k => (k, p) :: insOf r ps (k + 1)
  | .bor _ :: _, [], _ => []
section
variable {K : PySem.W.Frag} {F H : Hp}
theorem ArgsR.len : ∀ {vs : List V} {as : List Arg} {ps : List Addr}, ArgsR K F H vs as ps → vs.length = as.length
  | [], [], [], _ => rfl
  | _ :: vs, .d x :: as, ps, ⟨_, h⟩ => by simp only [List.length_cons, ArgsR.len h]
  | _ :: vs, .bor x :: as, p :: ps, ⟨_, _, _, h⟩ => by simp only [List.length_cons, ArgsR.len h]
  | [], [], _ :: _, h => h.elim
  | [], _ :: _, _, h => by simp [ArgsR] at h
  | _ :: _, [], _, h => by simp [ArgsR] at h
  | _ :: _, .bor _ :: _, [], h => h.elim
theorem args_d : ∀ {vs : List V} {as : List Arg} {ps : List Addr} {i : Nat} {x : PyData}, ArgsR K F H vs as ps → as[i]? = some (.d x) → ∃ v, vs[i]? = some v ∧ RD K F v x
  | [], [], [], i, x, _, e => by simp at e
  | v :: vs, .d y :: as, ps, 0, x, ⟨h, _⟩, e => by
    simp only [List.getElem?_cons_zero, Option.some.injEq, Arg.d.injEq] at e
    subst e
    exact ⟨v, rfl, h⟩
  | v :: vs, .d y :: as, ps, i + 1, x, ⟨_, h⟩, e => by
    obtain ⟨w, h1, h2⟩ := args_d h (by simpa using e)
    exact ⟨w, by simpa using h1, h2⟩
  | v :: vs, .bor y :: as, p :: ps, 0, x, _, e => by simp at e
  | v :: vs, .bor y :: as, p :: ps, i + 1, x, ⟨_, _, _, h⟩, e => by
    obtain ⟨w, h1, h2⟩ := args_d h (by simpa using e)
    exact ⟨w, by simpa using h1, h2⟩
  | [], [], _ :: _, _, _, h, _ => h.elim
  | [], _ :: _, _, _, _, h, _ => by simp [ArgsR] at h
  | _ :: _, [], _, _, _, h, _ => by simp [ArgsR] at h
  | _ :: _, .bor _ :: _, [], _, _, h, _ => h.elim
theorem args_b : ∀ {vs : List V} {as : List Arg} {ps : List Addr} {i k : Nat} {x : PyData}, ArgsR K F H vs as ps → as[i]? = some (.bor x) → ∃ p ∈ ps, vs[i]? = some (.ref p) ∧ F p = none ∧ Own K F H p x ∧ (k + i, p) ∈ insOf as ps k
  | [], [], [], i, _, x, _, e => by simp at e
  | v :: vs, .d y :: as, ps, 0, _, x, _, e => by simp at e
  | v :: vs, .d y :: as, ps, i + 1, k, x, ⟨_, h⟩, e => by
    obtain ⟨p, m, h1, h2, h3, h4⟩ := args_b (k := k + 1) h (by simpa using e)
    exact ⟨p, m, by simpa using h1, h2, h3, by rw [show k + (i + 1) = k + 1 + i by omega]; exact h4⟩
  | v :: vs, .bor y :: as, p :: ps, 0, k, x, ⟨h1, h2, h3, _⟩, e => by
    simp only [List.getElem?_cons_zero, Option.some.injEq, Arg.bor.injEq] at e
    subst e
    exact ⟨p, List.mem_cons_self, by rw [h1]; rfl, h2, h3, List.mem_cons_self⟩
  | v :: vs, .bor y :: as, p :: ps, i + 1, k, x, ⟨_, _, _, h⟩, e => by
    obtain ⟨q, m, h1, h2, h3, h4⟩ := args_b (k := k + 1) h (by simpa using e)
    refine ⟨q, List.mem_cons_of_mem _ m, by simpa using h1, h2, h3, ?_⟩
    rw [show k + (i + 1) = k + 1 + i by omega]
    exact List.mem_cons_of_mem _ h4
  | [], [], _ :: _, _, _, _, h, _ => h.elim
  | [], _ :: _, _, _, _, _, h, _ => by simp [ArgsR] at h
  | _ :: _, [], _, _, _, _, h, _ => by simp [ArgsR] at h
  | _ :: _, .bor _ :: _, [], _, _, _, h, _ => h.elim
theorem args_ins : ∀ {vs : List V} {as : List Arg} {ps : List Addr} {k : Nat} {q : Nat × Addr}, ArgsR K F H vs as ps → q ∈ insOf as ps k → ∃ i x, q.1 = k + i ∧ as[i]? = some (.bor x) ∧ vs[i]? = some (.ref q.2)
  | [], [], [], _, _, _, e => by simp [insOf] at e
  | v :: vs, .d y :: as, ps, k, q, ⟨_, h⟩, e => by
    obtain ⟨i, x, h1, h2, h3⟩ := args_ins h e
    exact ⟨i + 1, x, by omega, by simpa using h2, by simpa using h3⟩
  | v :: vs, .bor y :: as, p :: ps, k, q, ⟨h1, _, _, h⟩, e => by
    rcases List.mem_cons.mp e with e | e
    · subst e
      exact ⟨0, y, rfl, rfl, by rw [h1]; rfl⟩
    · obtain ⟨i, x, h1, h2, h3⟩ := args_ins h e
      exact ⟨i + 1, x, by omega, by simpa using h2, by simpa using h3⟩
  | [], [], _ :: _, _, _, h, _ => h.elim
  | [], _ :: _, _, _, _, h, _ => by simp [ArgsR] at h
  | _ :: _, [], _, _, _, h, _ => by simp [ArgsR] at h
  | _ :: _, .bor _ :: _, [], _, _, h, _ => h.elim
theorem args_sep : ∀ {vs : List V} {as : List Arg} {ps : List Addr} {i j : Nat} {x y : PyData}, ArgsR K F H vs as ps → ps.Nodup → i < j → as[i]? = some (.bor x) → as[j]? = some (.bor y) → vs[i]? ≠ vs[j]?
  | [], [], [], i, j, _, _, _, _, _, e, _ => by simp at e
  | v :: vs, .d z :: as, ps, 0, j, x, y, _, _, _, e, _ => by simp at e
  | v :: vs, .d z :: as, ps, i + 1, 0, x, y, _, _, hlt, _, _ => by omega
  | v :: vs, .d z :: as, ps, i + 1, j + 1, x, y, ⟨_, h⟩, nd, hlt, e1, e2 => by
    have := args_sep h nd (by omega : i < j) (by simpa using e1) (by simpa using e2)
    simpa using this
  | v :: vs, .bor z :: as, p :: ps, 0, 0, x, y, _, _, hlt, _, _ => by omega
  | v :: vs, .bor z :: as, p :: ps, 0, j + 1, x, y, ⟨h1, _, _, h⟩, nd, hlt, e1, e2 => by
    obtain ⟨q, m, k1, _⟩ := args_b (k := 0) h (i := j) (x := y) (by simpa using e2)
    obtain ⟨n1, _⟩ := List.nodup_cons.mp nd
    intro z
    simp only [List.getElem?_cons_zero, List.getElem?_cons_succ] at z
    rw [k1, h1] at z
    cases z
    exact n1 m
  | v :: vs, .bor z :: as, p :: ps, i + 1, 0, x, y, _, _, hlt, _, _ => by omega
  | v :: vs, .bor z :: as, p :: ps, i + 1, j + 1, x, y, ⟨_, _, _, h⟩, nd, hlt, e1, e2 => by
    have := args_sep h (List.nodup_cons.mp nd).2 (by omega : i < j) (by simpa using e1) (by simpa using e2)
    simpa using this
  | [], [], _ :: _, _, _, _, _, h, _, _, _, _ => h.elim
  | [], _ :: _, _, _, _, _, _, h, _, _, _, _ => by simp [ArgsR] at h
  | _ :: _, [], _, _, _, _, _, h, _, _, _, _ => by simp [ArgsR] at h
  | _ :: _, .bor _ :: _, [], _, _, _, _, h, _, _, _, _ => h.elim
theorem entry_at {n : Nat} {as : List Arg} {i : Nat} {sv : SV} (h : At (entry n as) i sv) : ∃ a, as[i]? = some a ∧ slotOf a = some sv := by
  have h : (as.map slotOf ++ List.replicate (n - as.length) none)[i]? = some (some sv) := h
  by_cases hi : i < as.length
  · rw [List.getElem?_append_left (by rw [List.length_map]; exact hi), List.getElem?_map] at h
    rw [List.getElem?_eq_getElem hi] at h ⊢
    exact ⟨_, rfl, by simpa using h⟩
  · rw [List.getElem?_append_right (by rw [List.length_map]; omega)] at h
    have := List.mem_of_getElem? h
    have := List.eq_of_mem_replicate this
    cases this
theorem start_at {N : List Str} {vs : List V} {i : Nat} {v : V} (h : vs[i]? = some v) : Sl (start N vs) i v := by
  have hi : i < vs.length := (List.getElem?_eq_some_iff.mp h).1
  show (vs.map some ++ List.replicate (N.length - vs.length) none)[i]? = some (some v)
  rw [List.getElem?_append_left (by rw [List.length_map]; exact hi), List.getElem?_map, h]
  rfl
theorem rel_entry {N : List Str} {vs : List V} {as : List Arg} {ps : List Addr} (fh : Ex F H) (h : ArgsR K F H vs as ps) (nd : ps.Nodup) (hl : as.length ≤ N.length) : Rel K ⟨F, H, insOf as ps 0⟩ F (entry N.length as) (start N vs) H where
  fh := fh
  f0 := .refl F
  keep := fun _ _ h _ => h
  new := fun _ h => .inl h
  len := by
    show (as.map slotOf ++ List.replicate (N.length - as.length) none).length = (vs.map some ++ List.replicate (N.length - vs.length) none).length
    rw [List.length_append, List.length_append, List.length_map, List.length_map, List.length_replicate, List.length_replicate, h.len]
  slot := fun i sv hat => by
    obtain ⟨a, h1, h2⟩ := entry_at hat
    cases a with
    | d x =>
      cases h2
      obtain ⟨v, k1, k2⟩ := args_d h h1
      exact ⟨v, start_at k1, k2⟩
    | bor x =>
      cases h2
      obtain ⟨p, _, k1, k2, k3, k4⟩ := args_b (k := 0) h h1
      exact ⟨.ref p, start_at k1, p, rfl, k2, k3, fun _ => by rw [Nat.zero_add] at k4; exact k4, fun z => by cases z⟩
  sep := fun i j x b y c n h1 h2 => by
    obtain ⟨a1, k1, e1⟩ := entry_at h1
    obtain ⟨a2, k2, e2⟩ := entry_at h2
    cases a1 <;> cases e1
    cases a2 <;> cases e2
    obtain ⟨p, _, q1, _⟩ := args_b (k := 0) h k1
    obtain ⟨p', _, q2, _⟩ := args_b (k := 0) h k2
    rw [show (start N vs)[i]? = _ from start_at q1, show (start N vs)[j]? = _ from start_at q2]
    intro z
    have z : vs[i]? = vs[j]? := by rw [q1, q2]; cases z; rfl
    rcases Nat.lt_or_gt_of_ne n with n | n
    · exact args_sep h nd n k1 k2 z
    · exact args_sep h nd n k2 k1 z.symm
  arg := fun q hq => by
    obtain ⟨i, x, e1, k1, k2⟩ := args_ins h hq
    rw [Nat.zero_add] at e1
    refine ⟨x, ?_, by rw [e1]; exact start_at k2⟩
    rw [e1]
    have hi : i < as.length := (List.getElem?_eq_some_iff.mp k1).1
    show (as.map slotOf ++ List.replicate (N.length - as.length) none)[i]? = some (some _)
    rw [List.getElem?_append_left (by rw [List.length_map]; exact hi), List.getElem?_map, k1]
    rfl
theorem outs_end {G : Gh} {F' H' : Hp} {e' : Sm.Env} {σ' : L2.St} (rel : Rel K G F' e' σ' H') : ∀ {vs : List V} {as : List Arg} {ps : List Addr} {k : Nat} {outs : List PyData}, ArgsR K F H vs as ps → (∀ q ∈ insOf as ps k, q ∈ G.ins) → outsAt e' as k = some outs → OutsR K F' H' ps outs
  | [], [], [], _, outs, _, _, e => by cases e; trivial
  | v :: vs, .d y :: as, ps, k, outs, ⟨_, h⟩, hi, e => outs_end rel h hi e
  | v :: vs, .bor y :: as, p :: ps, k, outs, ⟨_, _, _, h⟩, hi, e => by
    have e : (match e'[k]? with | some (some (SV.own x true)) => (outsAt e' as (k + 1)).map (x :: ·) | _ => none) = some outs := e
    split at e
    · rename_i x hx
      obtain ⟨os, e1, rfl⟩ := Option.map_eq_some_iff.mp e
      refine ⟨?_, outs_end rel h (fun q m => hi q (List.mem_cons_of_mem _ m)) e1⟩
      obtain ⟨a, g1, _, g3, _⟩ := rel.ownAt hx
      obtain ⟨z, k1, k2⟩ := rel.arg (k, p) (hi _ List.mem_cons_self)
      have : some (some (V.ref a)) = some (some (V.ref p)) := g1.symm.trans k2
      cases this
      exact g3
    · cases e
  | [], [], _ :: _, _, _, h, _, _ => h.elim
  | [], _ :: _, _, _, _, h, _, _ => by simp [ArgsR] at h
  | _ :: _, [], _, _, _, h, _, _ => by simp [ArgsR] at h
  | _ :: _, .bor _ :: _, [], _, _, h, _, _ => h.elim
theorem ins_mem : ∀ {vs : List V} {as : List Arg} {ps : List Addr} {k : Nat} {p : Addr}, ArgsR K F H vs as ps → (∃ i, (i, p) ∈ insOf as ps k) → p ∈ ps
  | [], [], [], _, _, _, ⟨_, e⟩ => by simp [insOf] at e
  | v :: vs, .d y :: as, ps, k, p, ⟨_, h⟩, e => ins_mem (k := k + 1) h e
  | v :: vs, .bor y :: as, q :: ps, k, p, ⟨_, _, _, h⟩, ⟨i, e⟩ => by
    rcases List.mem_cons.mp e with e | e
    · cases e; exact List.mem_cons_self
    · exact List.mem_cons_of_mem _ (ins_mem h ⟨i, e⟩)
  | [], [], _ :: _, _, _, h, _ => h.elim
  | [], _ :: _, _, _, _, h, _ => by simp [ArgsR] at h
  | _ :: _, [], _, _, _, h, _ => by simp [ArgsR] at h
  | _ :: _, .bor _ :: _, [], _, _, h, _ => h.elim
/-- behind a body: what the caller sees -/
theorem call_step {vs : List V} {as : List Arg} {ps : List Addr} {F' H' : Hp} {e' : Sm.Env} {σ' : L2.St} (h : ArgsR K F H vs as ps) (rel : Rel K ⟨F, H, insOf as ps 0⟩ F' e' σ' H') : CallStep F H F' H' ps where
  f := rel.f0
  fh := rel.fh
  keep := fun b o e n => rel.keep b o e fun p hp q => n (by rw [← q]; exact ins_mem h ⟨p.1, hp⟩)
  new := rel.new
  there := fun b o e => by
    cases q : H' b with
    | some u => exact ⟨u, rfl⟩
    | none => rw [show H b = none from rel.h0 q] at e; cases e
end
/-- what a module has: built-ins that are not hidden, constants, defs -/
structure Mods (P : Program) (w : World) (K : PySem.W.Frag) (mg : Str → Option Value) (base : Heap) (tb : Tab) (Φ : Nat → Spec) (cs : Nat → PyData) (cl : Nat → Value) (k : Nat) : Prop where
  bi : ∀ x ∈ bnames, mg x = none
  cn : ∀ k x, tb.cn k = x → x ≠ "" → ∃ v u, mg x = some u ∧ RelV v u ∧ ∀ F, RD K F v (cs k)
  cd : ∀ k x, tb.dn k = x → x ≠ "" → KdOk K w mg x (cs k)
  rp : tb.rp = false
  xs : ∀ (c : Nat) (x : Str), tb.xi.xs[c]? = some x → OwnX K mg x (cl c)
  ec : ∀ p ∈ tb.xi.ec, EcOk K mg p
  fns : ∀ (f : Nat) (x : Str), tb.fn f = x → x ≠ "" → ∃ (fa : Addr) (fd : FuncData) (ps : List Str) (dvs : List V) (ds : List Value) (sp : Sp),
    FnOk P w K mg base (L2.CX P w) k fa fd ps sp ∧ mg x = some (.ref fa) ∧ PySem.W.keepIn K (.ref fa) = true ∧ Binds K fd ps ds ∧ Vals dvs ds ∧ ∀ vs H Q E, spOf K cl (Φ f) vs H Q E → sp (vs ++ dvs) H Q E
section
variable {P : Program} {w : World} {K : PySem.W.Frag} {mg : Str → Option Value} {base : Heap} {tb : Tab} {Φ : Nat → Spec} {cs : Nat → PyData} {cl : Nat → Value} {k : Nat} {W : Nat}
theorem good_def (M : Mods P w K mg base tb Φ cs cl k) {N ps : List Str} {qual : Str} {scope : Scope} (S : FnScope N ps scope) {f : Addr} {cd : Value} {A : Around} {outer : List PySem.Env} {s : Shared} {H : Hp} {E : XK} {G : Gh} (hr : Room k (A.deeper (envOfC qual scope s.heap.objs.size f cd))) :
    Good (cxOf (L2.CX P w) P w K mg base N qual scope f cd A outer s H E) ⟨K, G, fun cls d _ H => E cls d H, cl⟩ scope tb N Φ cs where
  sc := rfl
  kd := S.kind
  k := rfl
  n := rfl
  nd := S.nd
  calm := rfl
  un := by have := hr.un; show (A.deeper _).units + 65 < _; omega
  bi := M.bi
  cn := M.cn
  cd := M.cd
  rp := fun h => by rw [M.rp] at h; cases h
  po := passes_of rfl
  tk := takes_of rfl rfl rfl rfl
  xs := M.xs
  ec := M.ec
  fns := fun i x e n => by
    obtain ⟨fa, fd, ps, dvs, ds, sp, h1, h2, h3, h4, h5, h6⟩ := M.fns i x e n
    exact ⟨k, fa, fd, ps, dvs, ds, sp, h1, hr, h2, h3, h4, h5, h6⟩
/-- what is wanted of an end -/
def RetOk (K : PySem.W.Frag) (cl : Nat → Value) (F H : Hp) (qs : List Addr) (outs : List PyData) (Q : VK) (E : XK) : Out R → Prop
  | .ok r => ∀ v F' H', CallStep F H F' H' qs → OutsR K F' H' qs outs → RC K H F' H' v r → Q v H'
  | .rs c => ∀ F' H', CallStep F H F' H' qs → OutsR K F' H' qs outs → E (cl c) none H'
/-- a body that fits gives what the def's machine gives, whatever is around -/
theorem reads_of {N : List Str} {np : Nat} (hnp : np ≤ N.length) {vs : List V} {H : Hp} {Q : VK} {E : XK} {m : B} {F : Hp} {as : List Arg} {qs : List Addr} {o : Out R} {outs : List PyData}
    (fh : Ex F H) (hA : ArgsR K F H vs as qs) (nd : qs.Nodup) (hlen : as.length = np)
    (e : (match evB Φ cs W m (entry N.length as) with
      | none => none
      | some (.rs c, e) => (outsAt e as 0).map fun os => (.rs c, os)
      | some (.ok .nx, e) => (outsAt e as 0).map fun os => (.ok (.d .none), os)
      | some (.ok (.rt r), e) => (r.out e).bind fun r' => (outsAt e as 0).map fun os => (.ok r', os)
      | _ => none) = some (o, outs))
    (q : RetOk K cl F H qs outs Q E o) :
    tS ⟨K, ⟨F, H, insOf as qs 0⟩, fun cls d _ H => E cls d H, cl⟩ (evB Φ cs W m) { nx := fun _ H' => Q .non H', rt := Q } (start N vs) H := by
  have rel := rel_entry (N := N) fh hA nd (by rw [hlen]; exact hnp)
  cases hb : evB Φ cs W m (entry N.length as) with
  | none => rw [hb] at e; cases e
  | some z =>
    obtain ⟨o1, e'⟩ := z
    rw [hb] at e
    refine ⟨F, _, rel, o1, e', hb, ?_⟩
    cases o1 with
    | rs c =>
      obtain ⟨os, h1, h2⟩ := Option.map_eq_some_iff.mp e
      cases h2
      exact fun σ' F' H' r _ => q F' H' (call_step hA r) (outs_end (G := ⟨F, H, insOf as qs 0⟩) r hA (fun _ m => m) h1)
    | ok fl =>
      cases fl with
      | nx =>
        obtain ⟨os, h1, h2⟩ := Option.map_eq_some_iff.mp e
        cases h2
        exact fun σ' F' H' r _ => q .non F' H' (call_step hA r) (outs_end (G := ⟨F, H, insOf as qs 0⟩) r hA (fun _ m => m) h1) rfl
      | bk => cases e
      | ct => cases e
      | rt r0 =>
        obtain ⟨r1, h1, h2⟩ := Option.bind_eq_some_iff.mp e
        obtain ⟨os, h3, h4⟩ := Option.map_eq_some_iff.mp h2
        cases h4
        intro v σ' F' H' r _ hv
        refine q v F' H' (call_step hA r) (outs_end (G := ⟨F, H, insOf as qs 0⟩) r hA (fun _ m => m) h3) ?_
        cases r0 with
        | d x => cases h1; exact hv
        | new x =>
          cases h1
          obtain ⟨p, rfl, g1, g2, g3, _⟩ := hv
          exact ⟨p, rfl, g1, g2, g3⟩
        | exc c => exact hv.elim
        | al i =>
          have h1 : (match e'[i]? with | some (some (SV.own x false)) => some (R.new x) | _ => none) = some r1 := h1
          split at h1
          · rename_i x hx
            cases h1
            obtain ⟨a, g1, g2, g3, _, g5⟩ := r.ownAt hx
            have : some (some v) = some (some (V.ref a)) := (show σ'[i]? = _ from hv.1).symm.trans g1
            cases this
            exact ⟨a, rfl, g5 rfl, g2, g3⟩
          · cases h1

/-- THE RULE: a def whose body fits -/
theorem def_ok {f : Addr} {name qual : Str} {params : Arguments} {body : List Stmt} {scope : Scope} {dV kV doc pm cdv ct oc : Value} {an od : Option Addr} {osl : Array (Option Value)} {N ps : List Str}
    (lk : K.lookup f = some ⟨oc, od, .func (PySem.W.fnOf name qual params body scope dV kV doc pm an cdv ct), osl⟩) (hcd : PySem.W.codeIn K cdv qual = true) (S : FnScope N ps scope) (hl : ps.length ≤ N.length)
    (M : Mods P w K mg base tb Φ cs cl k) {m : B} (h : chB tb N scope m body = true) :
    FnOk P w K mg base (L2.CX P w) (k + 1) f (PySem.W.fnOf name qual params body scope dV kV doc pm an cdv ct) ps (spOf K cl (runFn ps.length N.length (evB Φ cs W m))) := by
  refine fn_of lk hcd S (fun vs H Q E ⟨F, as, qs, o, outs, _, hA, _, e, _⟩ => ?_) fun A outer s H vs Q E hr ⟨F, as, qs, o, outs, fh, hA, nd, e, q⟩ => ?_
  · unfold runFn at e
    split at e
    · rename_i hlen; rw [hA.len, hlen]
    · cases e
  have hlen : as.length = ps.length := by
    unfold runFn at e
    split at e
    · assumption
    · cases e
  unfold runFn at e
  rw [if_pos hlen] at e
  exact ⟨_, mB (C := ⟨K, ⟨F, H, insOf as qs 0⟩, fun cls d _ H => E cls d H, cl⟩) (W := W) m (good_def M S hr) (fun _ => rfl) ⟨rfl, rfl, rfl⟩ body h, reads_of hl fh hA nd hlen e q⟩
end
end Sm

set_option maxRecDepth 100000
set_option maxHeartbeats 4000000
namespace Sm
open PySem L2 PySem.Spec PyProof.Rows
/-! ### the law's own def: it is called by the claim alone, so nothing is being written out around it -/
abbrev EndsTrue (s₁ : Shared) (r : Result) (s' : Shared) : Prop := r = .ok (.ret (.bool true)) ∧ OldK s₁.heap s'.heap ∧ s'.os = s₁.os ∧ AllBare s'.gens
/-- what the law's body has to be shown of -/
def BodyOk (P : Program) (w : World) (K : PySem.W.Frag) (mg : Str → Option Value) (N : List Str) (qual : Str) (body : List Stmt) (scope : Scope) (fa : Addr) (cdv : Value) (sp : Sp) : Prop :=
  ∀ (base : Heap) (s : Shared) (H : Hp) (vs : List V) (Q : VK) (E : XK), K.In base → sp vs H Q E →
    ∃ t, PSs (cxOf (L2.CX P w) P w K mg base N qual scope fa cdv callerA [] s H E) body t ∧ t { nx := fun _ H' => Q .non H', rt := Q } (start N vs) H
section
variable {P : Program} {w : World} {K : PySem.W.Frag} {mg mb : Str → Option Value} {fa a : Addr} {qual : Str} {params : Arguments} {body : List Stmt} {scope : Scope} {N : List Str} {x : Str} {sp : Sp} {kV doc pm cdv ct oc : Value} {an od : Option Addr} {osl : Array (Option Value)}
/-- the call of it, from an abstract heap -/
theorem callG {s₁ : Shared} {H : Hp} {base : Heap} (lk : K.lookup fa = some ⟨oc, od, .func (PySem.W.fnOf qual qual params body scope .none kV doc pm an cdv ct), osl⟩) (hcd : PySem.W.codeIn K cdv qual = true) (S : FnScope N [x] scope)
    (hb : BodyOk P w K mg N qual body scope fa cdv sp) (e0 : Env0 P w K mg base callerA [] s₁ H) (hk0 : K.In base)
    (bnd : ∀ u : Value, bindArgs (PySem.W.fnOf qual qual params body scope .none kV doc pm an cdv ct) ⟨[u], []⟩ = pure [(x, u)])
    (hsp : sp [.ref a] H (fun v _ => v = .bl true) fun _ _ _ => False) :
    codeAny (model P w) callerA (.call (.ref fa) ⟨[.ref a], []⟩) (CR (L2.CX P w) [] P w H s₁ (fun v _ => v = .bl true) fun _ _ _ => False) s₁ := by
  have up : ∀ b o, base.get? b = some o → s₁.heap.get? b = some o := fun b o q => (e0.bs b o q).1
  have inS : K.In s₁.heap := e0.mod.kin.keeps up
  have noL : s₁.heap.NoLimit := e0.mod.nolimit.keeps up
  have kinds : ∀ y ∈ [(x, Value.ref a)], scope.names.lookup y.1 = some .local ∨ (scope.names.lookup y.1 = some .cell ∧ ((cellsFrom (s₁.heap.objs.size + 1) scope.names []).lookup y.1).isSome = true) := by
    intro y hy
    rw [List.mem_singleton] at hy
    subst hy
    rcases S.par x List.mem_cons_self with q | q
    · exact .inl q
    · exact .inr ⟨q, PySem.W.cellsFrom_some _ _ _ (.inl q)⟩
  refine codeAny_call_function (by decide) (inS _ _ lk) rfl S.co S.gen rfl (PySem.W.codeRec_of inS hcd) ?_
  rw [bnd]
  refine wpAny_pure (wpAny_newFunctionEnv_cells S.kind kinds fun en hen sE xE => ?_)
  subst hen
  refine ⟨noL.keeps xE.toInCall.keep, codeAny_func ?_⟩
  obtain ⟨t, ht, hq⟩ := hb base s₁ H [.ref a] _ _ hk0 hsp
  have J0 := inv_start (N := N) (E := fun _ _ _ => False) (CX := L2.CX P w) (f := fa) (cd := cdv) (qual := qual) (us := [.ref a]) (vs := [.ref a]) S rfl e0 rfl (.cons rfl .nil) xE
  refine wpAny_mono (ht.run [] sE (start N [.ref a]) H _ J0 hq) (fun fl s' hs => ?_) fun e s' hs => hs
  cases fl with
  | ret u => obtain ⟨v, _, H', J, rv, q⟩ := hs; exact ⟨v, H', J.os, J.bare, J.base, J.hok, rv, q⟩
  | next => obtain ⟨_, H', J, q⟩ := hs; exact ⟨.non, H', J.os, J.bare, J.base, J.hok, rfl, q⟩
  | brk => obtain ⟨_, _, _, q⟩ := hs; exact q.elim
  | cont => obtain ⟨_, _, _, q⟩ := hs; exact q.elim

/-- from a heap in which nothing but the script is tracked -/
theorem fromG {s₁ : Shared} {H : Hp} (lk : K.lookup fa = some ⟨oc, od, .func (PySem.W.fnOf qual qual params body scope .none kV doc pm an cdv ct), osl⟩) (hcd : PySem.W.codeIn K cdv qual = true) (S : FnScope N [x] scope)
    (hb : BodyOk P w K mg N qual body scope fa cdv sp)
    (bnd : ∀ u : Value, bindArgs (PySem.W.fnOf qual qual params body scope .none kV doc pm an cdv ct) ⟨[u], []⟩ = pure [(x, u)])
    (inK : K.In s₁.heap) (nG : s₁.heap.Ns mainGlobals mg) (nB : s₁.heap.Ns builtinsNs mb) (eB : ∀ z : Str, z ≠ "__name__" → mb z = bootBuiltins z) (noL : s₁.heap.NoLimit) (noG : s₁.gens = #[])
    (only : Only H) (hok : HOk P w H s₁.heap) (lst : ∀ b o, H b ≠ none → s₁.heap.get? b = some o → (∃ its n, o.data = .seq its n) ∧ K.lookup b = none)
    (hsp : sp [.ref a] H (fun v _ => v = .bl true) fun _ _ _ => False) :
    codeAny (model P w) callerA (.call (.ref fa) ⟨[.ref a], []⟩) (EndsTrue s₁) s₁ := by
  have notTracked : ∀ b o, s₁.heap.get? b = some o → (∀ its n, o.data ≠ .seq its n) → H b = none := by
    intro b o e n
    by_cases q : H b = none
    · exact q
    · obtain ⟨⟨its, m, z⟩, _⟩ := lst b o q e
      exact absurd z (n its m)
  have nsT : ∀ (b : Addr) (m : Str → Option Value), s₁.heap.Ns b m → (hidT s₁.heap H).Ns b m := by
    rintro b m ⟨o, es, ep, e, d, r⟩
    refine ⟨o, es, ep, hidT_get e (notTracked b o e fun its n z => ?_), d, r⟩
    rw [d] at z
    cases z
  have inT : K.In (hidT s₁.heap H) := by
    intro b o e
    have e1 := inK b o e
    by_cases q : H b = none
    · exact hidT_get e1 q
    · obtain ⟨_, z⟩ := lst b o q e1
      rw [z] at e
      cases e
  obtain ⟨mc, c1, c2⟩ := noL
  have e0 : Env0 P w K mg (hidT s₁.heap H) callerA [] s₁ H := {
    frames := rfl
    mod := { kin := inT, glob := nsT _ _ nG, blt := ⟨mb, nsT _ _ nB, eB⟩, nolimit := ⟨mc, nsT _ _ c1, c2⟩ }
    bs := fun b o e => of_hidT e
    bsz := by rw [hidT_size]; exact Nat.le_refl _
    funs := trivial
    frf := fun b hb => by cases hb
    hok := hok
    bare := .of_eq noG }
  refine codeAny_mono (callG lk hcd S hb e0 inT bnd hsp) fun r s' h => ?_
  match r, h with
  | .error e, ⟨_, _, _, _, _, _, _, _, _, _, _, _, z⟩ => exact z.elim
  | .ok .next, z => exact False.elim z
  | .ok .brk, z => exact False.elim z
  | .ok .cont, z => exact False.elim z
  | .ok (.ret u), ⟨v, H', os, bare, un, hok', rv, (qv : v = .bl true)⟩ =>
    subst qv
    have hu : u = Value.bool true := rv
    subst hu
    refine ⟨rfl, OldK.of_keep ?_, os, bare⟩
    intro b o e
    cases q : H b with
    | none => exact un.keep b o e q (fun z => by cases z) (by simp)
    | some t =>
      rcases only b with z | ⟨ob, xs, z⟩
      · rw [z] at q; cases q
      · have y1 := (hok b _ z).1
        have y2 := (hok' b _ (un.frzs b ob _ z)).1
        rw [y1] at e
        cases e
        exact y2
theorem lawG {s₁ : Shared} {vs : List Value} {ns : List Int} (lk : K.lookup fa = some ⟨oc, od, .func (PySem.W.fnOf qual qual params body scope .none kV doc pm an cdv ct), osl⟩) (hcd : PySem.W.codeIn K cdv qual = true) (S : FnScope N [x] scope)
    (hb : BodyOk P w K mg N qual body scope fa cdv sp)
    (bnd : ∀ u : Value, bindArgs (PySem.W.fnOf qual qual params body scope .none kV doc pm an cdv ct) ⟨[u], []⟩ = pure [(x, u)])
    (inK : K.In s₁.heap) (nG : s₁.heap.Ns mainGlobals mg) (nB : s₁.heap.Ns builtinsNs mb) (eB : ∀ z : Str, z ≠ "__name__" → mb z = bootBuiltins z) (noL : s₁.heap.NoLimit) (noG : s₁.gens = #[])
    (ha : s₁.heap.get? a = some { cls := .type "list", data := .seq vs.toArray }) (hi : IntsAre vs ns) (hl : ns.length ≤ sizeLine)
    (hsp : ∀ H : Hp, Only H → SqL K H a (ns.map V.int) → sp [.ref a] H (fun v _ => v = .bl true) fun _ _ _ => False) :
    codeAny (model P w) callerA (.call (.ref fa) ⟨[.ref a], []⟩) (EndsTrue s₁) s₁ := by
  have rints := vals_ints hi
  have vlen := hi.length
  cases hk : K.lookup a with
  | some o =>
    have e := inK a o hk
    rw [ha] at e
    cases e
    have only : Only fun _ => none := fun _ => .inl rfl
    refine fromG lk hcd S hb bnd inK nG nB eB noL noG only (fun b t z => by cases z) (fun b t z => absurd rfl z) (hsp _ only (.inr ⟨_, vs.toArray, _, hk, rfl, rfl, rfl, ?_, ?_⟩))
    · rw [List.size_toArray, vlen]; exact hl
    · simpa using rints
  | none =>
    let u : HO := .frz { cls := .type "list", data := .seq vs.toArray } (.lst (ns.map V.int))
    have at_ : ∀ b t, (if b = a then some u else none) = some t → b = a ∧ t = u := by
      intro b t z
      split at z
      · cases z; exact ⟨by assumption, rfl⟩
      · cases z
    have only : Only fun b => if b = a then some u else none := by
      intro b
      by_cases q : b = a
      · exact .inr ⟨_, _, if_pos q⟩
      · exact .inl (if_neg q)
    refine fromG lk hcd S hb bnd inK nG nB eB noL noG only (fun b t z => ?_) (fun b t z e => ?_) (hsp _ only (.inl (.inr ⟨_, if_pos rfl⟩)))
    · obtain ⟨rfl, rfl⟩ := at_ b t z
      exact ⟨ha, by rw [List.length_map]; exact hl, vs, _, rints, ha⟩
    · by_cases q : b = a
      · subst q
        rw [ha] at e
        cases e
        exact ⟨⟨_, _, rfl⟩, hk⟩
      · exact absurd (if_neg q) z
end
end Sm

set_option maxRecDepth 100000
set_option maxHeartbeats 4000000
namespace Sm
open PySem L2 PySem.Spec PyProof.Rows
/-! ### a module's defs, one behind another -/
structure DefI where
  d : He.DefD
  ps : List Str
  N : List Str
  m : B
def specsN (ds : List DefI) (cs : Nat → PyData) (W : Nat) : Nat → Nat → Spec
  | 0, _ => fun _ => none
  | n + 1, i => if i = n then (match ds[n]? with
    | some d => runFn d.ps.length d.N.length (evB (specsN ds cs W n) cs W d.m)
    | none => fun _ => none) else specsN ds cs W n i
/-- constants (numbers and texts), dicts with text keys -/
def tbN (ds : List DefI) (cn dn : Nat → Str) (xi : XI) (rp : Bool) (n : Nat) : Tab :=
  { fn := fun i => if i < n then (match ds[i]? with | some d => d.d.name | none => "") else "", cn := cn, dn := dn, rp := rp, xi := xi }
structure DefOk (d : DefI) : Prop where
  at_ : d.d.at_ = (d.d.name, none)
  sc : FnScope d.N d.ps d.d.scope
  le : d.ps.length ≤ d.N.length
  dfl : d.d.dfl = [] ∧ d.d.kwd = []
  bnd : ∀ (kV doc pm : Value) (an : Option Addr) (cdv ct : Value) (us : List Value), us.length = d.ps.length → bindArgs (PySem.W.fnOf d.d.name d.d.qual d.d.params d.d.body d.d.scope .none kV doc pm an cdv ct) ⟨us, []⟩ = pure (d.ps.zip us)
/-- the own exception classes' numbers -/
def clOf (K : PySem.W.Frag) (xi : XI) (c : Nat) : Value := match xi.xs[c]? with
  | some x => .ref (He.ga K x)
  | none => .none
/-- the facts of a module: K what is written, mg its names -/
structure ModF (P : Program) (w : World) (K : PySem.W.Frag) (mg : Str → Option Value) (ds : List DefI) (cn dn : Nat → Str) (xi : XI) (cs : Nat → PyData) : Prop where
  bi : ∀ x ∈ bnames, mg x = none
  cn : ∀ k x, cn k = x → x ≠ "" → ∃ v u, mg x = some u ∧ RelV v u ∧ ∀ F, RD K F v (cs k)
  cd : ∀ k x, dn k = x → x ≠ "" → KdOk K w mg x (cs k)
  fn : ∀ (i : Nat) (d : DefI), ds[i]? = some d → ∃ fd, FunD K d.d.name d.d.qual d.d.params d.d.body d.d.scope [] [] (He.ga K d.d.name) fd ∧ mg d.d.name = some (.ref (He.ga K d.d.name))
  xs : ∀ (c : Nat) (x : Str), xi.xs[c]? = some x → OwnX K mg x (clOf K xi c)
  ec : ∀ p ∈ xi.ec, EcOk K mg p
theorem specsN_lt {ds : List DefI} {cs : Nat → PyData} {W : Nat} : ∀ {n i : Nat}, i < n → specsN ds cs W n i = specsN ds cs W (i + 1) i
  | 0, _, h => by omega
  | n + 1, i, h => by
    by_cases q : i = n
    · subst q; rfl
    · show (if i = n then _ else specsN ds cs W n i) = _
      rw [if_neg q, specsN_lt (by omega)]
theorem mods_all {P : Program} {w : World} {K : PySem.W.Frag} {mg : Str → Option Value} {base : Heap} {ds : List DefI} {cn dn : Nat → Str} {xi : XI} {cs : Nat → PyData} {W : Nat}
    (MF : ModF P w K mg ds cn dn xi cs) (ok : ∀ (i : Nat) (d : DefI), ds[i]? = some d → DefOk d) (fit : ∀ (i : Nat) (d : DefI), ds[i]? = some d → chB (tbN ds cn dn xi false i) d.N d.d.scope d.m d.d.body = true) :
    ∀ n, n ≤ ds.length → Mods P w K mg base (tbN ds cn dn xi false n) (specsN ds cs W n) cs (clOf K xi) n
  | 0, _ => ⟨MF.bi, MF.cn, MF.cd, rfl, MF.xs, MF.ec, fun f x e n => absurd (by rw [← e]; rfl) n⟩
  | n + 1, hn => by
    have M := mods_all (base := base) (W := W) MF ok fit n (by omega)
    refine ⟨MF.bi, MF.cn, MF.cd, rfl, MF.xs, MF.ec, fun f x e hx => ?_⟩
    by_cases q : f = n
    · subst q
      obtain ⟨d, hd⟩ : ∃ d, ds[f]? = some d := ⟨ds[f], List.getElem?_eq_getElem (by omega)⟩
      have e : (if f < f + 1 then (match ds[f]? with | some d => d.d.name | none => "") else ("" : Str)) = x := e
      rw [if_pos (by omega), hd] at e
      have e : d.d.name = x := e
      subst e
      obtain ⟨fd, F, hm⟩ := MF.fn f d hd
      have D := ok f d hd
      have b := F.bindsN D.bnd
      have kp := F.kp
      obtain ⟨oc, od, dV, kV, doc, pm, an, cdv, ct, osl, rfl, lk, hcd, _, _⟩ := F.ex
      have G := def_ok (W := W) (base := base) lk hcd D.sc D.le M (fit f d hd)
      refine ⟨_, _, d.ps, [], [], _, G, hm, kp, b, .nil, fun vs H Q E h => ?_⟩
      rw [List.append_nil]
      have e2 : specsN ds cs W (f + 1) f = runFn d.ps.length d.N.length (evB (specsN ds cs W f) cs W d.m) := by
        show (if f = f then (match ds[f]? with | some d => runFn d.ps.length d.N.length (evB (specsN ds cs W f) cs W d.m) | none => fun _ => none) else _) = _
        rw [if_pos rfl, hd]
      rw [e2] at h
      exact h
    · have e : (if f < n + 1 then (match ds[f]? with | some d => d.d.name | none => "") else ("" : Str)) = x := e
      by_cases q2 : f < n
      · rw [if_pos (by omega)] at e
        obtain ⟨fa, fd, ps, dvs, dss, sp, h1, h2, h3, h4, h5, h6⟩ := M.fns f x (by show (if f < n then _ else _) = x; rw [if_pos q2]; exact e) hx
        refine ⟨fa, fd, ps, dvs, dss, sp, h1.mono (by omega), h2, h3, h4, h5, fun vs H Q E h => h6 vs H Q E ?_⟩
        have : specsN ds cs W (n + 1) f = specsN ds cs W n f := by
          show (if f = n then _ else _) = _
          rw [if_neg q]
        rw [this] at h
        exact h
      · rw [if_neg (by omega)] at e
        exact absurd e.symm hx
/-! ### the law's def -/
theorem law_body {P : Program} {w : World} {K : PySem.W.Frag} {mg : Str → Option Value} {ds : List DefI} {cn dn : Nat → Str} {xi : XI} {cs : Nat → PyData} {W : Nat}
    (MF : ModF P w K mg ds cn dn xi cs) (ok : ∀ (i : Nat) (d : DefI), ds[i]? = some d → DefOk d) (fit : ∀ (i : Nat) (d : DefI), ds[i]? = some d → chB (tbN ds cn dn xi false i) d.N d.d.scope d.m d.d.body = true)
    (hr : Room (ds.length + 1) callerA) {osm : Obj} (hsm : K.lookup sysModules = some osm) (hcls : osm.cls = .type "dict")
    {N : List Str} {qual x : Str} {body : List Stmt} {scope : Scope} {fa : Addr} {cdv : Value} {m : B} (S : FnScope N [x] scope) (hN : 1 ≤ N.length) (hfit : chB (tbN ds cn dn xi true ds.length) N scope m body = true) :
    BodyOk P w K mg N qual body scope fa cdv (spOf K (clOf K xi) (runFn 1 N.length (evB (specsN ds cs W ds.length) cs W m))) := by
  intro base s H vs Q E hb ⟨F, as, qs, o, outs, fh, hA, nd, e, q⟩
  have M := mods_all (base := base) (W := W) MF ok fit ds.length (Nat.le_refl _)
  have hlen : as.length = 1 := by
    unfold runFn at e
    split at e
    · assumption
    · cases e
  unfold runFn at e
  rw [if_pos hlen] at e
  have hr2 := hr.deeper (envOfC qual scope s.heap.objs.size fa cdv)
  have g : Good (cxOf (L2.CX P w) P w K mg base N qual scope fa cdv callerA [] s H E) ⟨K, ⟨F, H, insOf as qs 0⟩, fun cls d _ H => E cls d H, clOf K xi⟩ scope (tbN ds cn dn xi true ds.length) N (specsN ds cs W ds.length) cs := {
    sc := rfl
    kd := S.kind
    k := rfl
    n := rfl
    nd := S.nd
    calm := rfl
    un := by have := hr2.un; show (callerA.deeper _).units + 65 < _; omega
    bi := MF.bi
    cn := MF.cn
    cd := MF.cd
    rp := fun _ => ⟨rfl, osm, hb _ _ hsm, hcls⟩
    po := passes_of rfl
    tk := takes_of rfl rfl rfl rfl
    xs := M.xs
    ec := M.ec
    fns := fun i x e n => by
      obtain ⟨fa, fd, ps, dvs, ds, sp, h1, h2, h3, h4, h5, h6⟩ := M.fns i x e n
      exact ⟨_, fa, fd, ps, dvs, ds, sp, h1, hr2, h2, h3, h4, h5, h6⟩ }
  exact ⟨_, mB (W := W) m g (fun _ => rfl) ⟨rfl, rfl, rfl⟩ body hfit, reads_of hN fh hA nd hlen e q⟩
/-- a script read -/
theorem script_rds {K : PySem.W.Frag} {F : Hp} : ∀ ns : List Int, RDs K F (ns.map V.int) (ns.map PyData.int)
  | [] => rfl
  | _ :: ns => ⟨_, _, rfl, rfl, script_rds ns⟩
theorem script_sp {K : PySem.W.Frag} {cl : Nat → Value} {φ : Spec} {H : Hp} {a : Addr} {ns : List Int} {outs : List PyData} (S : Rd H a (.lst (ns.map V.int))) (e : φ [.d (.list (ns.map .int))] = some (.ok (.d (.bool true)), outs)) :
    spOf K cl φ [.ref a] H (fun v _ => v = .bl true) fun _ _ _ => False := by
  refine ⟨H, [.d (.list (ns.map .int))], [], _, outs, .refl H, ⟨⟨a, _, rfl, S, script_rds ns⟩, trivial⟩, .nil, e, fun v F' H' _ _ h => ?_⟩
  exact h
end Sm

set_option maxRecDepth 100000
set_option maxHeartbeats 4000000
namespace Sm
open PySem L2 PySem.Spec PyProof.Rows
/-! ### the end: the claim's call -/
def noLst (K : PySem.W.Frag) : Bool := K.all fun p => match p.2.cls with
  | .type c => !decide (c = "list")
  | _ => true
theorem mem_of_look {a : Addr} {o : Obj} : ∀ {K : PySem.W.Frag}, K.lookup a = some o → (a, o) ∈ K
  | [], e => by cases e
  | (b, u) :: r, e => by
    rw [List.lookup_cons] at e
    by_cases q : (a == b) = true
    · rw [q] at e
      cases e
      rw [beq_iff_eq.mp q]
      exact List.mem_cons_self
    · rw [Bool.not_eq_true] at q
      rw [q] at e
      exact List.mem_cons_of_mem _ (mem_of_look e)
theorem noLst_of {K : PySem.W.Frag} (h : noLst K = true) {a : Addr} {o : Obj} (e : K.lookup a = some o) : o.cls ≠ .type "list" := by
  have h1 := List.all_eq_true.mp h _ (mem_of_look e)
  intro q
  simp only [q] at h1
  cases h1
/-- a law whose call ends in True -/
structure LawI where
  d : He.DefD
  x : Str
  N : List Str
  m : B
theorem walkG {l : PySem.W.OpenLaw} {n : Nat} {q : Program} {loose : List Str} {XP : (Str → Option Value) → Heap → Prop} {YP : World → Heap → Prop} {dr : DefRec} {ds : List DefI} {cn dn : Nat → Str} {xi : XI} {cs : Nat → PyData} {W : Nat} {L : LawI}
    (hn : l.most = some n) (hn2 : n ≤ sizeLine) (hdf : dr.params.defaults = []) (hname : dr.name = L.d.name)
    (MF : ∀ (w : World) (mg : Str → Option Value) (h : Heap), YP w h → h.Ns mainGlobals mg → ∃ K : PySem.W.Frag, K.In h ∧ ModF l.prog w K mg ds cn dn xi cs ∧
      (∃ fd, FunD K L.d.name L.d.name L.d.params L.d.body L.d.scope [] [] (He.ga K L.d.name) fd ∧ mg L.d.name = some (.ref (He.ga K L.d.name))) ∧
      (∃ osm, K.lookup sysModules = some osm ∧ osm.cls = .type "dict") ∧ noLst K = true)
    (ok : ∀ (i : Nat) (d : DefI), ds[i]? = some d → DefOk d) (fit : ∀ (i : Nat) (d : DefI), ds[i]? = some d → chB (tbN ds cn dn xi false i) d.N d.d.scope d.m d.d.body = true)
    (hr : Room (ds.length + 1) callerA) (S : FnScope L.N [L.x] L.d.scope) (hN : 1 ≤ L.N.length) (hfit : chB (tbN ds cn dn xi true ds.length) L.N L.d.scope L.m L.d.body = true)
    (bnd : ∀ (kV doc pm : Value) (an : Option Addr) (cdv ct : Value) (u : Value), bindArgs (PySem.W.fnOf L.d.name L.d.name L.d.params L.d.body L.d.scope .none kV doc pm an cdv ct) ⟨[u], []⟩ = pure [(L.x, u)])
    (law : ∀ ns : List Int, ns.length ≤ n → ∃ outs, runFn 1 L.N.length (evB (specsN ds cs W ds.length) cs W L.m) [.d (.list (ns.map .int))] = some (.ok (.d (.bool true)), outs)) :
    PySem.W.WalkO q loose XP YP l.row.toRowW dr [] (fun f vs => PySem.call f vs) := by
  refine Att.attach_call hn hdf fun w s₀ s₁ mg mb fa o pm cd doc a vs ns G Y ho hd hcd hmg hobj hints hlen hg => ?_
  obtain ⟨K, KX, mf, ⟨fd, FD, hfa⟩, ⟨osm, hsm, hcls⟩, nl⟩ := MF w mg _ Y G.T.g
  obtain ⟨oc, od, dV, kV, doc', pm', an, cdv, ct, osl, rfl, lk, hcd', hD, _⟩ := FD.ex
  have e : fa = He.ga K L.d.name := by
    rw [hname] at hmg
    have := hmg.symm.trans hfa
    cases this
    rfl
  subst e
  rcases hD with ⟨_, rfl⟩ | ⟨z, _⟩
  · refine lawG lk hcd' S (law_body mf ok fit hr hsm hcls (W := W) S hN hfit) (bnd kV doc' pm' an cdv ct) KX G.T.g G.T.b G.T.builtins G.T.nolimit hg hobj hints (Nat.le_trans hlen hn2) fun H _ hS => ?_
    obtain ⟨outs, h⟩ := law ns hlen
    rcases hS with hS | ⟨o2, z2⟩
    · exact script_sp hS h
    · obtain ⟨its, m2, z3, z4, _⟩ := z2
      exact absurd z4 (noLst_of nl z3)
  · exact absurd rfl z
end Sm

set_option maxRecDepth 100000
set_option maxHeartbeats 4000000
namespace Sm
open PySem L2 PySem.Spec PyProof.Rows
/-! ### the module's constants, looked up in what is written -/
mutual
def rdB (K : PySem.W.Frag) : PyData → Value → Bool
  | .none, .none => true
  | .bool b, .bool c => b == c
  | .int i, .int j _ => decide (i = j)
  | .str x, .str y _ => decide (x = y)
  | .tuple ds, .ref a => (match K.lookup a with
    | some ⟨.type c, _, .seq its _, _⟩ => decide (c = "tuple") && decide (its.size ≤ sizeLine) && rdsB K ds its.toList
    | _ => false)
  | _, _ => false
def rdsB (K : PySem.W.Frag) : List PyData → List Value → Bool
  | [], [] => true
  | d :: ds, u :: us => rdB K d u && rdsB K ds us
  | _, _ => false
end
mutual
theorem rdB_ok {K : PySem.W.Frag} : ∀ (d : PyData) (u : Value), rdB K d u = true → ∃ v, RelV v u ∧ ∀ F, RD K F v d
  | .none, u, h => by cases u <;> first | (simp [rdB] at h; done) | exact ⟨.non, rfl, fun _ => rfl⟩
  | .bool b, u, h => by
    cases u <;> simp [rdB] at h
    subst h
    exact ⟨.bl b, rfl, fun _ => rfl⟩
  | .int i, u, h => by
    cases u <;> simp [rdB] at h
    subst h
    exact ⟨.int i, ⟨_, rfl⟩, fun _ => rfl⟩
  | .str x, u, h => by
    cases u <;> simp [rdB] at h
    subst h
    exact ⟨.str x, ⟨_, rfl⟩, fun _ => rfl⟩
  | .list ds, u, h => by cases u <;> simp [rdB] at h
  | .dict ds, u, h => by cases u <;> simp [rdB] at h
  | .tuple ds, u, h => by
    cases u with
    | ref a =>
      unfold rdB at h
      cases q : K.lookup a with
      | none => rw [q] at h; cases h
      | some o =>
        obtain ⟨oc, od, dt, osl⟩ := o
        rw [q] at h
        cases oc with
        | type c =>
          cases dt with
          | seq its n =>
            simp only [Bool.and_eq_true, decide_eq_true_eq] at h
            obtain ⟨⟨h1, h2⟩, h3⟩ := h
            subst h1
            obtain ⟨vs, r1, r2⟩ := rdsB_ok ds its.toList h3
            exact ⟨.ref a, rfl, fun F => ⟨a, vs, rfl, .inr ⟨_, its, n, q, rfl, rfl, h2, r1⟩, r2 F⟩⟩
          | _ => cases h
        | _ => cases dt <;> cases h
    | _ => simp [rdB] at h
theorem rdsB_ok {K : PySem.W.Frag} : ∀ (ds : List PyData) (us : List Value), rdsB K ds us = true → ∃ vs, Vals vs us ∧ ∀ F, RDs K F vs ds
  | [], [], _ => ⟨[], .nil, fun _ => rfl⟩
  | [], _ :: _, h => by simp [rdsB] at h
  | _ :: _, [], h => by simp [rdsB] at h
  | d :: ds, u :: us, h => by
    simp only [rdsB, Bool.and_eq_true] at h
    obtain ⟨v, r1, r2⟩ := rdB_ok d u h.1
    obtain ⟨vs, r3, r4⟩ := rdsB_ok ds us h.2
    exact ⟨v :: vs, .cons r1 r3, fun F => ⟨v, vs, rfl, r2 F, r4 F⟩⟩
end
/-- the module's name x is the datum d -/
def cnB (K : PySem.W.Frag) (x : Str) (d : PyData) : Bool := match PySem.W.nsIn K mainGlobals x with
  | some (some u) => rdB K d u
  | _ => false
theorem cnB_ok {K : PySem.W.Frag} {h : Heap} {mg : Str → Option Value} (X : K.In h) (G : h.Ns mainGlobals mg) {x : Str} {d : PyData} (c : cnB K x d = true) : ∃ v u, mg x = some u ∧ RelV v u ∧ ∀ F, RD K F v d := by
  unfold cnB at c
  cases e : PySem.W.nsIn K mainGlobals x with
  | none => rw [e] at c; cases c
  | some o =>
    rw [e] at c
    cases o with
    | none => cases c
    | some u =>
      obtain ⟨v, r1, r2⟩ := rdB_ok d u c
      exact ⟨v, u, PySem.W.mg_of X G e, r1, r2⟩
/-! a dict with texts as keys -/
def entB (K : PySem.W.Frag) : List DictEntry → List (PyData × PyData) → Bool
  | [], [] => true
  | e :: r, (.str k, d) :: s => (match e.key with
    | .str x _ => decide (x = k)
    | _ => false) && rdB K d e.val && entB K r s
  | _, _ => false
theorem entB_find {K : PySem.W.Frag} (z : Str) : ∀ {es : List DictEntry} {kvs : List (PyData × PyData)}, entB K es kvs = true →
    es.any (·.refKey) = false ∧ (dget kvs (.inr z) = none → es.find? (·.key.isStr z) = none) ∧ ∀ y, dget kvs (.inr z) = some y → ∃ e, es.find? (·.key.isStr z) = some e ∧ rdB K y e.val = true
  | [], [], _ => ⟨rfl, fun _ => rfl, fun y h => by cases h⟩
  | [], _ :: _, h => by simp [entB] at h
  | _ :: _, [], h => by simp [entB] at h
  | e :: r, (k, d) :: s, h => by
    cases k with
    | str k =>
      simp only [entB, Bool.and_eq_true] at h
      obtain ⟨⟨h1, h2⟩, h3⟩ := h
      obtain ⟨i1, i2, i3⟩ := entB_find z h3
      obtain ⟨eh, ek, ev⟩ := e
      cases ek with
      | str x t =>
        have hx : x = k := of_decide_eq_true h1
        subst hx
        refine ⟨by rw [List.any_cons, i1]; rfl, ?_, ?_⟩
        · intro q
          have q : (if kEqD (.str x) (.inr z) = true then some d else dget s (.inr z)) = none := q
          by_cases c : x = z
          · rw [if_pos (show kEqD (.str x) (.inr z) = true from decide_eq_true c)] at q; cases q
          · rw [if_neg (show ¬ kEqD (.str x) (.inr z) = true from fun w => c (of_decide_eq_true w))] at q
            have hn : (Value.str x t).isStr z = false := by
              show (x == z) = false
              exact beq_eq_false_iff_ne.mpr c
            rw [List.find?_cons]
            show (match (Value.str x t).isStr z with | true => _ | false => _) = none
            rw [hn]
            exact i2 q
        · intro y q
          have q : (if kEqD (.str x) (.inr z) = true then some d else dget s (.inr z)) = some y := q
          by_cases c : x = z
          · rw [if_pos (show kEqD (.str x) (.inr z) = true from decide_eq_true c)] at q
            cases q
            have hn : (Value.str x t).isStr z = true := by
              show (x == z) = true
              exact beq_iff_eq.mpr c
            refine ⟨_, ?_, h2⟩
            rw [List.find?_cons]
            show (match (Value.str x t).isStr z with | true => _ | false => _) = _
            rw [hn]
          · rw [if_neg (show ¬ kEqD (.str x) (.inr z) = true from fun w => c (of_decide_eq_true w))] at q
            have hn : (Value.str x t).isStr z = false := by
              show (x == z) = false
              exact beq_eq_false_iff_ne.mpr c
            obtain ⟨e, e1, e2⟩ := i3 y q
            refine ⟨e, ?_, e2⟩
            rw [List.find?_cons]
            show (match (Value.str x t).isStr z with | true => _ | false => _) = _
            rw [hn]
            exact e1
      | _ => cases h1
    | _ => simp [entB] at h
def kdB (K : PySem.W.Frag) (x : Str) (kvs : List (PyData × PyData)) : Bool := He.eqO (PySem.W.nsIn K mainGlobals x) (some (some (.ref (He.ga K x)))) && (match K.lookup (He.ga K x) with
  | some ⟨_, _, .dict es _, _⟩ => entB K es.toList kvs
  | _ => false)
theorem kdB_ok {K : PySem.W.Frag} {h : Heap} {w : World} {mg : Str → Option Value} (X : K.In h) (G : h.Ns mainGlobals mg) {x : Str} {kvs : List (PyData × PyData)} {ks : List Str} (c : kdB K x kvs = true)
    (t : He.dicW K (He.ga K x) = some (He.keysIn w.params ks)) : KdOk K w mg x (.dict kvs) := by
  unfold kdB at c
  obtain ⟨c1, c2⟩ := He.ba c
  obtain ⟨es, n, D⟩ := He.dicW_ok t
  rw [D.at_] at c2
  refine ⟨_, es, n, kvs, rfl, PySem.W.mg_of X G (He.eqO_ok c1), D, fun z => ?_⟩
  obtain ⟨i1, i2, i3⟩ := entB_find (K := K) z c2
  have en : PySem.W.nsIn K (He.ga K x) z = (match es.toList.find? (·.key.isStr z) with
      | some e => some (some e.val)
      | none => if es.toList.any (·.refKey) then none else some none) := by
    unfold PySem.W.nsIn
    rw [D.at_]
    rfl
  refine ⟨fun q => ?_, fun y q => ?_⟩
  · rw [en, i2 q]
    show (if es.toList.any (·.refKey) = true then none else some none) = _
    rw [i1]
    rfl
  · obtain ⟨e, e1, e2⟩ := i3 y q
    obtain ⟨v, r1, r2⟩ := rdB_ok y e.val e2
    exact ⟨e.val, v, by rw [en, e1], r1, r2⟩
end Sm

set_option maxRecDepth 100000
set_option maxHeartbeats 4000000
namespace Sm
open PySem L2 PySem.Spec PyProof.Rows
/-! ### a law's proof put together -/
/-- a constant of the module: its name, what it is -/
abbrev CnI : Type := Str × PyData
def isDc : PyData → Bool
  | .dict _ => true
  | _ => false
def cnOf (cl : List CnI) (k : Nat) : Str := match cl[k]? with
  | some (x, d) => if isDc d then "" else x
  | none => ""
def dnOf (cl : List CnI) (k : Nat) : Str := match cl[k]? with
  | some (x, d) => if isDc d then x else ""
  | none => ""
def csOf (cl : List CnI) (k : Nat) : PyData := match cl[k]? with
  | some (_, d) => d
  | none => .none
def keysOf : PyData → List Str
  | .dict kvs => kvs.filterMap fun p => match p.1 with
    | .str x => some x
    | _ => none
  | _ => []
def cnsB (K : PySem.W.Frag) (cl : List CnI) : Bool := cl.all fun c => match c.2 with
  | .dict kvs => kdB K c.1 kvs
  | d => cnB K c.1 d
def dcs (cl : List CnI) : List CnI := cl.filter fun c => isDc c.2
/-- the facts of what is written -/
def faOf (ds : List DefI) (L : LawI) : List He.Fa := bnames.map .free ++ (.glo L.d.name :: ds.map fun d => .glo d.d.name)
def smB (K : PySem.W.Frag) : Bool := match K.lookup sysModules with
  | some ⟨.type c, _, _, _⟩ => decide (c = "dict")
  | _ => false
/-- what is asked of an own exception class -/
def excCB (K : PySem.W.Frag) (D : Addr) : Bool := He.eqO (PySem.W.findIn K (.ref D) "__getattribute__") (some (some (.builtin "BaseException.__getattribute__"))) && (He.eqO (PySem.W.findIn K (.ref D) "__getattr__") (some none) && (decide (PySem.W.subIn K (.ref D) (.type "BaseException") = some true) &&
  (PySem.W.hasDictIn K D && (He.eqO (PySem.W.findIn K (.ref D) "__class__") (some (some (.builtin "object.__class__"))) && (He.eqO (PySem.W.specialIn K (.builtin "object.__class__") "__get__") (some (some (.builtin "getset_descriptor.__get__"))) &&
  (decide (PySem.W.takesIn K (.builtin "object.__class__") = some true) && decide (PySem.W.mroIn K D (.type "object") = some true)))))))
theorem excCB_ok {K : PySem.W.Frag} {D : Addr} (h : excCB K D = true) : ExcC K D := by
  obtain ⟨h1, h⟩ := He.ba h
  obtain ⟨h2, h⟩ := He.ba h
  obtain ⟨h3, h⟩ := He.ba h
  obtain ⟨h4, h⟩ := He.ba h
  obtain ⟨h5, h⟩ := He.ba h
  obtain ⟨h6, h⟩ := He.ba h
  obtain ⟨h7, h8⟩ := He.ba h
  exact ⟨He.eqO_ok h1, He.eqO_ok h2, of_decide_eq_true h3, h4, He.eqO_ok h5, He.eqO_ok h6, of_decide_eq_true h7, of_decide_eq_true h8⟩
def allTy : List Ty := [.int, .bool, .str, .tuple, .list, .dict]
def xcB (K : PySem.W.Frag) (x : Str) : Bool := He.Fa.ok K (.glo x) && (He.Fa.ok K (.exc x) && (excCB K (He.ga K x) && allTy.all fun t => decide (PySem.W.kitOne K (.ref (He.ga K x)) (.type (tyN t)) = some false)))
/-- the class's value: an own one, or one of the built-in ones -/
def clsAt (K : PySem.W.Frag) (x : Str) : Option Value := if He.Fa.ok K (.glo x) then some (.ref (He.ga K x)) else if He.Fa.ok K (.free x) && !decide (x = "__name__") then (match bootBuiltins x with
  | some (.type n) => some (.type n)
  | _ => none) else none
def ecB (K : PySem.W.Frag) (p : Str × List (Str × Bool)) : Bool := match clsAt K p.1 with
  | some u => decide (PySem.W.kitOne K (.type "NoneType") u = some false) && p.2.all fun q => He.Fa.ok K (.glo q.1) && (decide (PySem.W.exmOne K (.ref (He.ga K q.1)) u = some q.2) && decide (PySem.W.kitOne K (.ref (He.ga K q.1)) u = some q.2))
  | none => false
def exB (K : PySem.W.Frag) (xi : XI) : Bool := xi.xs.all (xcB K) && xi.ec.all (ecB K)
theorem xcB_ok {K : PySem.W.Frag} {h : Heap} {mg : Str → Option Value} (X : K.In h) (G : h.Ns mainGlobals mg) {x : Str} (c : xcB K x = true) : OwnX K mg x (.ref (He.ga K x)) := by
  obtain ⟨c1, c⟩ := He.ba c
  obtain ⟨c2, c⟩ := He.ba c
  obtain ⟨c3, c4⟩ := He.ba c
  obtain ⟨e1, e2, e3, e4⟩ := He.exc_ok c2
  refine ⟨_, rfl, He.glo_ok X G c1, ⟨He.eqO_ok c1, excCB_ok c3, fun t => ?_⟩, e1, e2, e3, e4⟩
  have z := List.all_eq_true.mp c4 t (by cases t <;> simp [allTy])
  exact of_decide_eq_true z
theorem ecB_ok {K : PySem.W.Frag} {h : Heap} {mg : Str → Option Value} (X : K.In h) (G : h.Ns mainGlobals mg) {p : Str × List (Str × Bool)} (c : ecB K p = true) : EcOk K mg p := by
  unfold ecB at c
  cases q : clsAt K p.1 with
  | none => rw [q] at c; cases c
  | some u =>
    rw [q] at c
    obtain ⟨c1, c2⟩ := He.ba c
    have rest : ∀ q ∈ p.2, ∀ Ca, XcC K q.1 Ca → PySem.W.exmOne K (.ref Ca) u = some q.2 ∧ PySem.W.kitOne K (.ref Ca) u = some q.2 := fun q hq Ca hx => by
      obtain ⟨d1, d⟩ := He.ba (List.all_eq_true.mp c2 q hq)
      obtain ⟨d2, d3⟩ := He.ba d
      have e1 := (He.eqO_ok d1).symm.trans hx.at_
      have e2 : Ca = He.ga K q.1 := by injection e1 with e1; injection e1 with e1; injection e1 with e1; exact e1.symm
      rw [e2]
      exact ⟨of_decide_eq_true d2, of_decide_eq_true d3⟩
    unfold clsAt at q
    split at q
    · rename_i hg
      cases q
      exact ⟨.ref (He.ga K p.1), _, .inl (He.glo_ok X G hg), rfl, .own _, of_decide_eq_true c1, rest⟩
    · split at q
      · rename_i hf
        obtain ⟨f1, f2⟩ := He.ba hf
        split at q
        · rename_i n hb
          cases q
          exact ⟨.ty n, _, .inr ⟨He.free_ok X G f1, hb, by simpa using f2⟩, rfl, .ty n, of_decide_eq_true c1, rest⟩
        · cases q
      · cases q
structure Facts (P : Params) (K : PySem.W.Frag) (ds : List DefI) (L : LawI) (cl : List CnI) (xi : XI) : Prop where
  says : He.obsD (faOf ds L) (L.d :: ds.map (·.d)) K = He.valD (L.d :: ds.map (·.d))
  cns : cnsB K cl = true
  dce : (dcs cl).map (fun c => He.dicW K (He.ga K c.1)) = (dcs cl).map fun c => some (He.keysIn P (keysOf c.2))
  sm : smB K = true
  nl : noLst K = true
  ex : exB K xi = true
def AllOk : List DefI → Prop
  | [] => True
  | d :: r => DefOk d ∧ AllOk r
theorem AllOk.get : ∀ {ds : List DefI}, AllOk ds → ∀ (i : Nat) (d : DefI), ds[i]? = some d → DefOk d
  | [], _, i, d, e => by simp at e
  | d :: r, h, 0, d', e => by
    have e : some d = some d' := e
    cases e
    exact h.1
  | d :: r, h, i + 1, d', e => AllOk.get h.2 i d' (by simpa using e)
def fitsB (ds : List DefI) (cl : List CnI) (xi : XI) : Bool := (List.range ds.length).all fun i => match ds[i]? with
  | some d => chB (tbN ds (cnOf cl) (dnOf cl) xi false i) d.N d.d.scope d.m d.d.body
  | none => true
theorem fitsB_get {ds : List DefI} {cl : List CnI} {xi : XI} (h : fitsB ds cl xi = true) (i : Nat) (d : DefI) (e : ds[i]? = some d) : chB (tbN ds (cnOf cl) (dnOf cl) xi false i) d.N d.d.scope d.m d.d.body = true := by
  have hi : i < ds.length := (List.getElem?_eq_some_iff.mp e).1
  have h1 := List.all_eq_true.mp h i (List.mem_range.mpr hi)
  rw [e] at h1
  exact h1
theorem Facts.modF {P : Program} {w : World} {K : PySem.W.Frag} {h : Heap} {mg : Str → Option Value} {ds : List DefI} {L : LawI} {cl : List CnI} {xi : XI} (F : Facts w.params K ds L cl xi) (ok : AllOk ds) (okL : L.d.at_ = (L.d.name, none) ∧ L.d.qual = L.d.name ∧ L.d.dfl = [] ∧ L.d.kwd = []) (X : K.In h) (G : h.Ns mainGlobals mg) :
    ModF P w K mg ds (cnOf cl) (dnOf cl) xi (csOf cl) ∧
      (∃ fd, FunD K L.d.name L.d.name L.d.params L.d.body L.d.scope [] [] (He.ga K L.d.name) fd ∧ mg L.d.name = some (.ref (He.ga K L.d.name))) ∧
      (∃ osm, K.lookup sysModules = some osm ∧ osm.cls = .type "dict") ∧ noLst K = true := by
  have s : He.SaysD (faOf ds L) (L.d :: ds.map (·.d)) K := F.says
  have fact : ∀ f ∈ faOf ds L, f.ok K = true := fun f hf => by
    obtain ⟨i, hi⟩ := List.getElem?_of_mem hf
    exact s.fact i hi
  have cons : ∀ c ∈ cl, (match c.2 with | .dict kvs => kdB K c.1 kvs | d => cnB K c.1 d) = true := fun c hc => List.all_eq_true.mp F.cns c hc
  refine ⟨⟨fun x hx => He.free_ok X G (fact _ (List.mem_append_left _ (List.mem_map_of_mem hx))), fun k x e hx => ?_, fun k x e hx => ?_, fun i d e => ?_, fun c x e => ?_, fun p hp => ?_⟩, ?_, ?_, F.nl⟩
  · unfold cnOf at e
    cases q : cl[k]? with
    | none => rw [q] at e; exact absurd e.symm hx
    | some c =>
      obtain ⟨y, d⟩ := c
      rw [q] at e
      have e : (if isDc d = true then ("" : Str) else y) = x := e
      have hc := cons _ (List.mem_of_getElem? q)
      have ed : csOf cl k = d := by unfold csOf; rw [q]
      rw [ed]
      cases d with
      | dict kvs => exact absurd e.symm hx
      | _ => have e : y = x := e; subst e; exact cnB_ok X G hc
  · unfold dnOf at e
    cases q : cl[k]? with
    | none => rw [q] at e; exact absurd e.symm hx
    | some c =>
      obtain ⟨y, d⟩ := c
      rw [q] at e
      have e : (if isDc d = true then y else ("" : Str)) = x := e
      have hm := List.mem_of_getElem? q
      have hc := cons _ hm
      have ed : csOf cl k = d := by unfold csOf; rw [q]
      rw [ed]
      cases d with
      | dict kvs =>
        have e : y = x := e
        subst e
        have hm2 : (y, PyData.dict kvs) ∈ dcs cl := List.mem_filter.mpr ⟨hm, rfl⟩
        obtain ⟨j, hj⟩ := List.getElem?_of_mem hm2
        have := congrArg (fun l => l[j]?) F.dce
        simp only [List.getElem?_map, hj, Option.map_some, Option.some.injEq] at this
        exact kdB_ok X G hc this
      | _ => exact absurd e.symm hx
  · have D := ok.get i d e
    have e2 : (L.d :: ds.map (·.d))[i + 1]? = some d.d := by
      show (ds.map (·.d))[i]? = _
      rw [List.getElem?_map, e]
      rfl
    obtain ⟨fd, FD⟩ := s.def_ (i + 1) e2
    have h1 : d.d.dvs K = [] := by unfold He.DefD.dvs; rw [D.dfl.1]; rfl
    have h2 : d.d.kws K = [] := by unfold He.DefD.kws; rw [D.dfl.2]; rfl
    have h3 : He.fAd K d.d.at_ = He.ga K d.d.name := by rw [D.at_]; rfl
    rw [h1, h2, h3] at FD
    exact ⟨fd, FD, He.glo_ok X G (fact _ (List.mem_append_right _ (List.mem_cons_of_mem _ (List.mem_map_of_mem (f := fun d : DefI => He.Fa.glo d.d.name) (List.mem_of_getElem? e)))))⟩
  · obtain ⟨z, _⟩ := He.ba F.ex
    have q := xcB_ok X G (List.all_eq_true.mp z x (List.mem_of_getElem? e))
    unfold clOf
    rw [e]
    exact q
  · obtain ⟨_, z⟩ := He.ba F.ex
    exact ecB_ok X G (List.all_eq_true.mp z p hp)
  · obtain ⟨fd, FD⟩ := s.def_ 0 (d := L.d) rfl
    have h1 : L.d.dvs K = [] := by unfold He.DefD.dvs; rw [okL.2.2.1]; rfl
    have h2 : L.d.kws K = [] := by unfold He.DefD.kws; rw [okL.2.2.2]; rfl
    have h3 : He.fAd K L.d.at_ = He.ga K L.d.name := by rw [okL.1]; rfl
    rw [h1, h2, h3, okL.2.1] at FD
    exact ⟨fd, FD, He.glo_ok X G (fact _ (List.mem_append_right _ List.mem_cons_self))⟩
  · have z := F.sm
    unfold smB at z
    cases q : K.lookup sysModules with
    | none => rw [q] at z; cases z
    | some o =>
      obtain ⟨oc, od, dt, osl⟩ := o
      rw [q] at z
      cases oc with
      | type c => exact ⟨_, rfl, congrArg Value.type (of_decide_eq_true z)⟩
      | _ => cases z
/-- all but the mathematics -/
theorem lawEnd {l : PySem.W.OpenLaw} {n : Nat} {q : Program} {loose : List Str} {XP : (Str → Option Value) → Heap → Prop} {YP : World → Heap → Prop} {dr : DefRec} {ds : List DefI} {cl : List CnI} {xi : XI} {W : Nat} {L : LawI}
    (hn : l.most = some n) (hn2 : n ≤ sizeLine) (hdf : dr.params.defaults = []) (hname : dr.name = L.d.name) (okL : L.d.at_ = (L.d.name, none) ∧ L.d.qual = L.d.name ∧ L.d.dfl = [] ∧ L.d.kwd = []) (ok : AllOk ds) (fit : fitsB ds cl xi = true)
    (hr : Room (ds.length + 1) callerA) (S : FnScope L.N [L.x] L.d.scope) (hN : 1 ≤ L.N.length) (hfit : chB (tbN ds (cnOf cl) (dnOf cl) xi true ds.length) L.N L.d.scope L.m L.d.body = true)
    (bnd : ∀ (kV doc pm : Value) (an : Option Addr) (cdv ct : Value) (u : Value), bindArgs (PySem.W.fnOf L.d.name L.d.name L.d.params L.d.body L.d.scope .none kV doc pm an cdv ct) ⟨[u], []⟩ = pure [(L.x, u)])
    (law : ∀ ns : List Int, ns.length ≤ n → ∃ outs, runFn 1 L.N.length (evB (specsN ds (csOf cl) W ds.length) (csOf cl) W L.m) [.d (.list (ns.map .int))] = some (.ok (.d (.bool true)), outs))
    (facts : ∀ (w : World) (h : Heap), YP w h → ∃ K : PySem.W.Frag, K.In h ∧ Facts w.params K ds L cl xi) :
    PySem.W.WalkO q loose XP YP l.row.toRowW dr [] (fun f vs => PySem.call f vs) :=
  walkG (W := W) hn hn2 hdf hname (fun w mg h Y G => let ⟨K, X, F⟩ := facts w h Y; ⟨K, X, F.modF ok okL X G⟩) ok.get (fitsB_get fit) hr S hN hfit bnd law
/-! the facts, looked at behind the top -/
def plainAt (g : Addr → Option Obj) (a : Addr) : Option Obj := match g a with
  | some ⟨.type c, od, dt, sl⟩ => if c = "list" then none else some ⟨.type c, od, dt, sl⟩
  | o => o
def frM (g : Addr → Option Obj) (n : Nat) : PySem.W.Frag := He.frG (plainAt g) (sysModules :: He.asD g n)
theorem frM_in {n : Nat} {h : Heap} : (frM h.get? n).In h := fun a o e => by
  have e1 := He.frG_at _ e
  unfold plainAt at e1
  split at e1
  · rename_i q
    split at e1
    · cases e1
    · rw [q]; exact e1
  · exact e1
abbrev AlM : Type := Bool × He.AlD × List (Option (List (Option (Str × Int))))
def obsM (ds : List DefI) (L : LawI) (cl : List CnI) (xi : XI) (K : PySem.W.Frag) : AlM :=
  (cnsB K cl && smB K && noLst K && exB K xi, He.obsD (faOf ds L) (L.d :: ds.map (·.d)) K, (dcs cl).map fun c => He.dicW K (He.ga K c.1))
def valM (ds : List DefI) (L : LawI) (cl : List CnI) (P : Params) : AlM := (true, He.valD (L.d :: ds.map (·.d)), (dcs cl).map fun c => some (He.keysIn P (keysOf c.2)))
theorem facts_of {ds : List DefI} {L : LawI} {cl : List CnI} {xi : XI} {K : PySem.W.Frag} {P : Params} (e : obsM ds L cl xi K = valM ds L cl P) : Facts P K ds L cl xi := by
  have e1 : (cnsB K cl && smB K && noLst K && exB K xi) = true := congrArg (fun z : AlM => z.1) e
  have e2 : He.obsD (faOf ds L) (L.d :: ds.map (·.d)) K = He.valD (L.d :: ds.map (·.d)) := congrArg (fun z : AlM => z.2.1) e
  have e3 : (dcs cl).map (fun c => He.dicW K (He.ga K c.1)) = (dcs cl).map fun c => some (He.keysIn P (keysOf c.2)) := congrArg (fun z : AlM => z.2.2) e
  obtain ⟨e1, x⟩ := He.ba e1
  obtain ⟨a, b⟩ := He.ba e1
  obtain ⟨c, d⟩ := He.ba a
  exact ⟨e2, c, e3, d, b, x⟩
def hookM (n : Nat) (ds : List DefI) (L : LawI) (cl : List CnI) (xi : XI) : PySem.W.Hook where
  α := AlM
  obs := fun s => obsM ds L cl xi (frM s.heap.get? n)
  val := fun w => valM ds L cl w.params
  says := fun w h => ∃ K : PySem.W.Frag, K.In h ∧ Facts w.params K ds L cl xi
  of := fun _ _ e => ⟨_, frM_in, facts_of e⟩
  keeps := fun _ _ _ ⟨K, hK, c⟩ k => ⟨K, PySem.W.Frag.In.keeps hK k, c⟩
end Sm

set_option maxRecDepth 100000
set_option maxHeartbeats 4000000
namespace Sm
open PySem L2
/-! ### running the machine: loops, comprehensions -/
/-- what a loop's turn leads to -/
def TurnTo (I : Env → Prop) (P : Out Fl → Env → Prop) : Out Fl → Env → Prop
  | .ok .nx, e => I e
  | .ok .ct, e => I e
  | .ok .bk, e => P (.ok .nx) e
  | .ok (.rt r), e => P (.ok (.rt r)) e
  | .rs c, e => P (.rs c) e
theorem forL_run {bind : D → M Unit} {body : M Fl} (I : List D → Env → Prop) (P : Out Fl → Env → Prop) (hend : ∀ e, I [] e → P (.ok .nx) e)
    (step : ∀ x r e, I (x :: r) e → ∃ e1, bind x e = some (.ok (), e1) ∧ ∃ o e2, body e1 = some (o, e2) ∧ TurnTo (I r) P o e2) : ∀ (xs : List D) (e : Env), I xs e → ∃ o e', forL bind body xs e = some (o, e') ∧ P o e'
  | [], e, h => ⟨_, _, rfl, hend e h⟩
  | x :: xs, e, h => by
    obtain ⟨e1, h1, o, e2, h2, h3⟩ := step x xs e h
    have unf : forL bind body (x :: xs) e = (match bind x e with
      | some (.ok (), e1) =>
        match body e1 with
        | some (.ok .nx, e2) => forL bind body xs e2
        | some (.ok .ct, e2) => forL bind body xs e2
        | some (.ok .bk, e2) => some (.ok .nx, e2)
        | some (.ok (.rt r), e2) => some (.ok (.rt r), e2)
        | some (.rs c, e2) => some (.rs c, e2)
        | none => none
      | _ => none) := rfl
    rw [unf, h1]
    show ∃ o e', (match body e1 with
        | some (.ok .nx, e2) => forL bind body xs e2
        | some (.ok .ct, e2) => forL bind body xs e2
        | some (.ok .bk, e2) => some (.ok .nx, e2)
        | some (.ok (.rt r), e2) => some (.ok (.rt r), e2)
        | some (.rs c, e2) => some (.rs c, e2)
        | none => none) = some (o, e') ∧ P o e'
    rw [h2]
    cases o with
    | rs c => exact ⟨_, _, rfl, h3⟩
    | ok f =>
      cases f with
      | nx => exact forL_run I P hend step xs e2 h3
      | ct => exact forL_run I P hend step xs e2 h3
      | bk => exact ⟨_, _, rfl, h3⟩
      | rt r => exact ⟨_, _, rfl, h3⟩
/-- a loop that comes through -/
theorem forL_all {bind : D → M Unit} {body : M Fl} (I : List D → Env → Prop)
    (step : ∀ x r e, I (x :: r) e → ∃ e1, bind x e = some (.ok (), e1) ∧ ∃ e2, (body e1 = some (.ok .nx, e2) ∨ body e1 = some (.ok .ct, e2)) ∧ I r e2) (xs : List D) (e : Env) (h : I xs e) : ∃ e', forL bind body xs e = some (.ok .nx, e') ∧ I [] e' := by
  obtain ⟨o, e', h1, rfl, h2⟩ := forL_run I (fun o e => o = .ok .nx ∧ I [] e) (fun e h => ⟨rfl, h⟩) (fun x r e h => by
    obtain ⟨e1, h1, e2, h2, h3⟩ := step x r e h
    rcases h2 with h2 | h2
    · exact ⟨e1, h1, _, e2, h2, h3⟩
    · exact ⟨e1, h1, _, e2, h2, h3⟩) xs e h
  exact ⟨e', h1, h2⟩
/-- a loop over a known row, its state a fold -/
theorem turns_run {one : D → Env → Option (Option D × Env)} (I : List D → List D → Env → Prop)
    (step : ∀ x r ys e, I (x :: r) ys e → ∃ y e1, one x e = some (y, e1) ∧ I r (match y with | none => ys | some y => ys ++ [y]) e1) : ∀ (xs ys : List D) (e : Env), I xs ys e → ∃ zs e', turns one xs e = some (zs, e') ∧ I [] (ys ++ zs) e'
  | [], ys, e, h => ⟨[], e, rfl, by rw [List.append_nil]; exact h⟩
  | x :: xs, ys, e, h => by
    obtain ⟨y, e1, h1, h2⟩ := step x xs ys e h
    obtain ⟨zs, e', h3, h4⟩ := turns_run I step xs _ e1 h2
    cases y with
    | none => exact ⟨zs, e', by simp only [turns, h1, h3], h4⟩
    | some y => exact ⟨y :: zs, e', by simp only [turns, h1, h3], by simpa [List.append_assoc] using h4⟩
/-- a comprehension whose turns leave all slots as they are -/
theorem turns_map {one : D → Env → Option (Option D × Env)} {f : D → D} {e : Env} : ∀ {xs : List D}, (∀ x ∈ xs, one x e = some (some (f x), e)) → turns one xs e = some (xs.map f, e)
  | [], _ => rfl
  | x :: xs, h => by
    have h1 := h x List.mem_cons_self
    have h2 := turns_map (xs := xs) fun y hy => h y (List.mem_cons_of_mem _ hy)
    simp only [turns, h1, h2, List.map_cons]
theorem turns_filter {one : D → Env → Option (Option D × Env)} {p : D → Bool} {f : D → D} {e : Env} : ∀ {xs : List D}, (∀ x ∈ xs, one x e = some (if p x then some (f x) else none, e)) → turns one xs e = some ((xs.filter p).map f, e)
  | [], _ => rfl
  | x :: xs, h => by
    have h1 := h x List.mem_cons_self
    have h2 := turns_filter (xs := xs) fun y hy => h y (List.mem_cons_of_mem _ hy)
    by_cases q : p x = true
    · rw [if_pos q] at h1
      simp only [turns, h1, h2, List.filter_cons_of_pos q, List.map_cons]
    · rw [if_neg q] at h1
      simp only [turns, h1, h2, List.filter_cons_of_neg q]
theorem whileL_run {c : M Bool} {body : M Fl} (I : Nat → Env → Prop) (P : Out Fl → Env → Prop)
    (step : ∀ m e, I m e → (∃ e1, c e = some (.ok false, e1) ∧ P (.ok .nx) e1) ∨ ∃ e1, c e = some (.ok true, e1) ∧ ∃ o e2, body e1 = some (o, e2) ∧ TurnTo (fun e => ∃ j, j < m ∧ I j e) P o e2) : ∀ (n m : Nat) (e : Env), m < n → I m e → ∃ o e', whileL c body n e = some (o, e') ∧ P o e'
  | 0, _, _, h, _ => absurd h (Nat.not_lt_zero _)
  | n + 1, m, e, hm, h => by
    have unf : whileL c body (n + 1) e = (match c e with
      | some (.ok true, e1) =>
        match body e1 with
        | some (.ok .nx, e2) => whileL c body n e2
        | some (.ok .ct, e2) => whileL c body n e2
        | some (.ok .bk, e2) => some (.ok .nx, e2)
        | some (.ok (.rt r), e2) => some (.ok (.rt r), e2)
        | some (.rs c, e2) => some (.rs c, e2)
        | none => none
      | some (.ok false, e1) => some (.ok .nx, e1)
      | some (.rs c, e1) => some (.rs c, e1)
      | none => none) := rfl
    rw [unf]
    rcases step m e h with ⟨e1, h1, h2⟩ | ⟨e1, h1, o, e2, h2, h3⟩
    · rw [h1]; exact ⟨_, _, rfl, h2⟩
    · rw [h1]
      show ∃ o e', (match body e1 with
        | some (.ok .nx, e2) => whileL c body n e2
        | some (.ok .ct, e2) => whileL c body n e2
        | some (.ok .bk, e2) => some (.ok .nx, e2)
        | some (.ok (.rt r), e2) => some (.ok (.rt r), e2)
        | some (.rs c, e2) => some (.rs c, e2)
        | none => none) = some (o, e') ∧ P o e'
      rw [h2]
      cases o with
      | rs c => exact ⟨_, _, rfl, h3⟩
      | ok f =>
        cases f with
        | nx => obtain ⟨j, hj, h3⟩ := h3; exact whileL_run I P step n j e2 (by omega) h3
        | ct => obtain ⟨j, hj, h3⟩ := h3; exact whileL_run I P step n j e2 (by omega) h3
        | bk => exact ⟨_, _, rfl, h3⟩
        | rt r => exact ⟨_, _, rfl, h3⟩
section
variable {Φ : Nat → Spec} {cs : Nat → D} {W : Nat}
/-- a comprehension, read off its turns -/
theorem lc_turns {elt : E} {t : T} {it : Sm.I} {ifs : A} {own : List Nat} {e e1 e2 : Env} {ds ys : List D} (hsrc : evI Φ cs it e = some (.ok ds, e1)) (h : turns (turn1 own (fun x => asg t (.d x)) (evTs Φ cs ifs) (evX Φ cs elt).1) ds e1 = some (ys, e2))
    (hz : ys.length ≤ 16777216) : (evX Φ cs (.lc elt t it ifs own)).1 e = some (.ok (.new (.list ys)), e2) := by
  show lcM own (fun x => asg t (.d x)) (evI Φ cs it) (evTs Φ cs ifs) (evX Φ cs elt).1 e = _
  unfold lcM
  rw [hsrc]
  simp only [h]
  rw [if_pos (by unfold fits; rw [PySem.sizeLine_eq]; exact decide_eq_true hz)]
theorem lc_map {elt : E} {t : T} {it : Sm.I} {ifs : A} {own : List Nat} {e e1 : Env} {ds : List D} (f : D → D) (hsrc : evI Φ cs it e = some (.ok ds, e1))
    (hone : ∀ x ∈ ds, turn1 own (fun x => asg t (.d x)) (evTs Φ cs ifs) (evX Φ cs elt).1 x e1 = some (some (f x), e1)) (hz : ds.length ≤ 16777216) : (evX Φ cs (.lc elt t it ifs own)).1 e = some (.ok (.new (.list (ds.map f))), e1) :=
  lc_turns hsrc (turns_map hone) (by rw [List.length_map]; exact hz)
theorem lc_filter {elt : E} {t : T} {it : Sm.I} {ifs : A} {own : List Nat} {e e1 : Env} {ds : List D} (p : D → Bool) (f : D → D) (hsrc : evI Φ cs it e = some (.ok ds, e1))
    (hone : ∀ x ∈ ds, turn1 own (fun x => asg t (.d x)) (evTs Φ cs ifs) (evX Φ cs elt).1 x e1 = some (if p x then some (f x) else none, e1)) (hz : ds.length ≤ 16777216) :
    (evX Φ cs (.lc elt t it ifs own)).1 e = some (.ok (.new (.list ((ds.filter p).map f))), e1) :=
  lc_turns hsrc (turns_filter hone) (by rw [List.length_map]; exact Nat.le_trans (List.length_filter_le _ _) hz)
theorem lc_run {elt : E} {t : T} {it : Sm.I} {ifs : A} {own : List Nat} {e e1 : Env} {ds : List D} (I : List D → List D → Env → Prop) (hsrc : evI Φ cs it e = some (.ok ds, e1)) (h0 : I ds [] e1)
    (step : ∀ x r ys e, I (x :: r) ys e → ∃ y e2, turn1 own (fun x => asg t (.d x)) (evTs Φ cs ifs) (evX Φ cs elt).1 x e = some (y, e2) ∧ I r (match y with | none => ys | some y => ys ++ [y]) e2)
    (hz : ∀ ys e, I [] ys e → ys.length ≤ 16777216) : ∃ ys e2, (evX Φ cs (.lc elt t it ifs own)).1 e = some (.ok (.new (.list ys)), e2) ∧ I [] ys e2 := by
  obtain ⟨ys, e2, h1, h2⟩ := turns_run I step ds [] e1 h0
  rw [List.nil_append] at h2
  exact ⟨ys, e2, lc_turns hsrc h1 (hz _ _ h2), h2⟩
/-- a for loop, read off its turns -/
theorem for_run {t : T} {it : Sm.I} {b : B} {e e1 : Env} {ds : List D} (I : List D → Env → Prop) (P : Out Fl → Env → Prop) (hsrc : evI Φ cs it e = some (.ok ds, e1)) (h0 : I ds e1) (hend : ∀ e, I [] e → P (.ok .nx) e)
    (step : ∀ x r e, I (x :: r) e → ∃ e1, asg t (.d x) e = some (.ok (), e1) ∧ ∃ o e2, evB Φ cs W b e1 = some (o, e2) ∧ TurnTo (I r) P o e2) : ∃ o e2, evS Φ cs W (.for t it b) e = some (o, e2) ∧ P o e2 := by
  obtain ⟨o, e2, h1, h2⟩ := forL_run I P hend step ds e1 h0
  refine ⟨o, e2, ?_, h2⟩
  show ((evI Φ cs it).bind fun ds => forL (fun x => asg t (.d x)) (evB Φ cs W b) ds) e = _
  unfold M.bind
  rw [hsrc]
  exact h1
theorem for_all {t : T} {it : Sm.I} {b : B} {e e1 : Env} {ds : List D} (I : List D → Env → Prop) (hsrc : evI Φ cs it e = some (.ok ds, e1)) (h0 : I ds e1)
    (step : ∀ x r e, I (x :: r) e → ∃ e1, asg t (.d x) e = some (.ok (), e1) ∧ ∃ e2, (evB Φ cs W b e1 = some (.ok .nx, e2) ∨ evB Φ cs W b e1 = some (.ok .ct, e2)) ∧ I r e2) : ∃ e2, evS Φ cs W (.for t it b) e = some (.ok .nx, e2) ∧ I [] e2 := by
  obtain ⟨e2, h1, h2⟩ := forL_all I step ds e1 h0
  refine ⟨e2, ?_, h2⟩
  show ((evI Φ cs it).bind fun ds => forL (fun x => asg t (.d x)) (evB Φ cs W b) ds) e = _
  unfold M.bind
  rw [hsrc]
  exact h1
end
def rowN (n : Nat) : List D := (List.range n).map fun (i : Nat) => .int (i : Int)
theorem inR_small {n : Nat} (h : n ≤ 16777216) : inR (n : Int) = true := by
  exact Nat.ble_eq_true_of_le (by omega)
theorem r1D_small {n : Nat} (h : n ≤ 16777216) : r1D (.int (n : Int)) = some (rowN n) := by
  show (if inR (n : Int) = true then some (rangeD 0 (n : Int)) else none) = _
  rw [if_pos (inR_small h)]
  unfold rangeD rowN
  rw [show ((n : Int) - 0).toNat = n by omega]
  congr 1
  apply List.map_congr_left
  intro i _
  rw [show (0 : Int) + (i : Int) = (i : Int) by omega]
theorem rowN_cons {n j : Nat} (h : j < n) : (rowN n).drop j = .int (j : Int) :: (rowN n).drop (j + 1) := by
  unfold rowN
  rw [List.drop_eq_getElem_cons (by rw [List.length_map, List.length_range]; exact h)]
  congr 1
  rw [List.getElem_map, List.getElem_range]
theorem rowN_end {n : Nat} : (rowN n).drop n = [] := List.drop_of_length_le (by unfold rowN; rw [List.length_map, List.length_range]; omega)
section
variable {Φ : Nat → Spec} {cs : Nat → D} {W : Nat}
/-- a comprehension over a range -/
theorem lc_range {elt : E} {t : T} {it : Sm.I} {ifs : A} {own : List Nat} {e e1 : Env} {n : Nat} (I : Nat → List D → Env → Prop) (hsrc : evI Φ cs it e = some (.ok (rowN n), e1)) (h0 : I 0 [] e1)
    (step : ∀ j ys e, j < n → ys.length = j → I j ys e → ∃ y e2, turn1 own (fun x => asg t (.d x)) (evTs Φ cs ifs) (evX Φ cs elt).1 (.int (j : Int)) e = some (some y, e2) ∧ I (j + 1) (ys ++ [y]) e2)
    (hz : n ≤ 16777216) : ∃ ys e2, (evX Φ cs (.lc elt t it ifs own)).1 e = some (.ok (.new (.list ys)), e2) ∧ ys.length = n ∧ I n ys e2 := by
  obtain ⟨ys, e2, h1, j, hj, hjn, hl, h2⟩ := lc_run (Φ := Φ) (cs := cs) (elt := elt) (t := t) (it := it) (ifs := ifs) (own := own) (e := e) (e1 := e1) (ds := rowN n)
    (fun xs ys e => ∃ j, xs = (rowN n).drop j ∧ j ≤ n ∧ ys.length = j ∧ I j ys e) hsrc ⟨0, rfl, Nat.zero_le _, rfl, h0⟩
    (fun x r ys e ⟨j, hj, hjn, hl, h⟩ => by
      have hlt : j < n := by
        by_cases q : j < n
        · exact q
        · have : j = n := by omega
          rw [this, rowN_end] at hj; cases hj
      rw [rowN_cons hlt] at hj
      cases hj
      obtain ⟨y, e2, h3, h4⟩ := step j ys e hlt hl h
      exact ⟨some y, e2, h3, j + 1, rfl, hlt, by simp [hl], h4⟩)
    (fun ys e ⟨j, _, hjn, hl, _⟩ => by omega)
  have : j = n := by
    by_cases q : j < n
    · rw [rowN_cons q] at hj; cases hj
    · omega
  subst this
  exact ⟨ys, e2, h1, hl, h2⟩
/-- a loop over a range -/
theorem for_range {t : T} {it : Sm.I} {b : B} {e e1 : Env} {n : Nat} (I : Nat → Env → Prop) (hsrc : evI Φ cs it e = some (.ok (rowN n), e1)) (h0 : I 0 e1)
    (step : ∀ j e, j < n → I j e → ∃ e1, asg t (.d (.int (j : Int))) e = some (.ok (), e1) ∧ ∃ e2, (evB Φ cs W b e1 = some (.ok .nx, e2) ∨ evB Φ cs W b e1 = some (.ok .ct, e2)) ∧ I (j + 1) e2) : ∃ e2, evS Φ cs W (.for t it b) e = some (.ok .nx, e2) ∧ I n e2 := by
  obtain ⟨e2, h1, j, hj, hjn, h2⟩ := for_all (Φ := Φ) (cs := cs) (W := W) (t := t) (it := it) (b := b) (e := e) (e1 := e1) (ds := rowN n) (fun xs e => ∃ j, xs = (rowN n).drop j ∧ j ≤ n ∧ I j e) hsrc ⟨0, rfl, Nat.zero_le _, h0⟩
    (fun x r e ⟨j, hj, hjn, h⟩ => by
      have hlt : j < n := by
        by_cases q : j < n
        · exact q
        · have : j = n := by omega
          rw [this, rowN_end] at hj; cases hj
      rw [rowN_cons hlt] at hj
      cases hj
      obtain ⟨e1, h3, e2, h4, h5⟩ := step j e hlt h
      exact ⟨e1, h3, e2, h4, j + 1, rfl, hlt, h5⟩)
  have : j = n := by
    by_cases q : j < n
    · rw [rowN_cons q] at hj; cases hj
    · omega
  subst this
  exact ⟨e2, h1, h2⟩
end
/-! equality of flat data -/
theorem shaped_int (i : Int) : SeqAt.shaped (.int i) = true := rfl
theorem shaped_bool (i : Bool) : SeqAt.shaped (.bool i) = true := rfl
theorem shaped_none : SeqAt.shaped .none = true := rfl
theorem shaped_str {i : Str} (h : PyData.strOk i = true) : SeqAt.shaped (.str i) = true := by simp [SeqAt.shaped, PyData.canLay0, PyData.depth, h]
theorem eqD_int (i j : Int) : eqD (.int i) (.int j) = some (decide (i = j)) := rfl
theorem neD_int (i j : Int) : neD (.int i) (.int j) = some (!decide (i = j)) := rfl
theorem eqD_bool (i j : Bool) : eqD (.bool i) (.bool j) = some (decide (i = j)) := by cases i <;> cases j <;> rfl
theorem neD_bool (i j : Bool) : neD (.bool i) (.bool j) = some (!decide (i = j)) := by cases i <;> cases j <;> rfl
theorem eqD_str (i j : Str) : eqD (.str i) (.str j) = some (decide (i = j)) := rfl
theorem neD_str (i j : Str) : neD (.str i) (.str j) = some (!decide (i = j)) := rfl
end Sm

set_option maxRecDepth 100000
set_option maxHeartbeats 4000000
namespace Sm
open PySem L2
abbrev topS (i : Nat) : Stmt := PySem.Challenge.pw_standasked_k02_errors_by_hand.main.body.getD i (.Pass ⟨0, 0, 0, 0⟩)
def cl0 : List CnI := [("HIGHEST", (.int 65535)), ("MOST_LOCKS", (.int 3)), ("MOST_FLAGS", (.int 3)), ("MOST_FUNCTIONS", (.int 6)), ("MOST_INSTRUCTIONS", (.int 10)), ("MOST_WEIGHT", (.int 99)), ("WORDS", (.dict [((.str "work"), (.tuple [(.str "weight")])), ((.str "branch"), (.tuple [(.str "place")])), ((.str "jump"), (.tuple [(.str "place")])), ((.str "call"), (.tuple [(.str "function")])), ((.str "take"), (.tuple [(.str "lock")])), ((.str "free"), (.tuple [(.str "lock")])), ((.str "safe take"), (.tuple [(.str "lock")])), ((.str "raise"), (.tuple [(.str "flag")])), ((.str "lower"), (.tuple [(.str "flag")])), ((.str "if"), (.tuple [(.str "flag"), (.str "place")])), ((.str "ask"), (.tuple [])), ((.str "leave"), (.tuple [])), ((.str "stop"), (.tuple [])), ((.str "go"), (.tuple []))]))]
abbrev k_HIGHEST : Nat := 0
abbrev k_MOST_LOCKS : Nat := 1
abbrev k_MOST_FLAGS : Nat := 2
abbrev k_MOST_FUNCTIONS : Nat := 3
abbrev k_MOST_INSTRUCTIONS : Nat := 4
abbrev k_MOST_WEIGHT : Nat := 5
abbrev k_WORDS : Nat := 6
abbrev f_is_integer : Nat := 0
abbrev f_is_number : Nat := 1
abbrev f_is_between : Nat := 2
abbrev f_is_row : Nat := 3
abbrev f_number_ranges : Nat := 4
abbrev f_is_instruction : Nat := 5
abbrev f_is_function : Nat := 6
abbrev f_is_program : Nat := 7
abbrev f__law_open : Nat := 8
abbrev f__law_spread : Nat := 9
abbrev f__law_take : Nat := 10
abbrev f__law_one_each : Nat := 11
abbrev f__law_kinds : Nat := 12
def N_is_integer : List Str := ["thing"]
def b_is_integer : B := (.cons (.ret (.and (.cons (.isi (.nm 0) [.int] false) (.cons (.not (.isi (.nm 0) [.bool] false)) .nil)))) .nil)
def d_is_integer : He.DefD := ⟨("is_integer", none), "is_integer", "is_integer", defArgs (topS 14), defBody (topS 14), defScope (topS 14), [], []⟩
def N_is_number : List Str := ["thing"]
def b_is_number : B := (.cons (.ret (.and (.cons (.call f_is_integer (.cons (.nm 0) .nil)) (.cons (.ch .le .le (.lit (.int 0)) (.nm 0) (.cst 0)) .nil)))) .nil)
def d_is_number : He.DefD := ⟨("is_number", none), "is_number", "is_number", defArgs (topS 15), defBody (topS 15), defScope (topS 15), [], []⟩
def N_is_between : List Str := ["thing", "low", "high"]
def b_is_between : B := (.cons (.ret (.and (.cons (.call f_is_number (.cons (.nm 0) .nil)) (.cons (.ch .le .le (.nm 1) (.nm 0) (.nm 2)) .nil)))) .nil)
def d_is_between : He.DefD := ⟨("is_between", none), "is_between", "is_between", defArgs (topS 16), defBody (topS 16), defScope (topS 16), [], []⟩
def N_is_row : List Str := ["thing", "length"]
def b_is_row : B := (.cons (.ret (.and (.cons (.isi (.nm 0) [.tuple] false) (.cons (.cmp .eq (.bi .len (.nm 0)) (.nm 1)) .nil)))) .nil)
def d_is_row : He.DefD := ⟨("is_row", none), "is_row", "is_row", defArgs (topS 17), defBody (topS 17), defScope (topS 17), [], []⟩
def N_is_program : List Str := ["thing", "locks", "flags", "functions", "at"]
def c_is_program_0 : E := .lc (.call f_is_function (.cons (.nm 0) (.cons (.nm 4) .nil))) (.nm 4) (.r1 (.bi .len (.nm 3))) .nil [4]
def b_is_program : B := (.cons (.ife (.not (.call f_is_row (.cons (.nm 0) (.cons (.lit (.int 3)) .nil)))) (.cons (.ret (.lit (.bool false))) .nil) .nil) (.cons (.asg (.tup (.cons (.nm 1) (.cons (.nm 2) (.cons (.nm 3) .nil)))) (.nm 0)) (.cons (.ife (.or (.cons (.not (.call f_is_between (.cons (.nm 1) (.cons (.lit (.int 0)) (.cons (.cst 1) .nil))))) (.cons (.not (.call f_is_between (.cons (.nm 2) (.cons (.lit (.int 0)) (.cons (.cst 2) .nil))))) .nil))) (.cons (.ret (.lit (.bool false))) .nil) .nil) (.cons (.ife (.or (.cons (.not (.isi (.nm 3) [.tuple] false)) (.cons (.not (.ch .le .le (.lit (.int 1)) (.bi .len (.nm 3)) (.cst 3))) .nil))) (.cons (.ret (.lit (.bool false))) .nil) .nil) (.cons (.ret (.bi .all c_is_program_0)) .nil)))))
def d_is_program : He.DefD := ⟨("is_program", none), "is_program", "is_program", defArgs (topS 25), defBody (topS 25), defScope (topS 25), [], []⟩
def N_is_function : List Str := ["program", "at", "function", "ranges", "one"]
def c_is_function_0 : E := .lc (.call f_is_instruction (.cons (.nm 4) (.cons (.nm 3) .nil))) (.nm 4) (.sq (.nm 2)) .nil [4]
def b_is_function : B := (.cons (.asg (.nm 2) (.ix (.ix (.nm 0) (.lit (.int 2))) (.nm 1))) (.cons (.ife (.or (.cons (.not (.isi (.nm 2) [.tuple] false)) (.cons (.not (.ch .le .le (.lit (.int 1)) (.bi .len (.nm 2)) (.cst 4))) .nil))) (.cons (.ret (.lit (.bool false))) .nil) .nil) (.cons (.asg (.nm 3) (.call f_number_ranges (.cons (.nm 0) (.cons (.nm 1) .nil)))) (.cons (.ret (.bi .all c_is_function_0)) .nil))))
def d_is_function : He.DefD := ⟨("is_function", none), "is_function", "is_function", defArgs (topS 26), defBody (topS 26), defScope (topS 26), [], []⟩
def N_number_ranges : List Str := ["program", "at", "locks", "flags", "functions"]
def b_number_ranges : B := (.cons (.asg (.tup (.cons (.nm 2) (.cons (.nm 3) (.cons (.nm 4) .nil)))) (.nm 0)) (.cons (.ret (.dd ["weight", "place", "function", "lock", "flag"] (.cons (.tup (.cons (.lit (.int 1)) (.cons (.cst 5) .nil))) (.cons (.tup (.cons (.lit (.int 0)) (.cons (.bi .len (.ix (.nm 4) (.nm 1))) .nil))) (.cons (.tup (.cons (.bin .add (.nm 1) (.lit (.int 1))) (.cons (.bin .sub (.bi .len (.nm 4)) (.lit (.int 1))) .nil))) (.cons (.tup (.cons (.lit (.int 0)) (.cons (.bin .sub (.nm 2) (.lit (.int 1))) .nil))) (.cons (.tup (.cons (.lit (.int 0)) (.cons (.bin .sub (.nm 3) (.lit (.int 1))) .nil))) .nil))))))) .nil))
def d_number_ranges : He.DefD := ⟨("number_ranges", none), "number_ranges", "number_ranges", defArgs (topS 27), defBody (topS 27), defScope (topS 27), [], []⟩
def N_is_instruction : List Str := ["thing", "ranges", "word", "meanings", "number", "meaning", "low", "high"]
def lb_is_instruction_0 : B := (.cons (.asg (.tup (.cons (.nm 6) (.cons (.nm 7) .nil))) (.ix (.nm 1) (.nm 5))) (.cons (.ife (.not (.call f_is_between (.cons (.nm 4) (.cons (.nm 6) (.cons (.nm 7) .nil))))) (.cons (.ret (.lit (.bool false))) .nil) .nil) .nil))
def l_is_instruction_0 : S := .for (.tup (.cons (.nm 4) (.cons (.nm 5) .nil))) (.zip (.sl (.nm 0) (.yes (.lit (.int 1))) .no) (.nm 3)) lb_is_instruction_0
def b_is_instruction : B := (.cons (.ife (.or (.cons (.not (.isi (.nm 0) [.tuple] false)) (.cons (.not (.nm 0)) .nil))) (.cons (.ret (.lit (.bool false))) .nil) .nil) (.cons (.asg (.nm 2) (.ix (.nm 0) (.lit (.int 0)))) (.cons (.ife (.or (.cons (.not (.isi (.nm 2) [.str] false)) (.cons (.cin 6 (.nm 2) true) .nil))) (.cons (.ret (.lit (.bool false))) .nil) .nil) (.cons (.asg (.nm 3) (.cix 6 (.nm 2))) (.cons (.ife (.cmp .ne (.bi .len (.nm 0)) (.bin .add (.lit (.int 1)) (.bi .len (.nm 3)))) (.cons (.ret (.lit (.bool false))) .nil) .nil) (.cons l_is_instruction_0 (.cons (.ret (.lit (.bool true))) .nil)))))))
def d_is_instruction : He.DefD := ⟨("is_instruction", none), "is_instruction", "is_instruction", defArgs (topS 28), defBody (topS 28), defScope (topS 28), [], []⟩
def N__law_open : List Str := ["script", "cells", "k", "cell"]
def lb__law_open_0 : B := (.cons (.seti 1 (.bin .mod (.bi .int (.nm 2)) (.lit (.int 12))) (.bin .add (.ix (.nm 1) (.bin .mod (.bi .int (.nm 2)) (.lit (.int 12)))) (.nm 3))) .nil)
def l__law_open_0 : S := .for (.tup (.cons (.nm 2) (.cons (.nm 3) .nil))) (.enum (.sl (.nm 0) (.yes (.lit (.int 12))) (.yes (.lit (.int 63))))) lb__law_open_0
def b__law_open : B := (.cons (.asg (.nm 1) (.bi .list (.sl (.nm 0) .no (.yes (.lit (.int 12)))))) (.cons l__law_open_0 (.cons (.ret (.lst (.cons (.nm 1) (.cons (.lit (.int 0)) (.cons (.lit (.int 0)) .nil))))) .nil)))
def d__law_open : He.DefD := ⟨("_law_open", none), "_law_open", "_law_open", defArgs (topS 30), defBody (topS 30), defScope (topS 30), [], []⟩
def N__law_spread : List Str := ["cell", "at", "primes", "u", "v", "w"]
def b__law_spread : B := (.cons (.ife (.cmp .ge (.nm 0) (.bin .pow (.lit (.int 10)) (.lit (.int 18)))) (.cons (.ret (.nm 0)) .nil) .nil) (.cons (.asg (.nm 2) (.lst (.cons (.lit (.int 2147483629)) (.cons (.lit (.int 2147483587)) (.cons (.lit (.int 2147483579)) (.cons (.lit (.int 2147483563)) (.cons (.lit (.int 2147483549)) (.cons (.lit (.int 2147483543)) (.cons (.lit (.int 2147483497)) (.cons (.lit (.int 2147483489)) .nil)))))))))) (.cons (.asg (.nm 2) (.bin .add (.nm 2) (.lst (.cons (.lit (.int 2147483477)) (.cons (.lit (.int 2147483423)) (.cons (.lit (.int 2147483399)) (.cons (.lit (.int 2147483353)) (.cons (.lit (.int 2147483323)) .nil)))))))) (.cons (.asg (.nm 3) (.bin .add (.bin .add (.bin .mul (.bin .mod (.bi .int (.nm 0)) (.lit (.int 1000000007))) (.bin .add (.bin .mul (.lit (.int 2)) (.nm 1)) (.lit (.int 69069)))) (.bin .mul (.nm 1) (.lit (.int 40503)))) (.lit (.int 977)))) (.cons (.asg (.nm 3) (.bin .mod (.bi .int (.bin .pow (.nm 3) (.lit (.int 3)))) (.ix (.nm 2) (.bin .mod (.bi .int (.nm 1)) (.lit (.int 13)))))) (.cons (.asg (.nm 4) (.bin .mod (.bi .int (.bin .pow (.bin .add (.bin .add (.bin .mul (.nm 3) (.bin .add (.nm 1) (.lit (.int 3)))) (.bin .mod (.bi .int (.nm 0)) (.lit (.int 65537)))) (.lit (.int 5))) (.lit (.int 5)))) (.ix (.nm 2) (.bin .mod (.bi .int (.bin .add (.nm 1) (.lit (.int 5)))) (.lit (.int 13)))))) (.cons (.asg (.nm 5) (.bin .mod (.bi .int (.bin .pow (.bin .add (.bin .add (.nm 4) (.bin .mod (.bi .int (.nm 3)) (.lit (.int 1009)))) (.nm 1)) (.lit (.int 3)))) (.ix (.nm 2) (.bin .mod (.bi .int (.bin .add (.nm 1) (.lit (.int 7)))) (.lit (.int 13)))))) (.cons (.ret (.bin .add (.bin .mul (.bin .add (.bin .mul (.nm 3) (.lit (.int 2147483647))) (.nm 4)) (.lit (.int 2147483647))) (.nm 5))) .nil))))))))
def d__law_spread : He.DefD := ⟨("_law_spread", none), "_law_spread", "_law_spread", defArgs (topS 31), defBody (topS 31), defScope (topS 31), [], []⟩
def N__law_take : List Str := ["pen", "amount", "found", "at", "cell"]
def b__law_take : B := (.cons (.ife (.cmp .lt (.ix (.nm 0) (.lit (.int 2))) (.nm 1)) (.cons (.asg (.nm 3) (.ix (.nm 0) (.lit (.int 1)))) (.cons (.asg (.nm 4) (.lit (.int 0))) (.cons (.ife (.cmp .lt (.nm 3) (.bi .len (.ix (.nm 0) (.lit (.int 0))))) (.cons (.asg (.nm 4) (.ix (.ix (.nm 0) (.lit (.int 0))) (.nm 3))) .nil) (.cons (.ife (.cmp .gt (.bi .len (.ix (.nm 0) (.lit (.int 0)))) (.lit (.int 0))) (.cons (.asg (.nm 4) (.bin .mod (.bi .int (.ix (.ix (.nm 0) (.lit (.int 0))) (.bin .mod (.bi .int (.bin .add (.bin .mul (.nm 3) (.lit (.int 5))) (.lit (.int 3)))) (.bi .len (.ix (.nm 0) (.lit (.int 0))))))) (.bin .add (.bin .pow (.lit (.int 10)) (.lit (.int 17))) (.nm 3)))) .nil) .nil) .nil)) (.cons (.seti 0 (.lit (.int 1)) (.bin .add (.nm 3) (.lit (.int 1)))) (.cons (.seti 0 (.lit (.int 2)) (.call f__law_spread (.cons (.nm 4) (.cons (.nm 3) .nil)))) .nil))))) .nil) (.cons (.asg (.nm 2) (.bin .mod (.bi .int (.ix (.nm 0) (.lit (.int 2)))) (.nm 1))) (.cons (.seti 0 (.lit (.int 2)) (.bin .fdiv (.ix (.nm 0) (.lit (.int 2))) (.nm 1))) (.cons (.ret (.nm 2)) .nil))))
def d__law_take : He.DefD := ⟨("_law_take", none), "_law_take", "_law_take", defArgs (topS 32), defBody (topS 32), defScope (topS 32), [], []⟩
def N__law_one_each : List Str := ["text", "some"]
def b__law_one_each : B := (.cons (.asg (.nm 1) (.lst (.cons (.mkx "NoProgram" (.nm 0)) (.cons (.mkx "NoStarts" (.nm 0)) (.cons (.mkx "NoState" (.nm 0)) (.cons (.mkx "NoKept" (.nm 0)) (.cons (.mkx "NoPrices" (.nm 0)) (.cons (.mkx "NoNumber" (.nm 0)) .nil)))))))) (.cons (.ret (.bin .add (.nm 1) (.lst (.cons (.mkx "NoThread" (.nm 0)) (.cons (.mkx "NoPlace" (.nm 0)) (.cons (.mkx "NoMove" (.nm 0)) (.cons (.mkx "TooMany" (.nm 0)) .nil))))))) .nil))
def d__law_one_each : He.DefD := ⟨("_law_one_each", none), "_law_one_each", "_law_one_each", defArgs (topS 33), defBody (topS 33), defScope (topS 33), [], []⟩
def N__law_kinds : List Str := ["error", "some"]
def b__law_kinds : B := (.cons (.asg (.nm 1) (.lst (.cons (.isx (.nm 0) "NoProgram" [("NoProgram", true), ("NoStarts", false), ("NoState", false), ("NoKept", false), ("NoPrices", false), ("NoNumber", false), ("NoThread", false), ("NoPlace", false), ("NoMove", false), ("TooMany", false), ("StandError", false)]) (.cons (.isx (.nm 0) "NoStarts" [("NoProgram", false), ("NoStarts", true), ("NoState", false), ("NoKept", false), ("NoPrices", false), ("NoNumber", false), ("NoThread", false), ("NoPlace", false), ("NoMove", false), ("TooMany", false), ("StandError", false)]) (.cons (.isx (.nm 0) "NoState" [("NoProgram", false), ("NoStarts", false), ("NoState", true), ("NoKept", false), ("NoPrices", false), ("NoNumber", false), ("NoThread", false), ("NoPlace", false), ("NoMove", false), ("TooMany", false), ("StandError", false)]) .nil))))) (.cons (.asg (.nm 1) (.bin .add (.nm 1) (.lst (.cons (.isx (.nm 0) "NoKept" [("NoProgram", false), ("NoStarts", false), ("NoState", false), ("NoKept", true), ("NoPrices", false), ("NoNumber", false), ("NoThread", false), ("NoPlace", false), ("NoMove", false), ("TooMany", false), ("StandError", false)]) (.cons (.isx (.nm 0) "NoPrices" [("NoProgram", false), ("NoStarts", false), ("NoState", false), ("NoKept", false), ("NoPrices", true), ("NoNumber", false), ("NoThread", false), ("NoPlace", false), ("NoMove", false), ("TooMany", false), ("StandError", false)]) (.cons (.isx (.nm 0) "NoNumber" [("NoProgram", false), ("NoStarts", false), ("NoState", false), ("NoKept", false), ("NoPrices", false), ("NoNumber", true), ("NoThread", false), ("NoPlace", false), ("NoMove", false), ("TooMany", false), ("StandError", false)]) .nil)))))) (.cons (.asg (.nm 1) (.bin .add (.nm 1) (.lst (.cons (.isx (.nm 0) "NoThread" [("NoProgram", false), ("NoStarts", false), ("NoState", false), ("NoKept", false), ("NoPrices", false), ("NoNumber", false), ("NoThread", true), ("NoPlace", false), ("NoMove", false), ("TooMany", false), ("StandError", false)]) (.cons (.isx (.nm 0) "NoPlace" [("NoProgram", false), ("NoStarts", false), ("NoState", false), ("NoKept", false), ("NoPrices", false), ("NoNumber", false), ("NoThread", false), ("NoPlace", true), ("NoMove", false), ("TooMany", false), ("StandError", false)]) (.cons (.isx (.nm 0) "NoMove" [("NoProgram", false), ("NoStarts", false), ("NoState", false), ("NoKept", false), ("NoPrices", false), ("NoNumber", false), ("NoThread", false), ("NoPlace", false), ("NoMove", true), ("TooMany", false), ("StandError", false)]) .nil)))))) (.cons (.ret (.bin .add (.nm 1) (.lst (.cons (.isx (.nm 0) "TooMany" [("NoProgram", false), ("NoStarts", false), ("NoState", false), ("NoKept", false), ("NoPrices", false), ("NoNumber", false), ("NoThread", false), ("NoPlace", false), ("NoMove", false), ("TooMany", true), ("StandError", false)]) .nil)))) .nil))))
def d__law_kinds : He.DefD := ⟨("_law_kinds", none), "_law_kinds", "_law_kinds", defArgs (topS 34), defBody (topS 34), defScope (topS 34), [], []⟩
def N_law : List Str := ["script", "pen", "rows", "errors", "again", "k", "error", "index"]
def c_law_0 : E := .lc (.call f__law_one_each (.cons (.ix (.lst (.cons (.lit (.str "")) (.cons (.lit (.str "one")) (.cons (.lit (.str "two words")) .nil)))) (.call f__law_take (.cons (.nm 1) (.cons (.lit (.int 3)) .nil)))) .nil)) (.nm 4) (.r1 (.lit (.int 2))) .nil [4]
def c_law_1 : E := .lc (.cmp .eq (.nm 7) (.nm 5)) (.nm 7) (.r1 (.lit (.int 10))) .nil [7]
def lb_law_0 : B := (.cons (.ife (.or (.cons (.not (.isx (.nm 6) "StandError" [("NoProgram", true), ("NoStarts", true), ("NoState", true), ("NoKept", true), ("NoPrices", true), ("NoNumber", true), ("NoThread", true), ("NoPlace", true), ("NoMove", true), ("TooMany", true), ("StandError", true)])) (.cons (.not (.isx (.nm 6) "ValueError" [("NoProgram", true), ("NoStarts", true), ("NoState", true), ("NoKept", true), ("NoPrices", true), ("NoNumber", true), ("NoThread", true), ("NoPlace", true), ("NoMove", true), ("TooMany", true), ("StandError", true)])) .nil))) (.cons (.ret (.lit (.bool false))) .nil) .nil) (.cons (.ife (.cmp .ne (.call f__law_kinds (.cons (.nm 6) .nil)) c_law_1) (.cons (.ret (.lit (.bool false))) .nil) .nil) .nil))
def l_law_0 : S := .for (.tup (.cons (.nm 5) (.cons (.nm 6) .nil))) (.enum (.nm 3)) lb_law_0
def lb_law_1 : B := (.cons l_law_0 .nil)
def l_law_1 : S := .for (.nm 3) (.sq (.nm 2)) lb_law_1
def b_law : B := (.cons (.asg (.nm 1) (.call f__law_open (.cons (.nm 0) .nil))) (.cons (.asg (.nm 2) c_law_0) (.cons l_law_1 (.cons (.ife (.isB (.call f_is_program (.cons (.ix (.lst (.cons (.lit .none) (.cons (.tup .nil) (.cons (.lit (.str "text")) (.cons (.lst (.cons (.lit (.int 0)) .nil)) .nil))))) (.call f__law_take (.cons (.nm 1) (.cons (.lit (.int 4)) .nil)))) .nil)) false true) (.cons (.ret (.lit (.bool false))) .nil) .nil) (.cons (.ret (.and (.cons (.isx (.mkx "StandError" (.lit (.str "text"))) "ValueError" [("NoProgram", true), ("NoStarts", true), ("NoState", true), ("NoKept", true), ("NoPrices", true), ("NoNumber", true), ("NoThread", true), ("NoPlace", true), ("NoMove", true), ("TooMany", true), ("StandError", true)]) (.cons (.cmp .notIn (.lit (.bool true)) (.call f__law_kinds (.cons (.mkx "StandError" (.lit (.str "text"))) .nil))) .nil)))) .nil)))))
def d_law : He.DefD := ⟨("law", none), "law", "law", defArgs (topS 35), defBody (topS 35), defScope (topS 35), [], []⟩
def neverB : Nat → B
  | 0 => .nil
  | n + 1 => .cons .never (neverB n)
def i_is_integer : DefI := ⟨d_is_integer, ["thing"], N_is_integer, b_is_integer⟩
def i_is_number : DefI := ⟨d_is_number, ["thing"], N_is_number, b_is_number⟩
def i_is_between : DefI := ⟨d_is_between, ["thing", "low", "high"], N_is_between, b_is_between⟩
def i_is_row : DefI := ⟨d_is_row, ["thing", "length"], N_is_row, b_is_row⟩
def i_number_ranges : DefI := ⟨d_number_ranges, ["program", "at"], N_number_ranges, b_number_ranges⟩
def i_is_instruction : DefI := ⟨d_is_instruction, ["thing", "ranges"], N_is_instruction, b_is_instruction⟩
def i_is_function : DefI := ⟨d_is_function, ["program", "at"], N_is_function, b_is_function⟩
def i_is_program : DefI := ⟨d_is_program, ["thing"], N_is_program, b_is_program⟩
def i__law_open : DefI := ⟨d__law_open, ["script"], N__law_open, b__law_open⟩
def i__law_spread : DefI := ⟨d__law_spread, ["cell", "at"], N__law_spread, b__law_spread⟩
def i__law_take : DefI := ⟨d__law_take, ["pen", "amount"], N__law_take, b__law_take⟩
def i__law_one_each : DefI := ⟨d__law_one_each, ["text"], N__law_one_each, b__law_one_each⟩
def i__law_kinds : DefI := ⟨d__law_kinds, ["error"], N__law_kinds, b__law_kinds⟩
def ds0 : List DefI := [i_is_integer, i_is_number, i_is_between, i_is_row, i_number_ranges, i_is_instruction, i_is_function, i_is_program, i__law_open, i__law_spread, i__law_take, i__law_one_each, i__law_kinds]
def xi0 : XI := ⟨["NoProgram", "NoStarts", "NoState", "NoKept", "NoPrices", "NoNumber", "NoThread", "NoPlace", "NoMove", "TooMany", "StandError"], [("NoProgram", [("NoProgram", true), ("NoStarts", false), ("NoState", false), ("NoKept", false), ("NoPrices", false), ("NoNumber", false), ("NoThread", false), ("NoPlace", false), ("NoMove", false), ("TooMany", false), ("StandError", false)]), ("NoStarts", [("NoProgram", false), ("NoStarts", true), ("NoState", false), ("NoKept", false), ("NoPrices", false), ("NoNumber", false), ("NoThread", false), ("NoPlace", false), ("NoMove", false), ("TooMany", false), ("StandError", false)]), ("NoState", [("NoProgram", false), ("NoStarts", false), ("NoState", true), ("NoKept", false), ("NoPrices", false), ("NoNumber", false), ("NoThread", false), ("NoPlace", false), ("NoMove", false), ("TooMany", false), ("StandError", false)]), ("NoKept", [("NoProgram", false), ("NoStarts", false), ("NoState", false), ("NoKept", true), ("NoPrices", false), ("NoNumber", false), ("NoThread", false), ("NoPlace", false), ("NoMove", false), ("TooMany", false), ("StandError", false)]), ("NoPrices", [("NoProgram", false), ("NoStarts", false), ("NoState", false), ("NoKept", false), ("NoPrices", true), ("NoNumber", false), ("NoThread", false), ("NoPlace", false), ("NoMove", false), ("TooMany", false), ("StandError", false)]), ("NoNumber", [("NoProgram", false), ("NoStarts", false), ("NoState", false), ("NoKept", false), ("NoPrices", false), ("NoNumber", true), ("NoThread", false), ("NoPlace", false), ("NoMove", false), ("TooMany", false), ("StandError", false)]), ("NoThread", [("NoProgram", false), ("NoStarts", false), ("NoState", false), ("NoKept", false), ("NoPrices", false), ("NoNumber", false), ("NoThread", true), ("NoPlace", false), ("NoMove", false), ("TooMany", false), ("StandError", false)]), ("NoPlace", [("NoProgram", false), ("NoStarts", false), ("NoState", false), ("NoKept", false), ("NoPrices", false), ("NoNumber", false), ("NoThread", false), ("NoPlace", true), ("NoMove", false), ("TooMany", false), ("StandError", false)]), ("NoMove", [("NoProgram", false), ("NoStarts", false), ("NoState", false), ("NoKept", false), ("NoPrices", false), ("NoNumber", false), ("NoThread", false), ("NoPlace", false), ("NoMove", true), ("TooMany", false), ("StandError", false)]), ("TooMany", [("NoProgram", false), ("NoStarts", false), ("NoState", false), ("NoKept", false), ("NoPrices", false), ("NoNumber", false), ("NoThread", false), ("NoPlace", false), ("NoMove", false), ("TooMany", true), ("StandError", false)]), ("StandError", [("NoProgram", true), ("NoStarts", true), ("NoState", true), ("NoKept", true), ("NoPrices", true), ("NoNumber", true), ("NoThread", true), ("NoPlace", true), ("NoMove", true), ("TooMany", true), ("StandError", true)]), ("ValueError", [("NoProgram", true), ("NoStarts", true), ("NoState", true), ("NoKept", true), ("NoPrices", true), ("NoNumber", true), ("NoThread", true), ("NoPlace", true), ("NoMove", true), ("TooMany", true), ("StandError", true)])]⟩
def L0 : LawI := ⟨d_law, "script", N_law, b_law⟩

end Sm

set_option maxRecDepth 100000
set_option maxHeartbeats 4000000
namespace Sm
open PySem L2
/-! ### what the program's small defs do -/
abbrev rb (b : Bool) (os : List D) : Option (Out R × List D) := some (.ok (.d (.bool b)), os)
def isIntD : D → Bool
  | .int _ => true
  | _ => false
def isNumD : D → Bool
  | .int i => decide (0 ≤ i) && decide (i ≤ 65535)
  | _ => false
def btwD (d : D) (lo hi : Int) : Bool := match d with
  | .int i => (decide (0 ≤ i) && decide (i ≤ 65535)) && (decide (lo ≤ i) && decide (i ≤ hi))
  | _ => false
def isRowD (d : D) (n : Int) : Bool := match d with
  | .tuple xs => decide ((xs.length : Int) = n)
  | _ => false
section
variable {Φ : Nat → Spec} {cs : Nat → D} {W : Nat}
def S_is_integer (φ : Spec) : Prop := ∀ x, φ [.d x] = rb (isIntD x) []
def S_is_number (φ : Spec) : Prop := ∀ x, φ [.d x] = rb (isNumD x) []
def S_is_between (φ : Spec) : Prop := ∀ x lo hi, φ [.d x, .d (.int lo), .d (.int hi)] = rb (btwD x lo hi) []
def S_is_row (φ : Spec) : Prop := ∀ x n, φ [.d x, .d (.int n)] = rb (isRowD x n) []
theorem p_is_integer : S_is_integer (runFn 1 1 (evB Φ cs W b_is_integer)) := by
  intro x; cases x <;> rfl
theorem p_is_number (h0 : S_is_integer (Φ f_is_integer)) (h1 : cs 0 = .int 65535) : S_is_number (runFn 1 1 (evB Φ cs W b_is_number)) := by
  intro x
  have h0 := h0 x
  cases x with
  | int i => by_cases h : 0 ≤ i <;> simp [runFn, b_is_number, entry, slotOf, evB, evS, evE, evT, evX, both, M.bind, M.ret, M.opt, evAnd, evOr, evAndT, evOrT, evR, evA, evTs, evI, evO, nmM, rdM, frz, R.rd, R.hold, R.sv, runCall, argsOf, putOuts, putOwn, andM, orM, chM, noneR, isNM, isBM, cmpD, intsB, binD, addD, subD, mulD, fdivD, modD, powD, negD, ixD, slD, partD, fits, PySem.sizeLine_eq, lenD, biD, intD, seqD, boolsD, truD, isTy, asg, asgs, asg2, setAt, outsAt, R.out, r1D, r2D, zipD, enumD, lstAt, mutL, setF, h0, h1, isIntD, isNumD, h]
  | _ => simp [runFn, b_is_number, entry, slotOf, evB, evS, evE, evT, evX, both, M.bind, M.ret, M.opt, evAnd, evOr, evAndT, evOrT, evR, evA, evTs, evI, evO, nmM, rdM, frz, R.rd, R.hold, R.sv, runCall, argsOf, putOuts, putOwn, andM, orM, chM, noneR, isNM, isBM, cmpD, intsB, binD, addD, subD, mulD, fdivD, modD, powD, negD, ixD, slD, partD, fits, PySem.sizeLine_eq, lenD, biD, intD, seqD, boolsD, truD, isTy, asg, asgs, asg2, setAt, outsAt, R.out, r1D, r2D, zipD, enumD, lstAt, mutL, setF, h0, h1, isIntD, isNumD]
theorem p_is_between (h0 : S_is_number (Φ f_is_number)) : S_is_between (runFn 3 3 (evB Φ cs W b_is_between)) := by
  intro x lo hi
  have h0 := h0 x
  cases x with
  | int i =>
    by_cases h : (decide (0 ≤ i) && decide (i ≤ 65535)) = true
    · by_cases h2 : lo ≤ i <;> simp [runFn, b_is_between, entry, slotOf, evB, evS, evE, evT, evX, both, M.bind, M.ret, M.opt, evAnd, evOr, evAndT, evOrT, evR, evA, evTs, evI, evO, nmM, rdM, frz, R.rd, R.hold, R.sv, runCall, argsOf, putOuts, putOwn, andM, orM, chM, noneR, isNM, isBM, cmpD, intsB, binD, addD, subD, mulD, fdivD, modD, powD, negD, ixD, slD, partD, fits, PySem.sizeLine_eq, lenD, biD, intD, seqD, boolsD, truD, isTy, asg, asgs, asg2, setAt, outsAt, R.out, r1D, r2D, zipD, enumD, lstAt, mutL, setF, h0, isNumD, btwD, h, h2]
    · simp [runFn, b_is_between, entry, slotOf, evB, evS, evE, evT, evX, both, M.bind, M.ret, M.opt, evAnd, evOr, evAndT, evOrT, evR, evA, evTs, evI, evO, nmM, rdM, frz, R.rd, R.hold, R.sv, runCall, argsOf, putOuts, putOwn, andM, orM, chM, noneR, isNM, isBM, cmpD, intsB, binD, addD, subD, mulD, fdivD, modD, powD, negD, ixD, slD, partD, fits, PySem.sizeLine_eq, lenD, biD, intD, seqD, boolsD, truD, isTy, asg, asgs, asg2, setAt, outsAt, R.out, r1D, r2D, zipD, enumD, lstAt, mutL, setF, h0, isNumD, btwD, h]
  | _ => simp [runFn, b_is_between, entry, slotOf, evB, evS, evE, evT, evX, both, M.bind, M.ret, M.opt, evAnd, evOr, evAndT, evOrT, evR, evA, evTs, evI, evO, nmM, rdM, frz, R.rd, R.hold, R.sv, runCall, argsOf, putOuts, putOwn, andM, orM, chM, noneR, isNM, isBM, cmpD, intsB, binD, addD, subD, mulD, fdivD, modD, powD, negD, ixD, slD, partD, fits, PySem.sizeLine_eq, lenD, biD, intD, seqD, boolsD, truD, isTy, asg, asgs, asg2, setAt, outsAt, R.out, r1D, r2D, zipD, enumD, lstAt, mutL, setF, h0, isNumD, btwD]
theorem p_is_row : S_is_row (runFn 2 2 (evB Φ cs W b_is_row)) := by
  intro x n
  cases x <;> simp [runFn, b_is_row, entry, slotOf, evB, evS, evE, evT, evX, both, M.bind, M.ret, M.opt, evAnd, evOr, evAndT, evOrT, evR, evA, evTs, evI, evO, nmM, rdM, frz, R.rd, R.hold, R.sv, runCall, argsOf, putOuts, putOwn, andM, orM, chM, noneR, isNM, isBM, cmpD, intsB, binD, addD, subD, mulD, fdivD, modD, powD, negD, ixD, slD, partD, fits, PySem.sizeLine_eq, lenD, biD, intD, seqD, boolsD, truD, isTy, asg, asgs, asg2, setAt, outsAt, R.out, r1D, r2D, zipD, enumD, lstAt, mutL, setF, isRowD, eqD_int]
/-- the numbers of each meaning -/
def rangesD (locks flags size many own : Int) : D := .dict [(.str "weight", .tuple [.int 1, .int 99]), (.str "place", .tuple [.int 0, .int size]), (.str "function", .tuple [.int (own + 1), .int (many - 1)]),
  (.str "lock", .tuple [.int 0, .int (locks - 1)]), (.str "flag", .tuple [.int 0, .int (flags - 1)])]
def S_number_ranges (φ : Spec) : Prop := ∀ (l f : Int) (fs : List D) (at_ : Nat) (body : List D), fs[at_]? = some (.tuple body) →
  φ [.d (.tuple [.int l, .int f, .tuple fs]), .d (.int at_)] = some (.ok (.new (rangesD l f body.length fs.length at_)), [])
theorem p_number_ranges (h1 : cs 5 = .int 99) : S_number_ranges (runFn 2 5 (evB Φ cs W b_number_ranges)) := by
  intro l f fs at_ body hb
  have h2 : atI fs (at_ : Int) = some (.tuple body) := atI_nat hb
  simp [runFn, b_number_ranges, entry, slotOf, evB, evS, evE, evT, evX, both, M.bind, M.ret, M.opt, evAnd, evOr, evAndT, evOrT, evR, evA, evTs, evI, evO, nmM, rdM, frz, R.rd, R.hold, R.sv, runCall, argsOf, putOuts, putOwn, andM, orM, chM, noneR, isNM, isBM, cmpD, intsB, binD, addD, subD, mulD, fdivD, modD, powD, negD, ixD, slD, partD, fits, PySem.sizeLine_eq, lenD, biD, intD, seqD, boolsD, truD, isTy, asg, asgs, asg2, setAt, outsAt, R.out, r1D, r2D, zipD, enumD, lstAt, mutL, setF, h1, h2, asgs, zipK, rangesD]
end
end Sm

set_option maxRecDepth 100000
set_option maxHeartbeats 4000000
namespace Sm
open PySem L2
/-! ### instructions -/
def wordsD : D := .dict [(.str "work", .tuple [.str "weight"]), (.str "branch", .tuple [.str "place"]), (.str "jump", .tuple [.str "place"]), (.str "call", .tuple [.str "function"]), (.str "take", .tuple [.str "lock"]), (.str "free", .tuple [.str "lock"]), (.str "safe take", .tuple [.str "lock"]), (.str "raise", .tuple [.str "flag"]), (.str "lower", .tuple [.str "flag"]), (.str "if", .tuple [.str "flag", .str "place"]), (.str "ask", .tuple []), (.str "leave", .tuple []), (.str "stop", .tuple []), (.str "go", .tuple [])]
def wordsK : List (D × D) := match wordsD with | .dict k => k | _ => []
def isOneD (l f size many own : Int) (one : D) : Bool := match one with
  | .tuple (.str w :: args) =>
    if w = "ask" ∨ w = "leave" ∨ w = "stop" ∨ w = "go" then args.isEmpty
    else if w = "if" then (match args with | [a, b] => btwD a 0 (f - 1) && btwD b 0 size | _ => false)
    else (match args with
      | [a] => if w = "work" then btwD a 1 99 else if w = "branch" ∨ w = "jump" then btwD a 0 size else if w = "call" then btwD a (own + 1) (many - 1)
        else if w = "take" ∨ w = "free" ∨ w = "safe take" then btwD a 0 (l - 1) else if w = "raise" ∨ w = "lower" then btwD a 0 (f - 1) else false
      | _ => false)
  | _ => false
theorem cut_from1 (x : D) (t : List D) : cutD (x :: t) (some 1) none = t := by
  unfold cutD
  have h1 : HT.sIx (x :: t).length 0 (some 1) = 1 := by
    simp [HT.sIx]
    try omega
  have h2 : HT.sIx (x :: t).length (x :: t).length none = (x :: t).length := by
    simp [HT.sIx]
  rw [h1, h2]
  simp
/-- the meanings of a word, none of what is no word -/
inductive WordCase (w : Str) : Prop where
  | one (m : Str) (h : dget wordsK (.inr w) = some (.tuple [.str m])) (hm : (w = "work" ∧ m = "weight") ∨ ((w = "branch" ∨ w = "jump") ∧ m = "place") ∨ (w = "call" ∧ m = "function") ∨ ((w = "take" ∨ w = "free" ∨ w = "safe take") ∧ m = "lock") ∨ ((w = "raise" ∨ w = "lower") ∧ m = "flag"))
  | two (h : dget wordsK (.inr w) = some (.tuple [.str "flag", .str "place"])) (hm : w = "if")
  | zero (h : dget wordsK (.inr w) = some (.tuple [])) (hm : w = "ask" ∨ w = "leave" ∨ w = "stop" ∨ w = "go")
  | no (h : dget wordsK (.inr w) = none) (hm : ∀ x ∈ (["work", "branch", "jump", "call", "take", "free", "safe take", "raise", "lower", "if", "ask", "leave", "stop", "go"] : List Str), w ≠ x)
theorem dget_miss {q : Str} : ∀ {kvs : List (D × D)} {ks : List Str}, kvs.map (·.1) = ks.map .str → (∀ x ∈ ks, q ≠ x) → dget kvs (.inr q) = none
  | [], _, _, _ => rfl
  | (k, v) :: r, [], h, _ => by cases h
  | (k, v) :: r, x :: ks, h, n => by
    simp only [List.map_cons, List.cons.injEq] at h
    obtain ⟨rfl, h⟩ := h
    have hx : kEqD (.str x) (.inr q) = false := decide_eq_false fun e => n x List.mem_cons_self e.symm
    simp only [dget, hx, Bool.false_eq_true, if_false]
    exact dget_miss h fun y hy => n y (List.mem_cons_of_mem _ hy)
theorem wordCase (w : Str) : WordCase w := by
  by_cases h : w ∈ (["work", "branch", "jump", "call", "take", "free", "safe take", "raise", "lower", "if", "ask", "leave", "stop", "go"] : List Str)
  · simp only [List.mem_cons, List.not_mem_nil, or_false] at h
    rcases h with h | h | h | h | h | h | h | h | h | h | h | h | h | h <;> subst h
    · exact .one "weight" rfl (by simp)
    · exact .one "place" rfl (by simp)
    · exact .one "place" rfl (by simp)
    · exact .one "function" rfl (by simp)
    · exact .one "lock" rfl (by simp)
    · exact .one "lock" rfl (by simp)
    · exact .one "lock" rfl (by simp)
    · exact .one "flag" rfl (by simp)
    · exact .one "flag" rfl (by simp)
    · exact .two rfl rfl
    · exact .zero rfl (by simp)
    · exact .zero rfl (by simp)
    · exact .zero rfl (by simp)
    · exact .zero rfl (by simp)
  · exact .no (dget_miss (ks := ["work", "branch", "jump", "call", "take", "free", "safe take", "raise", "lower", "if", "ask", "leave", "stop", "go"]) rfl fun x hx e => h (e ▸ hx)) fun x hx e => h (e ▸ hx)
end Sm

set_option maxRecDepth 100000
set_option maxHeartbeats 4000000
namespace Sm
open PySem L2
section
variable {Φ : Nat → Spec} {cs : Nat → D} {W : Nat}
def S_is_instruction (φ : Spec) : Prop := ∀ (one : D) (l f size many own : Int), φ [.d one, .bor (rangesD l f size many own)] = rb (isOneD l f size many own one) [rangesD l f size many own]
theorem isOne_one {l f size many own : Int} {w m : Str} {t : List D} (hm : (w = "work" ∧ m = "weight") ∨ ((w = "branch" ∨ w = "jump") ∧ m = "place") ∨ (w = "call" ∧ m = "function") ∨ ((w = "take" ∨ w = "free" ∨ w = "safe take") ∧ m = "lock") ∨ ((w = "raise" ∨ w = "lower") ∧ m = "flag")) :
    ∃ lo hi, ixD (rangesD l f size many own) (.str m) = some (.tuple [.int lo, .int hi]) ∧ isOneD l f size many own (.tuple (.str w :: t)) = (match t with | [a] => btwD a lo hi | _ => false) := by
  rcases hm with ⟨rfl, rfl⟩ | ⟨rfl | rfl, rfl⟩ | ⟨rfl, rfl⟩ | ⟨rfl | rfl | rfl, rfl⟩ | ⟨rfl | rfl, rfl⟩
  all_goals exact ⟨_, _, rfl, by cases t with | nil => rfl | cons a r => cases r <;> rfl⟩
theorem isOne_zero {l f size many own : Int} {w : Str} {t : List D} (hm : w = "ask" ∨ w = "leave" ∨ w = "stop" ∨ w = "go") : isOneD l f size many own (.tuple (.str w :: t)) = t.isEmpty := by
  rcases hm with rfl | rfl | rfl | rfl <;> rfl
theorem isOne_two {l f size many own : Int} {t : List D} : isOneD l f size many own (.tuple (.str "if" :: t)) = (match t with | [a, b] => btwD a 0 (f - 1) && btwD b 0 size | _ => false) := rfl
theorem isOne_no {l f size many own : Int} {w : Str} {t : List D} (hm : ∀ x ∈ (["work", "branch", "jump", "call", "take", "free", "safe take", "raise", "lower", "if", "ask", "leave", "stop", "go"] : List Str), w ≠ x) : isOneD l f size many own (.tuple (.str w :: t)) = false := by
  have h1 := hm "work" (by simp)
  have h2 := hm "branch" (by simp)
  have h3 := hm "jump" (by simp)
  have h4 := hm "call" (by simp)
  have h5 := hm "take" (by simp)
  have h6 := hm "free" (by simp)
  have h7 := hm "safe take" (by simp)
  have h8 := hm "raise" (by simp)
  have h9 := hm "lower" (by simp)
  have h10 := hm "if" (by simp)
  have h11 := hm "ask" (by simp)
  have h12 := hm "leave" (by simp)
  have h13 := hm "stop" (by simp)
  have h14 := hm "go" (by simp)
  simp only [isOneD, h1, h2, h3, h4, h5, h6, h7, h8, h9, h10, h11, h12, h13, h14, or_self, if_false]
  cases t with
  | nil => rfl
  | cons a r => cases r <;> rfl
theorem p_is_instruction (h0 : S_is_between (Φ f_is_between)) (h6 : cs 6 = wordsD) : S_is_instruction (runFn 2 8 (evB Φ cs W b_is_instruction)) := by
  intro one l f size many own
  obtain ⟨rk, er⟩ : ∃ rk, rangesD l f size many own = .dict rk := ⟨_, rfl⟩
  have hw : wordsD = .dict wordsK := rfl
  cases one with
  | tuple xs =>
    cases xs with
    | nil => simp [runFn, b_is_instruction, l_is_instruction_0, lb_is_instruction_0, entry, slotOf, evB, evS, evE, evT, evX, both, M.bind, M.ret, M.opt, evAnd, evOr, evAndT, evOrT, evR, evA, evTs, evI, evO, nmM, rdM, frz, R.rd, R.hold, R.sv, runCall, argsOf, putOuts, putOwn, andM, orM, chM, noneR, isNM, isBM, cmpD, intsB, binD, addD, subD, mulD, fdivD, modD, powD, negD, ixD, slD, partD, fits, PySem.sizeLine_eq, lenD, biD, intD, seqD, boolsD, truD, isTy, asg, asgs, asg2, setAt, outsAt, R.out, r1D, r2D, zipD, enumD, lstAt, mutL, setF, isOneD]
    | cons h t =>
      have hat : atI (h :: t) 0 = some h := atI_nat (j := 0) rfl
      cases h with
      | str w =>
        cases wordCase w with
        | no hg hm => simp [runFn, b_is_instruction, l_is_instruction_0, lb_is_instruction_0, entry, slotOf, evB, evS, evE, evT, evX, both, M.bind, M.ret, M.opt, evAnd, evOr, evAndT, evOrT, evR, evA, evTs, evI, evO, nmM, rdM, frz, R.rd, R.hold, R.sv, runCall, argsOf, putOuts, putOwn, andM, orM, chM, noneR, isNM, isBM, cmpD, intsB, binD, addD, subD, mulD, fdivD, modD, powD, negD, ixD, slD, partD, fits, PySem.sizeLine_eq, lenD, biD, intD, seqD, boolsD, truD, isTy, asg, asgs, asg2, setAt, outsAt, R.out, r1D, r2D, zipD, enumD, lstAt, mutL, setF, hat, h6, hw, cinD, cixD, hg, isOne_no hm]
        | zero hg hm =>
          rw [isOne_zero hm]
          cases t with
          | nil => simp [runFn, b_is_instruction, l_is_instruction_0, lb_is_instruction_0, entry, slotOf, evB, evS, evE, evT, evX, both, M.bind, M.ret, M.opt, evAnd, evOr, evAndT, evOrT, evR, evA, evTs, evI, evO, nmM, rdM, frz, R.rd, R.hold, R.sv, runCall, argsOf, putOuts, putOwn, andM, orM, chM, noneR, isNM, isBM, cmpD, intsB, binD, addD, subD, mulD, fdivD, modD, powD, negD, ixD, slD, partD, fits, PySem.sizeLine_eq, lenD, biD, intD, seqD, boolsD, truD, isTy, asg, asgs, asg2, setAt, outsAt, R.out, r1D, r2D, zipD, enumD, lstAt, mutL, setF, hat, h6, hw, cinD, cixD, hg, neD_int, forL, pairs, cut_from1]
          | cons a r =>
            have hl : ¬ ((r.length : Int) + 1 + 1 = 1) := by omega
            simp [runFn, b_is_instruction, l_is_instruction_0, lb_is_instruction_0, entry, slotOf, evB, evS, evE, evT, evX, both, M.bind, M.ret, M.opt, evAnd, evOr, evAndT, evOrT, evR, evA, evTs, evI, evO, nmM, rdM, frz, R.rd, R.hold, R.sv, runCall, argsOf, putOuts, putOwn, andM, orM, chM, noneR, isNM, isBM, cmpD, intsB, binD, addD, subD, mulD, fdivD, modD, powD, negD, ixD, slD, partD, fits, PySem.sizeLine_eq, lenD, biD, intD, seqD, boolsD, truD, isTy, asg, asgs, asg2, setAt, outsAt, R.out, r1D, r2D, zipD, enumD, lstAt, mutL, setF, hat, h6, hw, cinD, cixD, hg, neD_int, forL, pairs, cut_from1, hl]
        | one m hg hm =>
          obtain ⟨lo, hi, hx, ho⟩ := isOne_one (l := l) (f := f) (size := size) (many := many) (own := own) (t := t) hm
          rw [ho]
          rw [er] at hx ⊢
          have hx : dget rk (.inr m) = some (.tuple [.int lo, .int hi]) := hx
          cases t with
          | nil => simp [runFn, b_is_instruction, l_is_instruction_0, lb_is_instruction_0, entry, slotOf, evB, evS, evE, evT, evX, both, M.bind, M.ret, M.opt, evAnd, evOr, evAndT, evOrT, evR, evA, evTs, evI, evO, nmM, rdM, frz, R.rd, R.hold, R.sv, runCall, argsOf, putOuts, putOwn, andM, orM, chM, noneR, isNM, isBM, cmpD, intsB, binD, addD, subD, mulD, fdivD, modD, powD, negD, ixD, slD, partD, fits, PySem.sizeLine_eq, lenD, biD, intD, seqD, boolsD, truD, isTy, asg, asgs, asg2, setAt, outsAt, R.out, r1D, r2D, zipD, enumD, lstAt, mutL, setF, hat, h6, hw, cinD, cixD, hg, neD_int]
          | cons a r =>
            cases r with
            | nil =>
              have hb := h0 a lo hi
              cases q : btwD a lo hi <;> rw [q] at hb <;> simp [runFn, b_is_instruction, l_is_instruction_0, lb_is_instruction_0, entry, slotOf, evB, evS, evE, evT, evX, both, M.bind, M.ret, M.opt, evAnd, evOr, evAndT, evOrT, evR, evA, evTs, evI, evO, nmM, rdM, frz, R.rd, R.hold, R.sv, runCall, argsOf, putOuts, putOwn, andM, orM, chM, noneR, isNM, isBM, cmpD, intsB, binD, addD, subD, mulD, fdivD, modD, powD, negD, ixD, slD, partD, fits, PySem.sizeLine_eq, lenD, biD, intD, seqD, boolsD, truD, isTy, asg, asgs, asg2, setAt, outsAt, R.out, r1D, r2D, zipD, enumD, lstAt, mutL, setF, hat, h6, hw, cinD, cixD, hg, neD_int, forL, pairs, cut_from1, asgs, q, hb, hx]
            | cons b r =>
              have hl : ¬ ((r.length : Int) + 1 + 1 + 1 = 2) := by omega
              simp [runFn, b_is_instruction, l_is_instruction_0, lb_is_instruction_0, entry, slotOf, evB, evS, evE, evT, evX, both, M.bind, M.ret, M.opt, evAnd, evOr, evAndT, evOrT, evR, evA, evTs, evI, evO, nmM, rdM, frz, R.rd, R.hold, R.sv, runCall, argsOf, putOuts, putOwn, andM, orM, chM, noneR, isNM, isBM, cmpD, intsB, binD, addD, subD, mulD, fdivD, modD, powD, negD, ixD, slD, partD, fits, PySem.sizeLine_eq, lenD, biD, intD, seqD, boolsD, truD, isTy, asg, asgs, asg2, setAt, outsAt, R.out, r1D, r2D, zipD, enumD, lstAt, mutL, setF, hat, h6, hw, cinD, cixD, hg, neD_int, hl]
        | two hg hm =>
          subst hm
          rw [isOne_two]
          have hx1 : dget rk (.inr "flag") = some (.tuple [.int 0, .int (f - 1)]) := by cases er; rfl
          have hx2 : dget rk (.inr "place") = some (.tuple [.int 0, .int size]) := by cases er; rfl
          rw [er]
          cases t with
          | nil => simp [runFn, b_is_instruction, l_is_instruction_0, lb_is_instruction_0, entry, slotOf, evB, evS, evE, evT, evX, both, M.bind, M.ret, M.opt, evAnd, evOr, evAndT, evOrT, evR, evA, evTs, evI, evO, nmM, rdM, frz, R.rd, R.hold, R.sv, runCall, argsOf, putOuts, putOwn, andM, orM, chM, noneR, isNM, isBM, cmpD, intsB, binD, addD, subD, mulD, fdivD, modD, powD, negD, ixD, slD, partD, fits, PySem.sizeLine_eq, lenD, biD, intD, seqD, boolsD, truD, isTy, asg, asgs, asg2, setAt, outsAt, R.out, r1D, r2D, zipD, enumD, lstAt, mutL, setF, hat, h6, hw, cinD, cixD, hg, neD_int]
          | cons a r =>
            cases r with
            | nil => simp [runFn, b_is_instruction, l_is_instruction_0, lb_is_instruction_0, entry, slotOf, evB, evS, evE, evT, evX, both, M.bind, M.ret, M.opt, evAnd, evOr, evAndT, evOrT, evR, evA, evTs, evI, evO, nmM, rdM, frz, R.rd, R.hold, R.sv, runCall, argsOf, putOuts, putOwn, andM, orM, chM, noneR, isNM, isBM, cmpD, intsB, binD, addD, subD, mulD, fdivD, modD, powD, negD, ixD, slD, partD, fits, PySem.sizeLine_eq, lenD, biD, intD, seqD, boolsD, truD, isTy, asg, asgs, asg2, setAt, outsAt, R.out, r1D, r2D, zipD, enumD, lstAt, mutL, setF, hat, h6, hw, cinD, cixD, hg, neD_int]
            | cons b r =>
              cases r with
              | nil =>
                have hb := h0 a 0 (f - 1)
                have hb2 := h0 b 0 size
                cases q : btwD a 0 (f - 1) <;> rw [q] at hb <;> cases q2 : btwD b 0 size <;> rw [q2] at hb2 <;>
                  simp [runFn, b_is_instruction, l_is_instruction_0, lb_is_instruction_0, entry, slotOf, evB, evS, evE, evT, evX, both, M.bind, M.ret, M.opt, evAnd, evOr, evAndT, evOrT, evR, evA, evTs, evI, evO, nmM, rdM, frz, R.rd, R.hold, R.sv, runCall, argsOf, putOuts, putOwn, andM, orM, chM, noneR, isNM, isBM, cmpD, intsB, binD, addD, subD, mulD, fdivD, modD, powD, negD, ixD, slD, partD, fits, PySem.sizeLine_eq, lenD, biD, intD, seqD, boolsD, truD, isTy, asg, asgs, asg2, setAt, outsAt, R.out, r1D, r2D, zipD, enumD, lstAt, mutL, setF, hat, h6, hw, cinD, cixD, hg, neD_int, forL, pairs, cut_from1, asgs, q, hb, q2, hb2, hx1, hx2]
              | cons c r =>
                have hl : ¬ ((r.length : Int) + 1 + 1 + 1 + 1 = 3) := by omega
                simp [runFn, b_is_instruction, l_is_instruction_0, lb_is_instruction_0, entry, slotOf, evB, evS, evE, evT, evX, both, M.bind, M.ret, M.opt, evAnd, evOr, evAndT, evOrT, evR, evA, evTs, evI, evO, nmM, rdM, frz, R.rd, R.hold, R.sv, runCall, argsOf, putOuts, putOwn, andM, orM, chM, noneR, isNM, isBM, cmpD, intsB, binD, addD, subD, mulD, fdivD, modD, powD, negD, ixD, slD, partD, fits, PySem.sizeLine_eq, lenD, biD, intD, seqD, boolsD, truD, isTy, asg, asgs, asg2, setAt, outsAt, R.out, r1D, r2D, zipD, enumD, lstAt, mutL, setF, hat, h6, hw, cinD, cixD, hg, neD_int, hl]
      | _ => simp [runFn, b_is_instruction, l_is_instruction_0, lb_is_instruction_0, entry, slotOf, evB, evS, evE, evT, evX, both, M.bind, M.ret, M.opt, evAnd, evOr, evAndT, evOrT, evR, evA, evTs, evI, evO, nmM, rdM, frz, R.rd, R.hold, R.sv, runCall, argsOf, putOuts, putOwn, andM, orM, chM, noneR, isNM, isBM, cmpD, intsB, binD, addD, subD, mulD, fdivD, modD, powD, negD, ixD, slD, partD, fits, PySem.sizeLine_eq, lenD, biD, intD, seqD, boolsD, truD, isTy, asg, asgs, asg2, setAt, outsAt, R.out, r1D, r2D, zipD, enumD, lstAt, mutL, setF, hat, isOneD]
  | _ => simp [runFn, b_is_instruction, l_is_instruction_0, lb_is_instruction_0, entry, slotOf, evB, evS, evE, evT, evX, both, M.bind, M.ret, M.opt, evAnd, evOr, evAndT, evOrT, evR, evA, evTs, evI, evO, nmM, rdM, frz, R.rd, R.hold, R.sv, runCall, argsOf, putOuts, putOwn, andM, orM, chM, noneR, isNM, isBM, cmpD, intsB, binD, addD, subD, mulD, fdivD, modD, powD, negD, ixD, slD, partD, fits, PySem.sizeLine_eq, lenD, biD, intD, seqD, boolsD, truD, isTy, asg, asgs, asg2, setAt, outsAt, R.out, r1D, r2D, zipD, enumD, lstAt, mutL, setF, isOneD]
end
end Sm

set_option maxRecDepth 100000
set_option maxHeartbeats 4000000
namespace Sm
open PySem L2
section
variable {Φ : Nat → Spec} {cs : Nat → D} {W : Nat}
theorem boolsD_map {α : Type} (p : α → Bool) : ∀ xs : List α, boolsD (xs.map fun x => .bool (p x)) = some (xs.map p)
  | [] => rfl
  | x :: xs => by simp only [List.map_cons, boolsD, boolsD_map p xs, Option.map_some]
def isFnD (l f : Int) (fs : List D) (own : Int) (d : D) : Bool := match d with
  | .tuple body => (decide (1 ≤ body.length) && decide (body.length ≤ 10)) && body.all (isOneD l f body.length fs.length own)
  | _ => false
def S_is_function (φ : Spec) : Prop := ∀ (l f : Int) (fs : List D) (at_ : Nat) (d : D), fs[at_]? = some d → φ [.d (.tuple [.int l, .int f, .tuple fs]), .d (.int at_)] = rb (isFnD l f fs at_ d) []
theorem lc_is_function (h : S_is_instruction (Φ f_is_instruction)) {v0 v1 v4 : Option SV} {body : List D} {l f size many own : Int} (hz : body.length ≤ 10) (h4 : ∀ x, v4 ≠ some (.own x true)) :
    (evX Φ cs c_is_function_0).1 [v0, v1, some (.d (.tuple body)), some (.own (rangesD l f size many own) false), v4] =
      some (.ok (.new (.list (body.map fun x => .bool (isOneD l f size many own x)))), [v0, v1, some (.d (.tuple body)), some (.own (rangesD l f size many own) false), v4]) := by
  have harg : isArg [v0, v1, some (.d (.tuple body)), some (.own (rangesD l f size many own) false), v4] 4 = false := by
    unfold isArg
    cases v4 with
    | none => rfl
    | some sv => cases sv with
      | own x b => cases b with
        | true => exact absurd rfl (h4 x)
        | false => rfl
      | _ => rfl
  unfold c_is_function_0
  refine lc_map (fun x => .bool (isOneD l f size many own x)) (ds := body) ?_ (fun x _ => ?_) (by omega)
  · simp [evB, evS, evE, evT, evX, both, M.bind, M.ret, M.opt, evAnd, evOr, evAndT, evOrT, evR, evA, evTs, evI, evO, nmM, rdM, frz, R.rd, R.hold, R.sv, runCall, argsOf, putOuts, putOwn, andM, orM, chM, noneR, isNM, isBM, cmpD, intsB, binD, addD, subD, mulD, fdivD, modD, powD, negD, ixD, slD, partD, fits, PySem.sizeLine_eq, lenD, biD, intD, seqD, boolsD, truD, isTy, asg, asgs, asg2, setAt, outsAt, R.out, r1D, r2D, zipD, enumD, lstAt, mutL, setF]
  · have hx := h x l f size many own
    simp [turn1, wipeE, unwipe, harg, evB, evS, evE, evT, evX, both, M.bind, M.ret, M.opt, evAnd, evOr, evAndT, evOrT, evR, evA, evTs, evI, evO, nmM, rdM, frz, R.rd, R.hold, R.sv, runCall, argsOf, putOuts, putOwn, andM, orM, chM, noneR, isNM, isBM, cmpD, intsB, binD, addD, subD, mulD, fdivD, modD, powD, negD, ixD, slD, partD, fits, PySem.sizeLine_eq, lenD, biD, intD, seqD, boolsD, truD, isTy, asg, asgs, asg2, setAt, outsAt, R.out, r1D, r2D, zipD, enumD, lstAt, mutL, setF, hx]
theorem p_is_function (h : S_is_instruction (Φ f_is_instruction)) (hr : S_number_ranges (Φ f_number_ranges)) (h4 : cs 4 = .int 10) : S_is_function (runFn 2 5 (evB Φ cs W b_is_function)) := by
  intro l f fs at_ d hd
  have hat : atI fs (at_ : Int) = some d := atI_nat hd
  have h2 : atI [PyData.int l, .int f, .tuple fs] 2 = some (.tuple fs) := atI_nat (j := 2) rfl
  cases d with
  | tuple body =>
    have hr := hr l f fs at_ body hd
    by_cases c : 1 ≤ body.length
    · by_cases c2 : body.length ≤ 10
      · have hl := lc_is_function (Φ := Φ) (cs := cs) h (v0 := some (.d (.tuple [.int l, .int f, .tuple fs]))) (v1 := some (.d (.int at_))) (v4 := none) (body := body) (l := l) (f := f) (size := body.length) (many := fs.length) (own := at_) c2 (fun x z => by cases z)
        have e1 : (1 : Int) ≤ body.length := by omega
        have e2 : (body.length : Int) ≤ 10 := by omega
        simp [runFn, b_is_function, entry, slotOf, evB, evS, evE, evT, evX, both, M.bind, M.ret, M.opt, evAnd, evOr, evAndT, evOrT, evR, evA, evTs, evI, evO, nmM, rdM, frz, R.rd, R.hold, R.sv, runCall, argsOf, putOuts, putOwn, andM, orM, chM, noneR, isNM, isBM, cmpD, intsB, binD, addD, subD, mulD, fdivD, modD, powD, negD, ixD, slD, partD, fits, PySem.sizeLine_eq, lenD, biD, intD, seqD, boolsD, truD, isTy, asg, asgs, asg2, setAt, outsAt, R.out, r1D, r2D, zipD, enumD, lstAt, mutL, setF, h2, hat, h4, hr, e1, e2, hl, boolsD_map, isFnD, c, c2]
      · have e1 : (1 : Int) ≤ body.length := by omega
        have e2 : ¬ (body.length : Int) ≤ 10 := by omega
        simp [runFn, b_is_function, entry, slotOf, evB, evS, evE, evT, evX, both, M.bind, M.ret, M.opt, evAnd, evOr, evAndT, evOrT, evR, evA, evTs, evI, evO, nmM, rdM, frz, R.rd, R.hold, R.sv, runCall, argsOf, putOuts, putOwn, andM, orM, chM, noneR, isNM, isBM, cmpD, intsB, binD, addD, subD, mulD, fdivD, modD, powD, negD, ixD, slD, partD, fits, PySem.sizeLine_eq, lenD, biD, intD, seqD, boolsD, truD, isTy, asg, asgs, asg2, setAt, outsAt, R.out, r1D, r2D, zipD, enumD, lstAt, mutL, setF, h2, hat, h4, e1, e2, isFnD, c, c2]
    · have e1 : ¬ (1 : Int) ≤ body.length := by omega
      simp [runFn, b_is_function, entry, slotOf, evB, evS, evE, evT, evX, both, M.bind, M.ret, M.opt, evAnd, evOr, evAndT, evOrT, evR, evA, evTs, evI, evO, nmM, rdM, frz, R.rd, R.hold, R.sv, runCall, argsOf, putOuts, putOwn, andM, orM, chM, noneR, isNM, isBM, cmpD, intsB, binD, addD, subD, mulD, fdivD, modD, powD, negD, ixD, slD, partD, fits, PySem.sizeLine_eq, lenD, biD, intD, seqD, boolsD, truD, isTy, asg, asgs, asg2, setAt, outsAt, R.out, r1D, r2D, zipD, enumD, lstAt, mutL, setF, h2, hat, h4, e1, isFnD, c]
  | _ => simp [runFn, b_is_function, entry, slotOf, evB, evS, evE, evT, evX, both, M.bind, M.ret, M.opt, evAnd, evOr, evAndT, evOrT, evR, evA, evTs, evI, evO, nmM, rdM, frz, R.rd, R.hold, R.sv, runCall, argsOf, putOuts, putOwn, andM, orM, chM, noneR, isNM, isBM, cmpD, intsB, binD, addD, subD, mulD, fdivD, modD, powD, negD, ixD, slD, partD, fits, PySem.sizeLine_eq, lenD, biD, intD, seqD, boolsD, truD, isTy, asg, asgs, asg2, setAt, outsAt, R.out, r1D, r2D, zipD, enumD, lstAt, mutL, setF, h2, hat, isFnD]
end
end Sm

set_option maxRecDepth 100000
set_option maxHeartbeats 4000000
namespace Sm
open PySem L2
section
variable {Φ : Nat → Spec} {cs : Nat → D} {W : Nat}
def allFns (l f : Int) (fs : List D) : Bool := (List.range fs.length).all fun (i : Nat) => isFnD l f fs i (fs.getD i .none)
def isProgD (d : D) : Bool := match d with
  | .tuple [.int l, .int f, .tuple fs] => (btwD (.int l) 0 3 && btwD (.int f) 0 3) && ((decide (1 ≤ fs.length) && decide (fs.length ≤ 6)) && allFns l f fs)
  | _ => false
def S_is_program (φ : Spec) : Prop := ∀ d, φ [.d d] = rb (isProgD d) []
theorem lc_is_program (h : S_is_function (Φ f_is_function)) {l f : Int} {fs : List D} {v1 v2 : Option SV} (hz : fs.length ≤ 6) :
    (evX Φ cs c_is_program_0).1 [some (.d (.tuple [.int l, .int f, .tuple fs])), v1, v2, some (.d (.tuple fs)), none] =
      some (.ok (.new (.list ((List.range fs.length).map fun (i : Nat) => .bool (isFnD l f fs i (fs.getD i .none))))), [some (.d (.tuple [.int l, .int f, .tuple fs])), v1, v2, some (.d (.tuple fs)), none]) := by
  unfold c_is_program_0
  have e := lc_map (Φ := Φ) (cs := cs) (elt := .call f_is_function (.cons (.nm 0) (.cons (.nm 4) .nil))) (t := .nm 4) (it := .r1 (.bi .len (.nm 3))) (ifs := .nil) (own := [4]) (e := [some (.d (.tuple [.int l, .int f, .tuple fs])), v1, v2, some (.d (.tuple fs)), none])
    (e1 := [some (.d (.tuple [.int l, .int f, .tuple fs])), v1, v2, some (.d (.tuple fs)), none]) (fun d => .bool (match d with | .int i => isFnD l f fs i (fs.getD i.toNat .none) | _ => false)) (ds := (List.range fs.length).map fun (i : Nat) => .int (i : Int)) ?_ (fun x hx => ?_) (by rw [List.length_map, List.length_range]; omega)
  · rw [e, List.map_map]
    rfl
  · have hr := r1D_small (n := fs.length) (by omega)
    unfold rowN at hr
    simp [evB, evS, evE, evT, evX, both, M.bind, M.ret, M.opt, evAnd, evOr, evAndT, evOrT, evR, evA, evTs, evI, evO, nmM, rdM, frz, R.rd, R.hold, R.sv, runCall, argsOf, putOuts, putOwn, andM, orM, chM, noneR, isNM, isBM, cmpD, intsB, binD, addD, subD, mulD, fdivD, modD, powD, negD, ixD, slD, partD, fits, PySem.sizeLine_eq, lenD, biD, intD, seqD, boolsD, truD, isTy, asg, asgs, asg2, setAt, outsAt, R.out, zipD, enumD, lstAt, mutL, setF, hr]
  · obtain ⟨i, hi, rfl⟩ := List.mem_map.mp hx
    have hi := List.mem_range.mp hi
    have hd : fs[i]? = some (fs.getD i .none) := by
      rw [List.getD_eq_getElem?_getD, List.getElem?_eq_getElem hi]; rfl
    have hx := h l f fs i _ hd
    simp [turn1, wipeE, unwipe, isArg, evB, evS, evE, evT, evX, both, M.bind, M.ret, M.opt, evAnd, evOr, evAndT, evOrT, evR, evA, evTs, evI, evO, nmM, rdM, frz, R.rd, R.hold, R.sv, runCall, argsOf, putOuts, putOwn, andM, orM, chM, noneR, isNM, isBM, cmpD, intsB, binD, addD, subD, mulD, fdivD, modD, powD, negD, ixD, slD, partD, fits, PySem.sizeLine_eq, lenD, biD, intD, seqD, boolsD, truD, isTy, asg, asgs, asg2, setAt, outsAt, R.out, r1D, r2D, zipD, enumD, lstAt, mutL, setF, hx]
theorem p_is_program (h0 : S_is_row (Φ f_is_row)) (h1 : S_is_between (Φ f_is_between)) (h2 : S_is_function (Φ f_is_function)) (c1 : cs 1 = .int 3) (c2 : cs 2 = .int 3) (c3 : cs 3 = .int 6) : S_is_program (runFn 1 5 (evB Φ cs W b_is_program)) := by
  intro d
  have hr := h0 d 3
  cases d with
  | tuple xs =>
    by_cases hl : xs.length = 3
    · match xs, hl with
      | [a, b, c], _ =>
        have ha := h1 a 0 3
        have hb := h1 b 0 3
        have hr : Φ f_is_row [.d (.tuple [a, b, c]), .d (.int 3)] = rb true [] := hr
        cases qa : btwD a 0 3 with
        | false =>
          rw [qa] at ha
          have e : isProgD (.tuple [a, b, c]) = false := by
            unfold isProgD
            split
            · rename_i l f fs e; cases e; rw [qa]; rfl
            · rfl
          rw [e]
          simp [runFn, b_is_program, entry, slotOf, evB, evS, evE, evT, evX, both, M.bind, M.ret, M.opt, evAnd, evOr, evAndT, evOrT, evR, evA, evTs, evI, evO, nmM, rdM, frz, R.rd, R.hold, R.sv, runCall, argsOf, putOuts, putOwn, andM, orM, chM, noneR, isNM, isBM, cmpD, intsB, binD, addD, subD, mulD, fdivD, modD, powD, negD, ixD, slD, partD, fits, PySem.sizeLine_eq, lenD, biD, intD, seqD, boolsD, truD, isTy, asg, asgs, asg2, setAt, outsAt, R.out, r1D, r2D, zipD, enumD, lstAt, mutL, setF, hr, asgs, c1, c2, ha]
        | true =>
          rw [qa] at ha
          cases qb : btwD b 0 3 with
          | false =>
            rw [qb] at hb
            have e : isProgD (.tuple [a, b, c]) = false := by
              unfold isProgD
              split
              · rename_i l f fs e; cases e; rw [qa, qb]; rfl
              · rfl
            rw [e]
            simp [runFn, b_is_program, entry, slotOf, evB, evS, evE, evT, evX, both, M.bind, M.ret, M.opt, evAnd, evOr, evAndT, evOrT, evR, evA, evTs, evI, evO, nmM, rdM, frz, R.rd, R.hold, R.sv, runCall, argsOf, putOuts, putOwn, andM, orM, chM, noneR, isNM, isBM, cmpD, intsB, binD, addD, subD, mulD, fdivD, modD, powD, negD, ixD, slD, partD, fits, PySem.sizeLine_eq, lenD, biD, intD, seqD, boolsD, truD, isTy, asg, asgs, asg2, setAt, outsAt, R.out, r1D, r2D, zipD, enumD, lstAt, mutL, setF, hr, asgs, c1, c2, ha, hb]
          | true =>
            rw [qb] at hb
            obtain ⟨l, rfl⟩ : ∃ l, a = .int l := by cases a <;> first | exact ⟨_, rfl⟩ | cases qa
            obtain ⟨f, rfl⟩ : ∃ l, b = .int l := by cases b <;> first | exact ⟨_, rfl⟩ | cases qb
            cases c with
            | tuple fs =>
              by_cases e1 : 1 ≤ fs.length
              · by_cases e2 : fs.length ≤ 6
                · have i1 : (1 : Int) ≤ fs.length := by omega
                  have i2 : (fs.length : Int) ≤ 6 := by omega
                  have hl := lc_is_program (Φ := Φ) (cs := cs) h2 (l := l) (f := f) (fs := fs) (v1 := some (.d (.int l))) (v2 := some (.d (.int f))) e2
                  simp [runFn, b_is_program, entry, slotOf, evB, evS, evE, evT, evX, both, M.bind, M.ret, M.opt, evAnd, evOr, evAndT, evOrT, evR, evA, evTs, evI, evO, nmM, rdM, frz, R.rd, R.hold, R.sv, runCall, argsOf, putOuts, putOwn, andM, orM, chM, noneR, isNM, isBM, cmpD, intsB, binD, addD, subD, mulD, fdivD, modD, powD, negD, ixD, slD, partD, fits, PySem.sizeLine_eq, lenD, biD, intD, seqD, boolsD, truD, isTy, asg, asgs, asg2, setAt, outsAt, R.out, r1D, r2D, zipD, enumD, lstAt, mutL, setF, hr, asgs, c1, c2, c3, ha, hb, i1, i2, hl, boolsD_map, isProgD, qa, qb, e1, e2, allFns, Function.comp_def]
                · have i1 : (1 : Int) ≤ fs.length := by omega
                  have i2 : ¬ (fs.length : Int) ≤ 6 := by omega
                  simp [runFn, b_is_program, entry, slotOf, evB, evS, evE, evT, evX, both, M.bind, M.ret, M.opt, evAnd, evOr, evAndT, evOrT, evR, evA, evTs, evI, evO, nmM, rdM, frz, R.rd, R.hold, R.sv, runCall, argsOf, putOuts, putOwn, andM, orM, chM, noneR, isNM, isBM, cmpD, intsB, binD, addD, subD, mulD, fdivD, modD, powD, negD, ixD, slD, partD, fits, PySem.sizeLine_eq, lenD, biD, intD, seqD, boolsD, truD, isTy, asg, asgs, asg2, setAt, outsAt, R.out, r1D, r2D, zipD, enumD, lstAt, mutL, setF, hr, asgs, c1, c2, c3, ha, hb, i1, i2, isProgD, qa, qb, e1, e2]
              · have i1 : ¬ (1 : Int) ≤ fs.length := by omega
                simp [runFn, b_is_program, entry, slotOf, evB, evS, evE, evT, evX, both, M.bind, M.ret, M.opt, evAnd, evOr, evAndT, evOrT, evR, evA, evTs, evI, evO, nmM, rdM, frz, R.rd, R.hold, R.sv, runCall, argsOf, putOuts, putOwn, andM, orM, chM, noneR, isNM, isBM, cmpD, intsB, binD, addD, subD, mulD, fdivD, modD, powD, negD, ixD, slD, partD, fits, PySem.sizeLine_eq, lenD, biD, intD, seqD, boolsD, truD, isTy, asg, asgs, asg2, setAt, outsAt, R.out, r1D, r2D, zipD, enumD, lstAt, mutL, setF, hr, asgs, c1, c2, c3, ha, hb, i1, isProgD, qa, qb, e1]
            | _ => simp [runFn, b_is_program, entry, slotOf, evB, evS, evE, evT, evX, both, M.bind, M.ret, M.opt, evAnd, evOr, evAndT, evOrT, evR, evA, evTs, evI, evO, nmM, rdM, frz, R.rd, R.hold, R.sv, runCall, argsOf, putOuts, putOwn, andM, orM, chM, noneR, isNM, isBM, cmpD, intsB, binD, addD, subD, mulD, fdivD, modD, powD, negD, ixD, slD, partD, fits, PySem.sizeLine_eq, lenD, biD, intD, seqD, boolsD, truD, isTy, asg, asgs, asg2, setAt, outsAt, R.out, r1D, r2D, zipD, enumD, lstAt, mutL, setF, hr, asgs, c1, c2, ha, hb, isProgD]
    · have hr : Φ f_is_row [.d (.tuple xs), .d (.int 3)] = rb false [] := by
        rw [hr]
        have : ¬ ((xs.length : Int) = 3) := by omega
        simp [isRowD, this]
      have e : isProgD (.tuple xs) = false := by
        unfold isProgD
        split
        · rename_i e; cases e; exact absurd rfl hl
        · rfl
      rw [e]
      simp [runFn, b_is_program, entry, slotOf, evB, evS, evE, evT, evX, both, M.bind, M.ret, M.opt, evAnd, evOr, evAndT, evOrT, evR, evA, evTs, evI, evO, nmM, rdM, frz, R.rd, R.hold, R.sv, runCall, argsOf, putOuts, putOwn, andM, orM, chM, noneR, isNM, isBM, cmpD, intsB, binD, addD, subD, mulD, fdivD, modD, powD, negD, ixD, slD, partD, fits, PySem.sizeLine_eq, lenD, biD, intD, seqD, boolsD, truD, isTy, asg, asgs, asg2, setAt, outsAt, R.out, r1D, r2D, zipD, enumD, lstAt, mutL, setF, hr]
  | _ =>
    simp [isRowD] at hr
    simp [runFn, b_is_program, entry, slotOf, evB, evS, evE, evT, evX, both, M.bind, M.ret, M.opt, evAnd, evOr, evAndT, evOrT, evR, evA, evTs, evI, evO, nmM, rdM, frz, R.rd, R.hold, R.sv, runCall, argsOf, putOuts, putOwn, andM, orM, chM, noneR, isNM, isBM, cmpD, intsB, binD, addD, subD, mulD, fdivD, modD, powD, negD, ixD, slD, partD, fits, PySem.sizeLine_eq, lenD, biD, intD, seqD, boolsD, truD, isTy, asg, asgs, asg2, setAt, outsAt, R.out, r1D, r2D, zipD, enumD, lstAt, mutL, setF, hr, isProgD]
end
end Sm

set_option maxRecDepth 100000
set_option maxHeartbeats 4000000
namespace Sm
open PySem L2
/-! ### the law's drawing of numbers -/
def penD (cells : List Int) (a : Nat) (c : Int) : D := .list [.list (cells.map .int), .int a, .int c]
/-- a pen from which at most m numbers have been taken -/
def Pen (m : Nat) (x : D) : Prop := ∃ cells a c, x = penD cells a c ∧ a ≤ m
theorem Pen.mono {m n : Nat} {x : D} (h : Pen m x) (hn : m ≤ n) : Pen n x := by
  obtain ⟨cells, a, c, e, h⟩ := h
  exact ⟨cells, a, c, e, by omega⟩
abbrev NA (w : Option SV) : Prop := ∀ y, w ≠ some (.own y true)
theorem na_none : NA none := fun y e => by cases e
theorem na_d (d : D) : NA (some (.d d)) := fun y e => by cases e
theorem na_own (d : D) : NA (some (.own d false)) := fun y e => by cases e
section
variable {Φ : Nat → Spec} {cs : Nat → D} {W : Nat}
theorem setAt_na {e : Env} {i : Nat} {v : SV} {w : Option SV} (h : e[i]? = some w) (na : NA w) : setAt e i v = some (e.set i (some v)) := by
  unfold setAt
  rw [h]
  cases w with
  | none => rfl
  | some sv => cases sv with
    | own y b => cases b with
      | true => exact absurd rfl (na y)
      | false => rfl
    | _ => rfl
theorem asg_d {e : Env} {i : Nat} {d : D} {w : Option SV} (h : e[i]? = some w) (na : NA w) : asg (.nm i) (.d d) e = some (.ok (), e.set i (some (.d d))) := by
  simp only [asg, R.sv, setAt_na h na]
theorem evS_asg_d {i : Nat} {ex : E} {e e1 : Env} {d : D} {w : Option SV} (h : (evX Φ cs ex).1 e = some (.ok (.d d), e1)) (hw : e1[i]? = some w) (na : NA w) : evS Φ cs W (.asg (.nm i) ex) e = some (.ok .nx, e1.set i (some (.d d))) := by
  simp only [evS, evE, M.bind, h, asg_d hw na, M.ret]
theorem evS_asg_new {i : Nat} {ex : E} {e e1 : Env} {d : D} {w : Option SV} (h : (evX Φ cs ex).1 e = some (.ok (.new d), e1)) (hw : e1[i]? = some w) (na : NA w) : evS Φ cs W (.asg (.nm i) ex) e = some (.ok .nx, e1.set i (some (.own d false))) := by
  simp only [evS, evE, M.bind, h, asg, R.sv, setAt_na hw na, M.ret]
theorem evS_asg_tup3 {i j k : Nat} {ex : E} {e e1 : Env} {a b c : D} {wi wj wk : Option SV} (h : (evX Φ cs ex).1 e = some (.ok (.d (.tuple [a, b, c])), e1)) (hi : e1[i]? = some wi) (ni : NA wi) (hj : e1[j]? = some wj) (nj : NA wj) (hk : e1[k]? = some wk) (nk : NA wk) (hij : i ≠ j) (hik : i ≠ k) (hjk : j ≠ k) :
    evS Φ cs W (.asg (.tup (.cons (.nm i) (.cons (.nm j) (.cons (.nm k) .nil)))) ex) e = some (.ok .nx, ((e1.set i (some (.d a))).set j (some (.d b))).set k (some (.d c))) := by
  have h1 : (e1.set i (some (.d a)))[j]? = some wj := by rw [List.getElem?_set_ne hij]; exact hj
  have h2 : ((e1.set i (some (.d a))).set j (some (.d b)))[k]? = some wk := by rw [List.getElem?_set_ne hjk, List.getElem?_set_ne hik]; exact hk
  simp only [evS, evE, M.bind, h, asg, R.rd, asgs, asg_d hi ni, asg_d h1 nj, asg_d h2 nk, R.sv, setAt_na hi ni, setAt_na h1 nj, setAt_na h2 nk, M.ret]
end
section
variable {Φ : Nat → Spec} {cs : Nat → D} {W : Nat}
theorem evB_nx {s : S} {r : B} {e e1 : Env} (h : evS Φ cs W s e = some (.ok .nx, e1)) : evB Φ cs W (.cons s r) e = evB Φ cs W r e1 := by
  simp only [evB, M.bind, h]
theorem evB_rt {s : S} {r : B} {e e1 : Env} {v : R} (h : evS Φ cs W s e = some (.ok (.rt v), e1)) : evB Φ cs W (.cons s r) e = some (.ok (.rt v), e1) := by
  simp only [evB, M.bind, h, M.ret]
theorem ife_tt {c : E} {a b : B} {e e1 : Env} (h : (evX Φ cs c).2 e = some (.ok true, e1)) : evS Φ cs W (.ife c a b) e = evB Φ cs W a e1 := by
  simp only [evS, M.bind, h, if_true]
theorem ife_ff {c : E} {a b : B} {e e1 : Env} (h : (evX Φ cs c).2 e = some (.ok false, e1)) : evS Φ cs W (.ife c a b) e = evB Φ cs W b e1 := by
  simp only [evS, M.bind, h, Bool.false_eq_true, if_false]
theorem smallF_nat {i : Int} (h : i.natAbs ≤ 18446744073709551615) : smallF i = true := Nat.ble_eq_true_of_le h
theorem posI_pos {i : Int} (h : 0 < i) : posI i = true := Nat.ble_eq_true_of_le (by omega)
theorem posF_pos {i : Int} (h : 0 < i) (h2 : i < 1073741824) : posF i = true := by
  unfold posF
  rw [Nat.ble_eq_true_of_le (by omega : 1 ≤ i.toNat), Nat.ble_eq_true_of_le (by omega : i.toNat ≤ 1073741823)]
  rfl
theorem powD_ok {i : Int} {j : Nat} (h : i.natAbs < 2 ^ 64) (hj : j ≤ 1000) : powD (.int i) (.int (j : Int)) = some (.d (.int (i ^ j))) := by
  show (if (decide (0 ≤ (j : Int)) && decide ((j : Int) ≤ 1000000) && decide (i.natAbs < 2 ^ 64)) = true then some (R.d (.int (i ^ (j : Int).toNat))) else none) = _
  rw [if_pos (by rw [decide_eq_true (by omega), decide_eq_true (by omega), decide_eq_true h]; rfl), Int.toNat_natCast]
theorem powD_3 {i : Int} (h : i.natAbs < 2 ^ 64) : powD (.int i) (.int 3) = some (.d (.int (i ^ 3))) := powD_ok (j := 3) h (by omega)
theorem powD_5 {i : Int} (h : i.natAbs < 2 ^ 64) : powD (.int i) (.int 5) = some (.d (.int (i ^ 5))) := powD_ok (j := 5) h (by omega)
theorem powD_18 : powD (.int 10) (.int 18) = some (.d (.int 1000000000000000000)) := by
  rw [show (18 : Int) = ((18 : Nat) : Int) from rfl, powD_ok (by decide) (by decide)]
  rfl
theorem powD_17 : powD (.int 10) (.int 17) = some (.d (.int 100000000000000000)) := by
  rw [show (17 : Int) = ((17 : Nat) : Int) from rfl, powD_ok (by decide) (by decide)]
  rfl
theorem powD_20 : powD (.int 10) (.int 20) = some (.d (.int 100000000000000000000)) := by
  rw [show (20 : Int) = ((20 : Nat) : Int) from rfl, powD_ok (by decide) (by decide)]
  rfl
def primes13 : List Int := [2147483629, 2147483587, 2147483579, 2147483563, 2147483549, 2147483543, 2147483497, 2147483489, 2147483477, 2147483423, 2147483399, 2147483353, 2147483323]
theorem primes_at (i : Int) : ∃ p : Int, atI (primes13.map PyData.int) (i % 13) = some (.int p) ∧ 0 < p ∧ p < 2147483648 := by
  have h0 : 0 ≤ i % 13 := Int.emod_nonneg _ (by omega)
  have h1 : i % 13 < 13 := Int.emod_lt_of_pos _ (by omega)
  obtain ⟨k, hk⟩ : ∃ k : Nat, i % 13 = (k : Int) := ⟨(i % 13).toNat, by omega⟩
  rw [hk]
  have hk2 : k < primes13.length := by show k < 13; omega
  have hg : (primes13.map PyData.int)[k]? = some (.int primes13[k]) := by rw [List.getElem?_map, List.getElem?_eq_getElem hk2]; rfl
  refine ⟨primes13[k], atI_nat hg, ?_⟩
  have hall : ∀ p ∈ primes13, 0 < p ∧ p < 2147483648 := by decide
  exact hall _ (List.getElem_mem hk2)
def S_law_spread (φ : Spec) : Prop := ∀ (c : Int) (a : Nat), a < 1000000000 → ∃ v, φ [.d (.int c), .d (.int a)] = some (.ok (.d (.int v)), [])
theorem sv0 (c : Int) (A : Int) (h : 1000000000000000000 ≤ c) : evB Φ cs W b__law_spread [some (.d (.int c)), some (.d (.int A)), none, none, none, none] = some (.ok (.rt (.d (.int c))), [some (.d (.int c)), some (.d (.int A)), none, none, none, none]) := by
  unfold b__law_spread
  refine evB_rt ?_
  simp [evB, evS, evE, evT, evX, both, M.bind, M.ret, M.opt, evAnd, evOr, evAndT, evOrT, evR, evA, evTs, evI, evO, nmM, rdM, frz, R.rd, R.hold, R.sv, runCall, argsOf, putOuts, putOwn, andM, orM, chM, noneR, isNM, isBM, cmpD, intsB, binD, addD, subD, mulD, fdivD, modD, negD, ixD, slD, partD, fits, PySem.sizeLine_eq, lenD, biD, intD, seqD, boolsD, truD, isTy, asg, asgs, asg2, setAt, outsAt, R.out, zipD, enumD, lstAt, mutL, setF, powD_18, h]
theorem p_law_spread : S_law_spread (runFn 2 6 (evB Φ cs W b__law_spread)) := by
  intro c a ha
  by_cases hc : 1000000000000000000 ≤ c
  · exact ⟨c, by simp [runFn, entry, slotOf, sv0 c a hc, outsAt, R.out]⟩
  · -- the rows one after another
    obtain ⟨A, hA⟩ : ∃ A : Int, A = (a : Int) := ⟨_, rfl⟩
    have hA0 : 0 ≤ A := by omega
    have hA1 : A < 1000000000 := by omega
    rw [← hA]
    have c0 := Int.emod_nonneg c (by omega : (1000000007 : Int) ≠ 0)
    have c1 := Int.emod_lt_of_pos c (by omega : (0 : Int) < 1000000007)
    have d0 := Int.emod_nonneg c (by omega : (65537 : Int) ≠ 0)
    have d1 := Int.emod_lt_of_pos c (by omega : (0 : Int) < 65537)
    have q1 : smallF (c % 1000000007) = true := smallF_nat (by omega)
    have q2 : smallF A = true := smallF_nat (by omega)
    have k2 : smallF 2 = true := rfl
    have k3 : smallF 40503 = true := rfl
    have k4 : smallF 2147483647 = true := rfl
    have m1 : posI 1000000007 = true := rfl
    have m2 : posI 65537 = true := rfl
    have m3 : posI 13 = true := rfl
    have m4 : posI 1009 = true := rfl
    have hP := primes_at A
    obtain ⟨p1, e1, p10, p11⟩ := hP
    obtain ⟨p2, e2, p20, p21⟩ := primes_at (A + 5)
    obtain ⟨p3, e3, p30, p31⟩ := primes_at (A + 7)
    obtain ⟨X, hX⟩ : ∃ X : Int, X = c % 1000000007 * (2 * A + 69069) + A * 40503 + 977 := ⟨_, rfl⟩
    have hXm : 0 ≤ c % 1000000007 * (2 * A + 69069) := Int.mul_nonneg c0 (by omega)
    have hXn : c % 1000000007 * (2 * A + 69069) ≤ 1000000007 * 2000069069 := Int.mul_le_mul (by omega) (by omega) (by omega) (by omega)
    have hX64 : X.natAbs < 2 ^ 64 := by omega
    obtain ⟨u, hu⟩ : ∃ u : Int, u = X ^ 3 % p1 := ⟨_, rfl⟩
    have u0 : 0 ≤ u := by rw [hu]; exact Int.emod_nonneg _ (by omega)
    have u1 : u < p1 := by rw [hu]; exact Int.emod_lt_of_pos _ p10
    obtain ⟨Y, hY⟩ : ∃ Y : Int, Y = u * (A + 3) + c % 65537 + 5 := ⟨_, rfl⟩
    have hYm : 0 ≤ u * (A + 3) := Int.mul_nonneg u0 (by omega)
    have hYn : u * (A + 3) ≤ 2147483648 * 1000000003 := Int.mul_le_mul (by omega) (by omega) (by omega) (by omega)
    have hY64 : Y.natAbs < 2 ^ 64 := by omega
    obtain ⟨v, hv⟩ : ∃ v : Int, v = Y ^ 5 % p2 := ⟨_, rfl⟩
    have v0 : 0 ≤ v := by rw [hv]; exact Int.emod_nonneg _ (by omega)
    have v1 : v < p2 := by rw [hv]; exact Int.emod_lt_of_pos _ p20
    have w0 := Int.emod_nonneg u (by omega : (1009 : Int) ≠ 0)
    have w1 := Int.emod_lt_of_pos u (by omega : (0 : Int) < 1009)
    obtain ⟨Z, hZ⟩ : ∃ Z : Int, Z = v + u % 1009 + A := ⟨_, rfl⟩
    have hZ64 : Z.natAbs < 2 ^ 64 := by omega
    obtain ⟨w, hw⟩ : ∃ w : Int, w = Z ^ 3 % p3 := ⟨_, rfl⟩
    have qu : smallF u = true := smallF_nat (by omega)
    have n1 : posI p1 = true := posI_pos p10
    have n2 : posI p2 = true := posI_pos p20
    have n3 : posI p3 = true := posI_pos p30
    refine ⟨(u * 2147483647 + v) * 2147483647 + w, ?_⟩
    have run : evB Φ cs W b__law_spread [some (.d (.int c)), some (.d (.int A)), none, none, none, none] =
        some (.ok (.rt (.d (.int ((u * 2147483647 + v) * 2147483647 + w)))), [some (.d (.int c)), some (.d (.int A)), some (.own (.list (primes13.map .int)) false), some (.d (.int u)), some (.d (.int v)), some (.d (.int w))]) := by
      unfold b__law_spread
      rw [evB_nx (e1 := [some (.d (.int c)), some (.d (.int A)), none, none, none, none]) (by simp [evB, evS, evE, evT, evX, both, M.bind, M.ret, M.opt, evAnd, evOr, evAndT, evOrT, evR, evA, evTs, evI, evO, nmM, rdM, frz, R.rd, R.hold, R.sv, runCall, argsOf, putOuts, putOwn, andM, orM, chM, noneR, isNM, isBM, cmpD, intsB, binD, addD, subD, mulD, fdivD, modD, negD, ixD, slD, partD, fits, PySem.sizeLine_eq, lenD, biD, intD, seqD, boolsD, truD, isTy, asg, asgs, asg2, setAt, outsAt, R.out, zipD, enumD, lstAt, mutL, setF, powD_18, hc])]
      rw [evB_nx (e1 := [some (.d (.int c)), some (.d (.int A)), some (.own (.list ((primes13.take 8).map .int)) false), none, none, none]) (by rfl)]
      rw [evB_nx (e1 := [some (.d (.int c)), some (.d (.int A)), some (.own (.list (primes13.map .int)) false), none, none, none]) (by rfl)]
      rw [evB_nx (e1 := [some (.d (.int c)), some (.d (.int A)), some (.own (.list (primes13.map .int)) false), some (.d (.int X)), none, none]) (by simp [evB, evS, evE, evT, evX, both, M.bind, M.ret, M.opt, evAnd, evOr, evAndT, evOrT, evR, evA, evTs, evI, evO, nmM, rdM, frz, R.rd, R.hold, R.sv, runCall, argsOf, putOuts, putOwn, andM, orM, chM, noneR, isNM, isBM, cmpD, intsB, binD, addD, subD, mulD, fdivD, modD, negD, ixD, slD, partD, fits, PySem.sizeLine_eq, lenD, biD, intD, seqD, boolsD, truD, isTy, asg, asgs, asg2, setAt, outsAt, R.out, zipD, enumD, lstAt, mutL, setF, q1, q2, k2, k3, m1, hX])]
      rw [evB_nx (e1 := [some (.d (.int c)), some (.d (.int A)), some (.own (.list (primes13.map .int)) false), some (.d (.int u)), none, none]) (by simp [evB, evS, evE, evT, evX, both, M.bind, M.ret, M.opt, evAnd, evOr, evAndT, evOrT, evR, evA, evTs, evI, evO, nmM, rdM, frz, R.rd, R.hold, R.sv, runCall, argsOf, putOuts, putOwn, andM, orM, chM, noneR, isNM, isBM, cmpD, intsB, binD, addD, subD, mulD, fdivD, modD, negD, ixD, slD, partD, fits, PySem.sizeLine_eq, lenD, biD, intD, seqD, boolsD, truD, isTy, asg, asgs, asg2, setAt, outsAt, R.out, zipD, enumD, lstAt, mutL, setF, powD_3 hX64, m3, e1, n1, hu])]
      rw [evB_nx (e1 := [some (.d (.int c)), some (.d (.int A)), some (.own (.list (primes13.map .int)) false), some (.d (.int u)), some (.d (.int v)), none]) (by rw [hv]; simp [evB, evS, evE, evT, evX, both, M.bind, M.ret, M.opt, evAnd, evOr, evAndT, evOrT, evR, evA, evTs, evI, evO, nmM, rdM, frz, R.rd, R.hold, R.sv, runCall, argsOf, putOuts, putOwn, andM, orM, chM, noneR, isNM, isBM, cmpD, intsB, binD, addD, subD, mulD, fdivD, modD, negD, ixD, slD, partD, fits, PySem.sizeLine_eq, lenD, biD, intD, seqD, boolsD, truD, isTy, asg, asgs, asg2, setAt, outsAt, R.out, zipD, enumD, lstAt, mutL, setF, qu, m2, m3, ← hY, powD_5 hY64, e2, n2])]
      rw [evB_nx (e1 := [some (.d (.int c)), some (.d (.int A)), some (.own (.list (primes13.map .int)) false), some (.d (.int u)), some (.d (.int v)), some (.d (.int w))]) (by rw [hw]; simp [evB, evS, evE, evT, evX, both, M.bind, M.ret, M.opt, evAnd, evOr, evAndT, evOrT, evR, evA, evTs, evI, evO, nmM, rdM, frz, R.rd, R.hold, R.sv, runCall, argsOf, putOuts, putOwn, andM, orM, chM, noneR, isNM, isBM, cmpD, intsB, binD, addD, subD, mulD, fdivD, modD, negD, ixD, slD, partD, fits, PySem.sizeLine_eq, lenD, biD, intD, seqD, boolsD, truD, isTy, asg, asgs, asg2, setAt, outsAt, R.out, zipD, enumD, lstAt, mutL, setF, m4, m3, ← hZ, powD_3 hZ64, e3, n3])]
      refine evB_rt ?_
      simp [evB, evS, evE, evT, evX, both, M.bind, M.ret, M.opt, evAnd, evOr, evAndT, evOrT, evR, evA, evTs, evI, evO, nmM, rdM, frz, R.rd, R.hold, R.sv, runCall, argsOf, putOuts, putOwn, andM, orM, chM, noneR, isNM, isBM, cmpD, intsB, binD, addD, subD, mulD, fdivD, modD, negD, ixD, slD, partD, fits, PySem.sizeLine_eq, lenD, biD, intD, seqD, boolsD, truD, isTy, asg, asgs, asg2, setAt, outsAt, R.out, zipD, enumD, lstAt, mutL, setF, k4]
    simp [runFn, entry, slotOf, run, outsAt, R.out]
end
end Sm

set_option maxRecDepth 100000
set_option maxHeartbeats 4000000
namespace Sm
open PySem L2
section
variable {Φ : Nat → Spec} {cs : Nat → D} {W : Nat}
def S_law_take (φ : Spec) : Prop := ∀ (m : Nat) (x : D) (n : Int), Pen m x → m < 999999999 → 0 < n → n < 1073741824 → ∃ v x', φ [.bor x, .d (.int n)] = some (.ok (.d (.int v)), [x']) ∧ 0 ≤ v ∧ v < n ∧ Pen (m + 1) x'
theorem at0 (a b c : D) : atI [a, b, c] 0 = some a := atI_nat (j := 0) rfl
theorem at1 (a b c : D) : atI [a, b, c] 1 = some b := atI_nat (j := 1) rfl
theorem at2 (a b c : D) : atI [a, b, c] 2 = some c := atI_nat (j := 2) rfl
theorem set1 (a b c d : D) : setF (.int 1) d [a, b, c] = some [a, d, c] := rfl
theorem set2 (a b c d : D) : setF (.int 2) d [a, b, c] = some [a, b, d] := rfl
/-- the number that is taken next -/
theorem take_cell (cells : List Int) (a : Nat) (n : Int) (P : D) (hP : P = penD cells a n) (v1 : Option SV) (ht : a < 1000000000) :
    ∃ cell, evS Φ cs W (.ife (.cmp .lt (.nm 3) (.bi .len (.ix (.nm 0) (.lit (.int 0))))) (.cons (.asg (.nm 4) (.ix (.ix (.nm 0) (.lit (.int 0))) (.nm 3))) .nil)
      (.cons (.ife (.cmp .gt (.bi .len (.ix (.nm 0) (.lit (.int 0)))) (.lit (.int 0))) (.cons (.asg (.nm 4) (.bin .mod (.bi .int (.ix (.ix (.nm 0) (.lit (.int 0))) (.bin .mod (.bi .int (.bin .add (.bin .mul (.nm 3) (.lit (.int 5))) (.lit (.int 3)))) (.bi .len (.ix (.nm 0) (.lit (.int 0))))))) (.bin .add (.bin .pow (.lit (.int 10)) (.lit (.int 17))) (.nm 3)))) .nil) .nil) .nil))
      [some (.own P true), v1, none, some (.d (.int (a : Int))), some (.d (.int 0))] = some (.ok .nx, [some (.own P true), v1, none, some (.d (.int (a : Int))), some (.d (.int cell))]) := by
  subst hP
  unfold penD
  obtain ⟨A, hA⟩ : ∃ A : Int, A = (a : Int) := ⟨_, rfl⟩
  obtain ⟨L, hL⟩ : ∃ L : Int, L = (cells.length : Int) := ⟨_, rfl⟩
  have hlen : lenD (.list (cells.map PyData.int)) = some L := by rw [hL]; show some ((cells.map PyData.int).length : Int) = _; rw [List.length_map]
  by_cases h1 : A < L
  · have hlt : a < cells.length := by omega
    have hat : atI (cells.map PyData.int) (a : Int) = some (.int cells[a]) := atI_nat (by rw [List.getElem?_map, List.getElem?_eq_getElem hlt]; rfl)
    rw [← hA] at hat ⊢
    exact ⟨cells[a], by simp [evB, evS, evE, evT, evX, both, M.bind, M.ret, M.opt, evAnd, evOr, evAndT, evOrT, evR, evA, evTs, evI, evO, nmM, rdM, frz, R.rd, R.hold, R.sv, runCall, argsOf, putOuts, putOwn, andM, orM, chM, noneR, isNM, isBM, cmpD, intsB, binD, addD, subD, mulD, fdivD, modD, powD, negD, ixD, slD, partD, fits, PySem.sizeLine_eq, biD, intD, seqD, boolsD, truD, isTy, asg, asgs, asg2, setAt, outsAt, R.out, r1D, r2D, zipD, enumD, lstAt, mutL, setF, at0, hlen, h1, hat]⟩
  · by_cases h2 : 0 < L
    · obtain ⟨j, hj⟩ : ∃ j : Int, j = (A * 5 + 3) % L := ⟨_, rfl⟩
      have j0 : 0 ≤ j := by rw [hj]; exact Int.emod_nonneg _ (by omega)
      have j1 : j < L := by rw [hj]; exact Int.emod_lt_of_pos _ h2
      have hlt : j.toNat < cells.length := by omega
      have hat : atI (cells.map PyData.int) j = some (.int cells[j.toNat]) := by
        have := atI_nat (xs := cells.map PyData.int) (j := j.toNat) (v := .int cells[j.toNat]) (by rw [List.getElem?_map, List.getElem?_eq_getElem hlt]; rfl)
        rwa [show ((j.toNat : Nat) : Int) = j by omega] at this
      have q1 : smallF A = true := smallF_nat (by omega)
      have q5 : smallF 5 = true := rfl
      have m1 : posI L = true := posI_pos h2
      have m2 : posI (100000000000000000 + A) = true := posI_pos (by omega)
      rw [← hA]
      exact ⟨cells[j.toNat] % (100000000000000000 + A), by simp [evB, evS, evE, evT, evX, both, M.bind, M.ret, M.opt, evAnd, evOr, evAndT, evOrT, evR, evA, evTs, evI, evO, nmM, rdM, frz, R.rd, R.hold, R.sv, runCall, argsOf, putOuts, putOwn, andM, orM, chM, noneR, isNM, isBM, cmpD, intsB, binD, addD, subD, mulD, fdivD, modD, negD, ixD, slD, partD, fits, PySem.sizeLine_eq, biD, intD, seqD, boolsD, truD, isTy, asg, asgs, asg2, setAt, outsAt, R.out, zipD, enumD, lstAt, mutL, setF, at0, hlen, h1, h2, q5, m1, m2, ← hj, hat, powD_17]⟩
    · rw [← hA]
      exact ⟨0, by simp [evB, evS, evE, evT, evX, both, M.bind, M.ret, M.opt, evAnd, evOr, evAndT, evOrT, evR, evA, evTs, evI, evO, nmM, rdM, frz, R.rd, R.hold, R.sv, runCall, argsOf, putOuts, putOwn, andM, orM, chM, noneR, isNM, isBM, cmpD, intsB, binD, addD, subD, mulD, fdivD, modD, negD, ixD, slD, partD, fits, PySem.sizeLine_eq, biD, intD, seqD, boolsD, truD, isTy, asg, asgs, asg2, setAt, outsAt, R.out, zipD, enumD, lstAt, mutL, setF, at0, hlen, h1, h2]⟩
theorem p_law_take (hs : S_law_spread (Φ f__law_spread)) : S_law_take (runFn 2 5 (evB Φ cs W b__law_take)) := by
  intro m x n ⟨cells, a, c, hx, ha⟩ hm hn hn2
  have m1 : posI n = true := posI_pos hn
  have m2 : posF n = true := posF_pos hn hn2
  -- what stands behind the first row
  have first : ∃ (a' : Nat) (c' : Int) (v3 v4 : Option SV), a' ≤ m + 1 ∧ ∀ r : B, evB Φ cs W (.cons (.ife (.cmp .lt (.ix (.nm 0) (.lit (.int 2))) (.nm 1)) (.cons (.asg (.nm 3) (.ix (.nm 0) (.lit (.int 1)))) (.cons (.asg (.nm 4) (.lit (.int 0)))
      (.cons (.ife (.cmp .lt (.nm 3) (.bi .len (.ix (.nm 0) (.lit (.int 0))))) (.cons (.asg (.nm 4) (.ix (.ix (.nm 0) (.lit (.int 0))) (.nm 3))) .nil)
      (.cons (.ife (.cmp .gt (.bi .len (.ix (.nm 0) (.lit (.int 0)))) (.lit (.int 0))) (.cons (.asg (.nm 4) (.bin .mod (.bi .int (.ix (.ix (.nm 0) (.lit (.int 0))) (.bin .mod (.bi .int (.bin .add (.bin .mul (.nm 3) (.lit (.int 5))) (.lit (.int 3)))) (.bi .len (.ix (.nm 0) (.lit (.int 0))))))) (.bin .add (.bin .pow (.lit (.int 10)) (.lit (.int 17))) (.nm 3)))) .nil) .nil) .nil))
      (.cons (.seti 0 (.lit (.int 1)) (.bin .add (.nm 3) (.lit (.int 1)))) (.cons (.seti 0 (.lit (.int 2)) (.call f__law_spread (.cons (.nm 4) (.cons (.nm 3) .nil)))) .nil))))) .nil) r)
      [some (.own x true), some (.d (.int n)), none, none, none] = evB Φ cs W r [some (.own (penD cells a' c') true), some (.d (.int n)), none, v3, v4] := by
    by_cases hc : c < n
    · obtain ⟨cell, hcell⟩ := take_cell (Φ := Φ) (cs := cs) (W := W) cells a c x hx (some (.d (.int n))) (by omega)
      obtain ⟨v, hv⟩ := hs cell a (by omega)
      refine ⟨a + 1, v, some (.d (.int a)), some (.d (.int cell)), by omega, fun r => evB_nx ?_⟩
      subst hx
      unfold penD at hcell ⊢
      have e1 : evB Φ cs W (.cons (.asg (.nm 3) (.ix (.nm 0) (.lit (.int 1)))) (.cons (.asg (.nm 4) (.lit (.int 0)))
        (.cons (.ife (.cmp .lt (.nm 3) (.bi .len (.ix (.nm 0) (.lit (.int 0))))) (.cons (.asg (.nm 4) (.ix (.ix (.nm 0) (.lit (.int 0))) (.nm 3))) .nil)
        (.cons (.ife (.cmp .gt (.bi .len (.ix (.nm 0) (.lit (.int 0)))) (.lit (.int 0))) (.cons (.asg (.nm 4) (.bin .mod (.bi .int (.ix (.ix (.nm 0) (.lit (.int 0))) (.bin .mod (.bi .int (.bin .add (.bin .mul (.nm 3) (.lit (.int 5))) (.lit (.int 3)))) (.bi .len (.ix (.nm 0) (.lit (.int 0))))))) (.bin .add (.bin .pow (.lit (.int 10)) (.lit (.int 17))) (.nm 3)))) .nil) .nil) .nil))
        (.cons (.seti 0 (.lit (.int 1)) (.bin .add (.nm 3) (.lit (.int 1)))) (.cons (.seti 0 (.lit (.int 2)) (.call f__law_spread (.cons (.nm 4) (.cons (.nm 3) .nil)))) .nil)))))
        [some (.own (.list [.list (cells.map .int), .int a, .int c]) true), some (.d (.int n)), none, none, none] = some (.ok .nx, [some (.own (.list [.list (cells.map .int), .int ((a + 1 : Nat) : Int), .int v]) true), some (.d (.int n)), none, some (.d (.int a)), some (.d (.int cell))]) := by
        rw [evB_nx (e1 := [some (.own (.list [.list (cells.map .int), .int a, .int c]) true), some (.d (.int n)), none, some (.d (.int a)), none]) (by simp [evB, evS, evE, evT, evX, both, M.bind, M.ret, M.opt, evAnd, evOr, evAndT, evOrT, evR, evA, evTs, evI, evO, nmM, rdM, frz, R.rd, R.hold, R.sv, runCall, argsOf, putOuts, putOwn, andM, orM, chM, noneR, isNM, isBM, cmpD, intsB, binD, addD, subD, mulD, fdivD, modD, negD, ixD, slD, partD, fits, PySem.sizeLine_eq, biD, intD, seqD, boolsD, truD, isTy, asg, asgs, asg2, setAt, outsAt, R.out, zipD, enumD, lstAt, mutL, setF, at1])]
        rw [evB_nx (e1 := [some (.own (.list [.list (cells.map .int), .int a, .int c]) true), some (.d (.int n)), none, some (.d (.int a)), some (.d (.int 0))]) (by rfl)]
        rw [evB_nx hcell]
        rw [evB_nx (e1 := [some (.own (.list [.list (cells.map .int), .int ((a + 1 : Nat) : Int), .int c]) true), some (.d (.int n)), none, some (.d (.int a)), some (.d (.int cell))]) (by simp [evB, evS, evE, evT, evX, both, M.bind, M.ret, M.opt, evAnd, evOr, evAndT, evOrT, evR, evA, evTs, evI, evO, nmM, rdM, frz, R.rd, R.hold, R.sv, runCall, argsOf, putOuts, putOwn, andM, orM, chM, noneR, isNM, isBM, cmpD, intsB, binD, addD, subD, mulD, fdivD, modD, negD, ixD, slD, partD, fits, PySem.sizeLine_eq, biD, intD, seqD, boolsD, truD, isTy, asg, asgs, asg2, setAt, outsAt, R.out, zipD, enumD, lstAt, mutL, set1])]
        rw [evB_nx (e1 := [some (.own (.list [.list (cells.map .int), .int ((a + 1 : Nat) : Int), .int v]) true), some (.d (.int n)), none, some (.d (.int a)), some (.d (.int cell))]) (by simp [evB, evS, evE, evT, evX, both, M.bind, M.ret, M.opt, evAnd, evOr, evAndT, evOrT, evR, evA, evTs, evI, evO, nmM, rdM, frz, R.rd, R.hold, R.sv, runCall, argsOf, putOuts, putOwn, andM, orM, chM, noneR, isNM, isBM, cmpD, intsB, binD, addD, subD, mulD, fdivD, modD, negD, ixD, slD, partD, fits, PySem.sizeLine_eq, biD, intD, seqD, boolsD, truD, isTy, asg, asgs, asg2, setAt, outsAt, R.out, zipD, enumD, lstAt, mutL, set2, hv])]
        rfl
      rw [ife_tt (e1 := [some (.own (.list [.list (cells.map .int), .int a, .int c]) true), some (.d (.int n)), none, none, none]) (by simp [evB, evS, evE, evT, evX, both, M.bind, M.ret, M.opt, evAnd, evOr, evAndT, evOrT, evR, evA, evTs, evI, evO, nmM, rdM, frz, R.rd, R.hold, R.sv, runCall, argsOf, putOuts, putOwn, andM, orM, chM, noneR, isNM, isBM, cmpD, intsB, binD, addD, subD, mulD, fdivD, modD, negD, ixD, slD, partD, fits, PySem.sizeLine_eq, biD, intD, seqD, boolsD, truD, isTy, asg, asgs, asg2, setAt, outsAt, R.out, zipD, enumD, lstAt, mutL, setF, at2, hc])]
      exact e1
    · refine ⟨a, c, none, none, by omega, fun r => evB_nx ?_⟩
      subst hx
      unfold penD
      simp [evB, evS, evE, evT, evX, both, M.bind, M.ret, M.opt, evAnd, evOr, evAndT, evOrT, evR, evA, evTs, evI, evO, nmM, rdM, frz, R.rd, R.hold, R.sv, runCall, argsOf, putOuts, putOwn, andM, orM, chM, noneR, isNM, isBM, cmpD, intsB, binD, addD, subD, mulD, fdivD, modD, negD, ixD, slD, partD, fits, PySem.sizeLine_eq, biD, intD, seqD, boolsD, truD, isTy, asg, asgs, asg2, setAt, outsAt, R.out, zipD, enumD, lstAt, mutL, setF, at2, hc]
  obtain ⟨a', c', v3, v4, ha', hf⟩ := first
  refine ⟨c' % n, penD cells a' (c' / n), ?_, Int.emod_nonneg _ (by omega), Int.emod_lt_of_pos _ hn, ⟨cells, a', _, rfl, ha'⟩⟩
  have run : evB Φ cs W b__law_take [some (.own x true), some (.d (.int n)), none, none, none] = some (.ok (.rt (.d (.int (c' % n)))), [some (.own (penD cells a' (c' / n)) true), some (.d (.int n)), some (.d (.int (c' % n))), v3, v4]) := by
    unfold b__law_take
    rw [hf]
    unfold penD
    rw [evB_nx (e1 := [some (.own (.list [.list (cells.map .int), .int a', .int c']) true), some (.d (.int n)), some (.d (.int (c' % n))), v3, v4]) (by simp [evB, evS, evE, evT, evX, both, M.bind, M.ret, M.opt, evAnd, evOr, evAndT, evOrT, evR, evA, evTs, evI, evO, nmM, rdM, frz, R.rd, R.hold, R.sv, runCall, argsOf, putOuts, putOwn, andM, orM, chM, noneR, isNM, isBM, cmpD, intsB, binD, addD, subD, mulD, fdivD, modD, negD, ixD, slD, partD, fits, PySem.sizeLine_eq, biD, intD, seqD, boolsD, truD, isTy, asg, asgs, asg2, setAt, outsAt, R.out, zipD, enumD, lstAt, mutL, setF, at2, m1])]
    rw [evB_nx (e1 := [some (.own (.list [.list (cells.map .int), .int a', .int (c' / n)]) true), some (.d (.int n)), some (.d (.int (c' % n))), v3, v4]) (by simp [evB, evS, evE, evT, evX, both, M.bind, M.ret, M.opt, evAnd, evOr, evAndT, evOrT, evR, evA, evTs, evI, evO, nmM, rdM, frz, R.rd, R.hold, R.sv, runCall, argsOf, putOuts, putOwn, andM, orM, chM, noneR, isNM, isBM, cmpD, intsB, binD, addD, subD, mulD, fdivD, modD, negD, ixD, slD, partD, fits, PySem.sizeLine_eq, biD, intD, seqD, boolsD, truD, isTy, asg, asgs, asg2, setAt, outsAt, R.out, zipD, enumD, lstAt, mutL, at2, m2, set2])]
    refine evB_rt ?_
    rfl
  simp [runFn, entry, slotOf, run, outsAt, R.out]
end
end Sm

set_option maxRecDepth 100000
set_option maxHeartbeats 4000000
namespace Sm
open PySem L2
section
variable {Φ : Nat → Spec} {cs : Nat → D} {W : Nat}
def S_law_open (φ : Spec) : Prop := ∀ ns : List Int, ∃ x, φ [.d (.list (ns.map .int))] = some (.ok (.new x), []) ∧ Pen 0 x
theorem cut_to12 (ns : List Int) : cutD (ns.map PyData.int) none (some 12) = (ns.take 12).map .int := by
  unfold cutD
  have h1 : HT.sIx (ns.map PyData.int).length 0 none = 0 := rfl
  have h2 : HT.sIx (ns.map PyData.int).length (ns.map PyData.int).length (some 12) = min 12 (ns.map PyData.int).length := rfl
  rw [h1, h2, List.drop_zero, Nat.sub_zero, ← List.map_take]
  congr 1
  rw [List.length_map]
  by_cases h : ns.length ≤ 12
  · rw [Nat.min_eq_right h, List.take_length, List.take_of_length_le h]
  · rw [Nat.min_eq_left (by omega)]
theorem cut_from12 (ns : List Int) : ∃ ys : List Int, cutD (ns.map PyData.int) (some 12) (some 63) = ys.map .int ∧ (ys ≠ [] → 12 ≤ ns.length) := by
  unfold cutD
  have h1 : HT.sIx (ns.map PyData.int).length 0 (some 12) = min 12 (ns.map PyData.int).length := rfl
  have h2 : HT.sIx (ns.map PyData.int).length (ns.map PyData.int).length (some 63) = min 63 (ns.map PyData.int).length := rfl
  rw [h1, h2, ← List.map_drop, ← List.map_take]
  refine ⟨_, rfl, fun h => ?_⟩
  by_cases q : 12 ≤ ns.length
  · exact q
  · exfalso
    apply h
    rw [List.length_map, List.drop_of_length_le (by omega), List.take_nil]
theorem for_open (ns ys cells : List Int) (w2 w3 : Option SV) (h2 : ∀ x, w2 ≠ some (.own x true)) (h3 : ∀ x, w3 ≠ some (.own x true)) (hy : cutD (ns.map PyData.int) (some 12) (some 63) = ys.map .int) (hl : ys ≠ [] → cells.length = 12) :
    ∃ e2 : Env, evS Φ cs W l__law_open_0 [some (.d (.list (ns.map .int))), some (.own (.list (cells.map .int)) false), w2, w3] = some (.ok .nx, e2) ∧ ∃ (cells' : List Int) (w2 w3 : Option SV), e2 = [some (.d (.list (ns.map .int))), some (.own (.list (cells'.map .int)) false), w2, w3] := by
  unfold l__law_open_0
  obtain ⟨e2, h1, ⟨cells', u2, u3, _, _, _, he⟩, _⟩ := for_all (Φ := Φ) (cs := cs) (W := W) (t := .tup (.cons (.nm 2) (.cons (.nm 3) .nil))) (it := .enum (.sl (.nm 0) (.yes (.lit (.int 12))) (.yes (.lit (.int 63))))) (b := lb__law_open_0)
    (I := fun xs e => (∃ (cells' : List Int) (w2 w3 : Option SV), (xs ≠ [] → cells'.length = 12) ∧ (∀ x, w2 ≠ some (.own x true)) ∧ (∀ x, w3 ≠ some (.own x true)) ∧ e = [some (.d (.list (ns.map .int))), some (.own (.list (cells'.map .int)) false), w2, w3]) ∧ ∃ (k : Nat) (zs : List Int), xs = numbered (zs.map PyData.int) k)
    (e := [some (.d (.list (ns.map .int))), some (.own (.list (cells.map .int)) false), w2, w3]) (e1 := [some (.d (.list (ns.map .int))), some (.own (.list (cells.map .int)) false), w2, w3]) (ds := numbered (ys.map .int) 0)
    (by simp [evB, evS, evE, evT, evX, both, M.bind, M.ret, M.opt, evAnd, evOr, evAndT, evOrT, evR, evA, evTs, evI, evO, nmM, rdM, frz, R.rd, R.hold, R.sv, runCall, argsOf, putOuts, putOwn, andM, orM, chM, noneR, isNM, isBM, cmpD, intsB, binD, addD, subD, mulD, fdivD, modD, powD, negD, ixD, slD, partD, fits, PySem.sizeLine_eq, lenD, biD, intD, seqD, boolsD, truD, isTy, asg, asgs, asg2, setAt, outsAt, R.out, r1D, r2D, zipD, enumD, lstAt, mutL, setF, hy]) ⟨⟨cells, w2, w3, fun h => hl fun e => h (by rw [e]; rfl), h2, h3, rfl⟩, 0, ys, rfl⟩ (fun x r e ⟨⟨cells', u2, u3, hc, z2, z3, he⟩, k, zs, hk⟩ => by
      subst he
      cases zs with
      | nil => cases hk
      | cons z zs =>
        have hk : x :: r = .tuple [.int k, .int z] :: numbered (zs.map PyData.int) (k + 1) := hk
        cases hk
        have hc12 := hc (by simp)
        obtain ⟨j, hj⟩ : ∃ j : Int, j = (k : Int) % 12 := ⟨_, rfl⟩
        have j0 : 0 ≤ j := by rw [hj]; exact Int.emod_nonneg _ (by omega)
        have j1 : j < 12 := by rw [hj]; exact Int.emod_lt_of_pos _ (by omega)
        have hlt : j.toNat < cells'.length := by omega
        have m12 : posI 12 = true := rfl
        have hat : atI (cells'.map PyData.int) j = some (.int cells'[j.toNat]) := by
          have := atI_nat (xs := cells'.map PyData.int) (j := j.toNat) (v := .int cells'[j.toNat]) (by rw [List.getElem?_map, List.getElem?_eq_getElem hlt]; rfl)
          rwa [show ((j.toNat : Nat) : Int) = j by omega] at this
        have hset : ∀ v : Int, setF (.int j) (.int v) (cells'.map PyData.int) = some ((cells'.set j.toNat v).map .int) := fun v => by
          show (ixN (cells'.map PyData.int).length j).map _ = _
          have : ixN (cells'.map PyData.int).length j = some j.toNat := by
            unfold ixN
            rw [List.length_map, if_pos j0, if_pos (by omega)]
          rw [this, Option.map_some, ← List.map_set]
        refine ⟨[some (.d (.list (ns.map .int))), some (.own (.list (cells'.map .int)) false), some (.d (.int k)), some (.d (.int z))], ?_, [some (.d (.list (ns.map .int))), some (.own (.list ((cells'.set j.toNat (cells'[j.toNat] + z)).map .int)) false), some (.d (.int k)), some (.d (.int z))], .inl ?_, ⟨_, _, _, fun _ => by rw [List.length_set]; exact hc12, (fun x e => by cases e), (fun x e => by cases e), rfl⟩, k + 1, zs, rfl⟩
        · cases u2 with
          | none => cases u3 with
            | none => rfl
            | some sv => cases sv with
              | own y b => cases b with
                | true => exact absurd rfl (z3 y)
                | false => rfl
              | _ => rfl
          | some sw => cases sw with
            | own y b => cases b with
              | true => exact absurd rfl (z2 y)
              | false => cases u3 with
                | none => rfl
                | some sv => cases sv with
                  | own y b => cases b with
                    | true => exact absurd rfl (z3 y)
                    | false => rfl
                  | _ => rfl
            | _ => cases u3 with
              | none => rfl
              | some sv => cases sv with
                | own y b => cases b with
                  | true => exact absurd rfl (z3 y)
                  | false => rfl
                | _ => rfl
        · simp [lb__law_open_0, evB, evS, evE, evT, evX, both, M.bind, M.ret, M.opt, evAnd, evOr, evAndT, evOrT, evR, evA, evTs, evI, evO, nmM, rdM, frz, R.rd, R.hold, R.sv, runCall, argsOf, putOuts, putOwn, andM, orM, chM, noneR, isNM, isBM, cmpD, intsB, binD, addD, subD, mulD, fdivD, modD, negD, ixD, slD, partD, fits, PySem.sizeLine_eq, biD, intD, seqD, boolsD, truD, isTy, asg, asgs, asg2, setAt, outsAt, R.out, zipD, enumD, lstAt, mutL, m12, ← hj, hat, hset])
  exact ⟨e2, h1, cells', u2, u3, he⟩
theorem p_law_open : S_law_open (runFn 1 4 (evB Φ cs W b__law_open)) := by
  intro ns
  obtain ⟨ys, hy, hl⟩ := cut_from12 ns
  obtain ⟨e2, h1, cells', u2, u3, rfl⟩ := for_open (Φ := Φ) (cs := cs) (W := W) ns ys (ns.take 12) none none (fun x e => by cases e) (fun x e => by cases e) hy (fun h => by
    have := hl h
    rw [List.length_take]; omega)
  refine ⟨penD cells' 0 0, ?_, ⟨cells', 0, 0, rfl, Nat.le_refl _⟩⟩
  have run : evB Φ cs W b__law_open [some (.d (.list (ns.map .int))), none, none, none] = some (.ok (.rt (.new (penD cells' 0 0))), [some (.d (.list (ns.map .int))), some (.d (.list (cells'.map .int))), u2, u3]) := by
    unfold b__law_open
    rw [evB_nx (e1 := [some (.d (.list (ns.map .int))), some (.own (.list ((ns.take 12).map .int)) false), none, none]) (by simp [evB, evS, evE, evT, evX, both, M.bind, M.ret, M.opt, evAnd, evOr, evAndT, evOrT, evR, evA, evTs, evI, evO, nmM, rdM, frz, R.rd, R.hold, R.sv, runCall, argsOf, putOuts, putOwn, andM, orM, chM, noneR, isNM, isBM, cmpD, intsB, binD, addD, subD, mulD, fdivD, modD, powD, negD, ixD, slD, partD, fits, PySem.sizeLine_eq, lenD, biD, intD, seqD, boolsD, truD, isTy, asg, asgs, asg2, setAt, outsAt, R.out, r1D, r2D, zipD, enumD, lstAt, mutL, setF, cut_to12])]
    rw [evB_nx h1]
    refine evB_rt ?_
    unfold penD
    simp [evB, evS, evE, evT, evX, both, M.bind, M.ret, M.opt, evAnd, evOr, evAndT, evOrT, evR, evA, evTs, evI, evO, nmM, rdM, frz, R.rd, R.hold, R.sv, runCall, argsOf, putOuts, putOwn, andM, orM, chM, noneR, isNM, isBM, cmpD, intsB, binD, addD, subD, mulD, fdivD, modD, powD, negD, ixD, slD, partD, fits, PySem.sizeLine_eq, lenD, biD, intD, seqD, boolsD, truD, isTy, asg, asgs, asg2, setAt, outsAt, R.out, r1D, r2D, zipD, enumD, lstAt, mutL, setF]
  simp [runFn, entry, slotOf, run, outsAt, R.out]
end
end Sm

set_option maxRecDepth 100000
set_option maxHeartbeats 4000000
namespace Sm
open PySem L2
/-! ### k02 -/
def ns10 : List Str := ["NoProgram", "NoStarts", "NoState", "NoKept", "NoPrices", "NoNumber", "NoThread", "NoPlace", "NoMove", "TooMany"]
theorem isx_exc (ys : List (Str × Bool)) (x : Str) : isxD ys (excD x) = (ys.lookup x).map fun b => .d (.bool b) := rfl
theorem lk_NoProgram : ∀ x ∈ (("StandError" : Str) :: ns10), List.lookup x ([("NoProgram", true), ("NoStarts", false), ("NoState", false), ("NoKept", false), ("NoPrices", false), ("NoNumber", false), ("NoThread", false), ("NoPlace", false), ("NoMove", false), ("TooMany", false), ("StandError", false)] : List (Str × Bool)) = some (decide (x = "NoProgram")) := by decide +kernel
theorem lk_NoStarts : ∀ x ∈ (("StandError" : Str) :: ns10), List.lookup x ([("NoProgram", false), ("NoStarts", true), ("NoState", false), ("NoKept", false), ("NoPrices", false), ("NoNumber", false), ("NoThread", false), ("NoPlace", false), ("NoMove", false), ("TooMany", false), ("StandError", false)] : List (Str × Bool)) = some (decide (x = "NoStarts")) := by decide +kernel
theorem lk_NoState : ∀ x ∈ (("StandError" : Str) :: ns10), List.lookup x ([("NoProgram", false), ("NoStarts", false), ("NoState", true), ("NoKept", false), ("NoPrices", false), ("NoNumber", false), ("NoThread", false), ("NoPlace", false), ("NoMove", false), ("TooMany", false), ("StandError", false)] : List (Str × Bool)) = some (decide (x = "NoState")) := by decide +kernel
theorem lk_NoKept : ∀ x ∈ (("StandError" : Str) :: ns10), List.lookup x ([("NoProgram", false), ("NoStarts", false), ("NoState", false), ("NoKept", true), ("NoPrices", false), ("NoNumber", false), ("NoThread", false), ("NoPlace", false), ("NoMove", false), ("TooMany", false), ("StandError", false)] : List (Str × Bool)) = some (decide (x = "NoKept")) := by decide +kernel
theorem lk_NoPrices : ∀ x ∈ (("StandError" : Str) :: ns10), List.lookup x ([("NoProgram", false), ("NoStarts", false), ("NoState", false), ("NoKept", false), ("NoPrices", true), ("NoNumber", false), ("NoThread", false), ("NoPlace", false), ("NoMove", false), ("TooMany", false), ("StandError", false)] : List (Str × Bool)) = some (decide (x = "NoPrices")) := by decide +kernel
theorem lk_NoNumber : ∀ x ∈ (("StandError" : Str) :: ns10), List.lookup x ([("NoProgram", false), ("NoStarts", false), ("NoState", false), ("NoKept", false), ("NoPrices", false), ("NoNumber", true), ("NoThread", false), ("NoPlace", false), ("NoMove", false), ("TooMany", false), ("StandError", false)] : List (Str × Bool)) = some (decide (x = "NoNumber")) := by decide +kernel
theorem lk_NoThread : ∀ x ∈ (("StandError" : Str) :: ns10), List.lookup x ([("NoProgram", false), ("NoStarts", false), ("NoState", false), ("NoKept", false), ("NoPrices", false), ("NoNumber", false), ("NoThread", true), ("NoPlace", false), ("NoMove", false), ("TooMany", false), ("StandError", false)] : List (Str × Bool)) = some (decide (x = "NoThread")) := by decide +kernel
theorem lk_NoPlace : ∀ x ∈ (("StandError" : Str) :: ns10), List.lookup x ([("NoProgram", false), ("NoStarts", false), ("NoState", false), ("NoKept", false), ("NoPrices", false), ("NoNumber", false), ("NoThread", false), ("NoPlace", true), ("NoMove", false), ("TooMany", false), ("StandError", false)] : List (Str × Bool)) = some (decide (x = "NoPlace")) := by decide +kernel
theorem lk_NoMove : ∀ x ∈ (("StandError" : Str) :: ns10), List.lookup x ([("NoProgram", false), ("NoStarts", false), ("NoState", false), ("NoKept", false), ("NoPrices", false), ("NoNumber", false), ("NoThread", false), ("NoPlace", false), ("NoMove", true), ("TooMany", false), ("StandError", false)] : List (Str × Bool)) = some (decide (x = "NoMove")) := by decide +kernel
theorem lk_TooMany : ∀ x ∈ (("StandError" : Str) :: ns10), List.lookup x ([("NoProgram", false), ("NoStarts", false), ("NoState", false), ("NoKept", false), ("NoPrices", false), ("NoNumber", false), ("NoThread", false), ("NoPlace", false), ("NoMove", false), ("TooMany", true), ("StandError", false)] : List (Str × Bool)) = some (decide (x = "TooMany")) := by decide +kernel
section
variable {Φ : Nat → Spec} {cs : Nat → D} {W : Nat}
def S_one_each (φ : Spec) : Prop := ∀ t : Str, φ [.d (.str t)] = some (.ok (.new (.list (ns10.map excD))), [])
theorem p_one_each : S_one_each (runFn 1 2 (evB Φ cs W b__law_one_each)) := by
  intro t
  simp [runFn, b__law_one_each, entry, slotOf, evB, evS, evE, evT, evX, both, M.bind, M.ret, M.opt, evAnd, evOr, evAndT, evOrT, evR, evA, evTs, evI, evO, nmM, rdM, frz, R.rd, R.hold, R.sv, runCall, argsOf, putOuts, putOwn, andM, orM, chM, noneR, isNM, isBM, cmpD, intsB, binD, subD, fdivD, modD, negD, ixD, slD, partD, fits, PySem.sizeLine_eq, biD, intD, seqD, boolsD, truD, isTy, asg, asgs, asg2, setAt, outsAt, R.out, zipD, enumD, lstAt, mutL, setF, addD, ns10]
def kindsOf (x : Str) : List D := ns10.map fun y => .bool (decide (x = y))
def S_kinds (φ : Spec) : Prop := ∀ x ∈ ("StandError" : Str) :: ns10, φ [.d (excD x)] = some (.ok (.new (.list (kindsOf x))), [])
theorem p_kinds : S_kinds (runFn 1 2 (evB Φ cs W b__law_kinds)) := by
  intro x hx
  have hNoProgram : isxD [("NoProgram", true), ("NoStarts", false), ("NoState", false), ("NoKept", false), ("NoPrices", false), ("NoNumber", false), ("NoThread", false), ("NoPlace", false), ("NoMove", false), ("TooMany", false), ("StandError", false)] (excD x) = some (.d (.bool (decide (x = "NoProgram")))) := by rw [isx_exc, lk_NoProgram x hx]; rfl
  have hNoStarts : isxD [("NoProgram", false), ("NoStarts", true), ("NoState", false), ("NoKept", false), ("NoPrices", false), ("NoNumber", false), ("NoThread", false), ("NoPlace", false), ("NoMove", false), ("TooMany", false), ("StandError", false)] (excD x) = some (.d (.bool (decide (x = "NoStarts")))) := by rw [isx_exc, lk_NoStarts x hx]; rfl
  have hNoState : isxD [("NoProgram", false), ("NoStarts", false), ("NoState", true), ("NoKept", false), ("NoPrices", false), ("NoNumber", false), ("NoThread", false), ("NoPlace", false), ("NoMove", false), ("TooMany", false), ("StandError", false)] (excD x) = some (.d (.bool (decide (x = "NoState")))) := by rw [isx_exc, lk_NoState x hx]; rfl
  have hNoKept : isxD [("NoProgram", false), ("NoStarts", false), ("NoState", false), ("NoKept", true), ("NoPrices", false), ("NoNumber", false), ("NoThread", false), ("NoPlace", false), ("NoMove", false), ("TooMany", false), ("StandError", false)] (excD x) = some (.d (.bool (decide (x = "NoKept")))) := by rw [isx_exc, lk_NoKept x hx]; rfl
  have hNoPrices : isxD [("NoProgram", false), ("NoStarts", false), ("NoState", false), ("NoKept", false), ("NoPrices", true), ("NoNumber", false), ("NoThread", false), ("NoPlace", false), ("NoMove", false), ("TooMany", false), ("StandError", false)] (excD x) = some (.d (.bool (decide (x = "NoPrices")))) := by rw [isx_exc, lk_NoPrices x hx]; rfl
  have hNoNumber : isxD [("NoProgram", false), ("NoStarts", false), ("NoState", false), ("NoKept", false), ("NoPrices", false), ("NoNumber", true), ("NoThread", false), ("NoPlace", false), ("NoMove", false), ("TooMany", false), ("StandError", false)] (excD x) = some (.d (.bool (decide (x = "NoNumber")))) := by rw [isx_exc, lk_NoNumber x hx]; rfl
  have hNoThread : isxD [("NoProgram", false), ("NoStarts", false), ("NoState", false), ("NoKept", false), ("NoPrices", false), ("NoNumber", false), ("NoThread", true), ("NoPlace", false), ("NoMove", false), ("TooMany", false), ("StandError", false)] (excD x) = some (.d (.bool (decide (x = "NoThread")))) := by rw [isx_exc, lk_NoThread x hx]; rfl
  have hNoPlace : isxD [("NoProgram", false), ("NoStarts", false), ("NoState", false), ("NoKept", false), ("NoPrices", false), ("NoNumber", false), ("NoThread", false), ("NoPlace", true), ("NoMove", false), ("TooMany", false), ("StandError", false)] (excD x) = some (.d (.bool (decide (x = "NoPlace")))) := by rw [isx_exc, lk_NoPlace x hx]; rfl
  have hNoMove : isxD [("NoProgram", false), ("NoStarts", false), ("NoState", false), ("NoKept", false), ("NoPrices", false), ("NoNumber", false), ("NoThread", false), ("NoPlace", false), ("NoMove", true), ("TooMany", false), ("StandError", false)] (excD x) = some (.d (.bool (decide (x = "NoMove")))) := by rw [isx_exc, lk_NoMove x hx]; rfl
  have hTooMany : isxD [("NoProgram", false), ("NoStarts", false), ("NoState", false), ("NoKept", false), ("NoPrices", false), ("NoNumber", false), ("NoThread", false), ("NoPlace", false), ("NoMove", false), ("TooMany", true), ("StandError", false)] (excD x) = some (.d (.bool (decide (x = "TooMany")))) := by rw [isx_exc, lk_TooMany x hx]; rfl
  have hk : kindsOf x = [.bool (decide (x = "NoProgram")), .bool (decide (x = "NoStarts")), .bool (decide (x = "NoState")), .bool (decide (x = "NoKept")), .bool (decide (x = "NoPrices")), .bool (decide (x = "NoNumber")), .bool (decide (x = "NoThread")), .bool (decide (x = "NoPlace")), .bool (decide (x = "NoMove")), .bool (decide (x = "TooMany"))] := rfl
  rw [hk]
  generalize decide (x = "NoProgram") = bNoProgram at hNoProgram ⊢
  generalize decide (x = "NoStarts") = bNoStarts at hNoStarts ⊢
  generalize decide (x = "NoState") = bNoState at hNoState ⊢
  generalize decide (x = "NoKept") = bNoKept at hNoKept ⊢
  generalize decide (x = "NoPrices") = bNoPrices at hNoPrices ⊢
  generalize decide (x = "NoNumber") = bNoNumber at hNoNumber ⊢
  generalize decide (x = "NoThread") = bNoThread at hNoThread ⊢
  generalize decide (x = "NoPlace") = bNoPlace at hNoPlace ⊢
  generalize decide (x = "NoMove") = bNoMove at hNoMove ⊢
  generalize decide (x = "TooMany") = bTooMany at hTooMany ⊢
  generalize excD x = EX at hNoProgram hNoStarts hNoState hNoKept hNoPrices hNoNumber hNoThread hNoPlace hNoMove hTooMany ⊢
  simp [runFn, b__law_kinds, entry, slotOf, evB, evS, evE, evT, evX, both, M.bind, M.ret, M.opt, evAnd, evOr, evAndT, evOrT, evR, evA, evTs, evI, evO, nmM, rdM, frz, R.rd, R.hold, R.sv, runCall, argsOf, putOuts, putOwn, andM, orM, chM, noneR, isNM, isBM, cmpD, intsB, binD, subD, fdivD, modD, negD, ixD, slD, partD, fits, PySem.sizeLine_eq, biD, intD, seqD, boolsD, truD, isTy, asg, asgs, asg2, setAt, outsAt, R.out, zipD, enumD, lstAt, mutL, setF, addD, hNoProgram, hNoStarts, hNoState, hNoKept, hNoPrices, hNoNumber, hNoThread, hNoPlace, hNoMove, hTooMany]
end
end Sm

set_option maxRecDepth 100000
set_option maxHeartbeats 4000000
namespace Sm
open PySem L2
theorem ok_is_integer : DefOk i_is_integer := ⟨rfl, ⟨rfl, rfl, rfl, by decide +kernel, rfl, by decide +kernel, by decide +kernel⟩, by decide, ⟨rfl, rfl⟩, fun _ _ _ _ _ _ us hl => match us, hl with | [_], _ => rfl⟩
theorem ok_is_number : DefOk i_is_number := ⟨rfl, ⟨rfl, rfl, rfl, by decide +kernel, rfl, by decide +kernel, by decide +kernel⟩, by decide, ⟨rfl, rfl⟩, fun _ _ _ _ _ _ us hl => match us, hl with | [_], _ => rfl⟩
theorem ok_is_between : DefOk i_is_between := ⟨rfl, ⟨rfl, rfl, rfl, by decide +kernel, rfl, by decide +kernel, by decide +kernel⟩, by decide, ⟨rfl, rfl⟩, fun _ _ _ _ _ _ us hl => match us, hl with | [_, _, _], _ => rfl⟩
theorem ok_is_row : DefOk i_is_row := ⟨rfl, ⟨rfl, rfl, rfl, by decide +kernel, rfl, by decide +kernel, by decide +kernel⟩, by decide, ⟨rfl, rfl⟩, fun _ _ _ _ _ _ us hl => match us, hl with | [_, _], _ => rfl⟩
theorem ok_number_ranges : DefOk i_number_ranges := ⟨rfl, ⟨rfl, rfl, rfl, by decide +kernel, rfl, by decide +kernel, by decide +kernel⟩, by decide, ⟨rfl, rfl⟩, fun _ _ _ _ _ _ us hl => match us, hl with | [_, _], _ => rfl⟩
theorem ok_is_instruction : DefOk i_is_instruction := ⟨rfl, ⟨rfl, rfl, rfl, by decide +kernel, rfl, by decide +kernel, by decide +kernel⟩, by decide, ⟨rfl, rfl⟩, fun _ _ _ _ _ _ us hl => match us, hl with | [_, _], _ => rfl⟩
theorem ok_is_function : DefOk i_is_function := ⟨rfl, ⟨rfl, rfl, rfl, by decide +kernel, rfl, by decide +kernel, by decide +kernel⟩, by decide, ⟨rfl, rfl⟩, fun _ _ _ _ _ _ us hl => match us, hl with | [_, _], _ => rfl⟩
theorem ok_is_program : DefOk i_is_program := ⟨rfl, ⟨rfl, rfl, rfl, by decide +kernel, rfl, by decide +kernel, by decide +kernel⟩, by decide, ⟨rfl, rfl⟩, fun _ _ _ _ _ _ us hl => match us, hl with | [_], _ => rfl⟩
theorem ok__law_open : DefOk i__law_open := ⟨rfl, ⟨rfl, rfl, rfl, by decide +kernel, rfl, by decide +kernel, by decide +kernel⟩, by decide, ⟨rfl, rfl⟩, fun _ _ _ _ _ _ us hl => match us, hl with | [_], _ => rfl⟩
theorem ok__law_spread : DefOk i__law_spread := ⟨rfl, ⟨rfl, rfl, rfl, by decide +kernel, rfl, by decide +kernel, by decide +kernel⟩, by decide, ⟨rfl, rfl⟩, fun _ _ _ _ _ _ us hl => match us, hl with | [_, _], _ => rfl⟩
theorem ok__law_take : DefOk i__law_take := ⟨rfl, ⟨rfl, rfl, rfl, by decide +kernel, rfl, by decide +kernel, by decide +kernel⟩, by decide, ⟨rfl, rfl⟩, fun _ _ _ _ _ _ us hl => match us, hl with | [_, _], _ => rfl⟩
theorem ok__law_one_each : DefOk i__law_one_each := ⟨rfl, ⟨rfl, rfl, rfl, by decide +kernel, rfl, by decide +kernel, by decide +kernel⟩, by decide, ⟨rfl, rfl⟩, fun _ _ _ _ _ _ us hl => match us, hl with | [_], _ => rfl⟩
theorem ok__law_kinds : DefOk i__law_kinds := ⟨rfl, ⟨rfl, rfl, rfl, by decide +kernel, rfl, by decide +kernel, by decide +kernel⟩, by decide, ⟨rfl, rfl⟩, fun _ _ _ _ _ _ us hl => match us, hl with | [_], _ => rfl⟩
theorem ok0 : AllOk ds0 := ⟨ok_is_integer, ok_is_number, ok_is_between, ok_is_row, ok_number_ranges, ok_is_instruction, ok_is_function, ok_is_program, ok__law_open, ok__law_spread, ok__law_take, ok__law_one_each, ok__law_kinds, trivial⟩
theorem fit0 : fitsB ds0 cl0 xi0 = true := by decide +kernel
theorem fitL : chB (tbN ds0 (cnOf cl0) (dnOf cl0) xi0 true ds0.length) L0.N L0.d.scope L0.m L0.d.body = true := by decide +kernel
theorem scL : FnScope L0.N [L0.x] L0.d.scope := ⟨rfl, rfl, rfl, by decide +kernel, rfl, by decide +kernel, by decide +kernel⟩
end Sm

set_option maxRecDepth 100000
set_option maxHeartbeats 4000000
namespace Sm
open PySem L2
section
variable {Φ : Nat → Spec} {cs : Nat → D} {W : Nat}
def row10 : List (Int × Str) := [(0, "NoProgram"), (1, "NoStarts"), (2, "NoState"), (3, "NoKept"), (4, "NoPrices"), (5, "NoNumber"), (6, "NoThread"), (7, "NoPlace"), (8, "NoMove"), (9, "TooMany")]
def eqK (k : Int) : D → D
  | .int i => .bool (decide (i = k))
  | d => d
theorem num10 : numbered (ns10.map excD) 0 = row10.map fun p => .tuple [.int p.1, excD p.2] := rfl
theorem ne10 : ∀ p ∈ row10, neD (.list (kindsOf p.2)) (.list ((rowN 10).map (eqK p.1))) = some false := by decide +kernel
theorem in10 : ∀ p ∈ row10, p.2 ∈ (("StandError" : Str) :: ns10) := by decide +kernel
theorem one_error (hk : S_kinds (Φ f__law_kinds)) {p : Int × Str} (hp : p ∈ row10) {v0 v1 v2 v3 v4 : Option SV} :
    evB Φ cs W lb_law_0 [v0, v1, v2, v3, v4, some (.d (.int p.1)), some (.d (excD p.2)), none] = some (.ok .nx, [v0, v1, v2, v3, v4, some (.d (.int p.1)), some (.d (excD p.2)), none]) := by
  have h1 := hk p.2 (in10 p hp)
  have h2 := ne10 p hp
  have c1 : (evX Φ cs c_law_1).1 [v0, v1, v2, v3, v4, some (.d (.int p.1)), some (.d (excD p.2)), none] = some (.ok (.new (.list ((rowN 10).map (eqK p.1)))), [v0, v1, v2, v3, v4, some (.d (.int p.1)), some (.d (excD p.2)), none]) := by
    unfold c_law_1
    refine lc_map (ds := rowN 10) _ (by rfl) (fun x hx => ?_) (by decide)
    obtain ⟨i, _, rfl⟩ := List.mem_map.mp hx
    simp [turn1, wipeE, unwipe, isArg, evB, evS, evE, evT, evX, both, M.bind, M.ret, M.opt, evAnd, evOr, evAndT, evOrT, evR, evA, evTs, evI, evO, nmM, rdM, frz, R.rd, R.hold, R.sv, runCall, argsOf, putOuts, putOwn, andM, orM, chM, noneR, isNM, isBM, cmpD, intsB, binD, addD, subD, mulD, fdivD, modD, negD, ixD, slD, partD, fits, PySem.sizeLine_eq, lenD, biD, intD, seqD, boolsD, truD, isTy, asg, asgs, asg2, setAt, outsAt, R.out, zipD, enumD, lstAt, mutL, setF, eqD_int, eqK]
  have h3 : ∀ ys : List (Str × Bool), (∀ q ∈ ns10, ys.lookup q = some true) → isxD ys (excD p.2) = some (.d (.bool true)) := fun ys hy => by
    rw [isx_exc, hy p.2 (by
      have := in10 p hp
      simp only [row10, List.mem_cons, List.not_mem_nil, or_false] at hp
      rcases hp with rfl | rfl | rfl | rfl | rfl | rfl | rfl | rfl | rfl | rfl <;> simp [ns10])]
    rfl
  generalize excD p.2 = EX at h1 h3 c1 ⊢
  generalize kindsOf p.2 = KS at h1 h2
  generalize (rowN 10).map (eqK p.1) = RS at c1 h2
  obtain ⟨ys, hys⟩ : ∃ ys : List (Str × Bool), ys = ([("NoProgram", true), ("NoStarts", true), ("NoState", true), ("NoKept", true), ("NoPrices", true), ("NoNumber", true), ("NoThread", true), ("NoPlace", true), ("NoMove", true), ("TooMany", true), ("StandError", true)] : List (Str × Bool)) := ⟨_, rfl⟩
  have h4 := h3 ys (by rw [hys]; decide +kernel)
  unfold lb_law_0
  rw [← hys]
  rw [evB_nx (e1 := [v0, v1, v2, v3, v4, some (.d (.int p.1)), some (.d EX), none]) (by simp [evB, evS, evE, evT, evX, both, M.bind, M.ret, M.opt, evAnd, evOr, evAndT, evOrT, evR, evA, evTs, evI, evO, nmM, rdM, frz, R.rd, R.hold, R.sv, runCall, argsOf, putOuts, putOwn, andM, orM, chM, noneR, isNM, isBM, cmpD, intsB, binD, addD, subD, mulD, fdivD, modD, negD, ixD, slD, partD, fits, PySem.sizeLine_eq, lenD, biD, intD, seqD, boolsD, truD, isTy, asg, asgs, asg2, setAt, outsAt, R.out, zipD, enumD, lstAt, mutL, setF, h4])]
  rw [evB_nx (e1 := [v0, v1, v2, v3, v4, some (.d (.int p.1)), some (.d EX), none]) (by simp [evB, evS, evE, evT, evX, both, M.bind, M.ret, M.opt, evAnd, evOr, evAndT, evOrT, evR, evA, evTs, evI, evO, nmM, rdM, frz, R.rd, R.hold, R.sv, runCall, argsOf, putOuts, putOwn, andM, orM, chM, noneR, isNM, isBM, cmpD, intsB, binD, addD, subD, mulD, fdivD, modD, negD, ixD, slD, partD, fits, PySem.sizeLine_eq, lenD, biD, intD, seqD, boolsD, truD, isTy, asg, asgs, asg2, setAt, outsAt, R.out, zipD, enumD, lstAt, mutL, setF, h1, c1, h2])]
  rfl
theorem one_row (hk : S_kinds (Φ f__law_kinds)) {v0 v1 v2 v4 w5 w6 : Option SV} (n5 : NA w5) (n6 : NA w6) :
    ∃ u5 u6, evS Φ cs W l_law_0 [v0, v1, v2, some (.d (.list (ns10.map excD))), v4, w5, w6, none] = some (.ok .nx, [v0, v1, v2, some (.d (.list (ns10.map excD))), v4, u5, u6, none]) ∧ NA u5 ∧ NA u6 := by
  unfold l_law_0
  obtain ⟨e2, h1, _, u5, u6, m5, m6, rfl⟩ := for_all (Φ := Φ) (cs := cs) (W := W) (t := .tup (.cons (.nm 5) (.cons (.nm 6) .nil))) (it := .enum (.nm 3)) (b := lb_law_0) (ds := row10.map fun p => .tuple [.int p.1, excD p.2])
    (e := [v0, v1, v2, some (.d (.list (ns10.map excD))), v4, w5, w6, none]) (e1 := [v0, v1, v2, some (.d (.list (ns10.map excD))), v4, w5, w6, none])
    (I := fun xs e => (∀ d ∈ xs, ∃ p ∈ row10, d = .tuple [.int p.1, excD p.2]) ∧ ∃ w5 w6, NA w5 ∧ NA w6 ∧ e = [v0, v1, v2, some (.d (.list (ns10.map excD))), v4, w5, w6, none])
    (by
      have e := num10
      generalize ns10.map excD = ES at e ⊢
      simp [evB, evS, evE, evT, evX, both, M.bind, M.ret, M.opt, evAnd, evOr, evAndT, evOrT, evR, evA, evTs, evI, evO, nmM, rdM, frz, R.rd, R.hold, R.sv, runCall, argsOf, putOuts, putOwn, andM, orM, chM, noneR, isNM, isBM, cmpD, intsB, binD, addD, subD, mulD, fdivD, modD, negD, ixD, slD, partD, fits, PySem.sizeLine_eq, lenD, biD, intD, seqD, boolsD, truD, isTy, asg, asgs, asg2, setAt, outsAt, R.out, zipD, enumD, lstAt, mutL, setF, e]) ⟨fun d hd => by
        obtain ⟨p, hp, rfl⟩ := List.mem_map.mp hd
        exact ⟨p, hp, rfl⟩, w5, w6, n5, n6, rfl⟩
    (fun d r e ⟨hd, w5, w6, n5, n6, he⟩ => by
      subst he
      obtain ⟨p, hp, rfl⟩ := hd d List.mem_cons_self
      refine ⟨[v0, v1, v2, some (.d (.list (ns10.map excD))), v4, some (.d (.int p.1)), some (.d (excD p.2)), none], ?_, _, .inl (one_error hk hp), fun z hz => hd z (List.mem_cons_of_mem _ hz), _, _, na_d _, na_d _, rfl⟩
      have a1 := asg_d (e := [v0, v1, v2, some (.d (.list (ns10.map excD))), v4, w5, w6, none]) (i := 5) (d := .int p.1) (w := w5) rfl n5
      have a2 := asg_d (e := [v0, v1, v2, some (.d (.list (ns10.map excD))), v4, some (.d (.int p.1)), w6, none]) (i := 6) (d := excD p.2) (w := w6) rfl n6
      simp only [List.set_cons_succ, List.set_cons_zero] at a1 a2
      simp only [asg, R.rd, asgs]
      unfold asg at a1 a2
      simp only [a1, a2])
  exact ⟨u5, u6, h1, m5, m6⟩
theorem rows_list (h1 : S_one_each (Φ f__law_one_each)) (ht : S_law_take (Φ f__law_take)) {x : D} {m : Nat} (hx : Pen m x) (hm : m < 999999000) {v0 : Option SV} :
    ∃ x', (evX Φ cs c_law_0).1 [v0, some (.own x false), none, none, none, none, none, none] = some (.ok (.new (.list [.list (ns10.map excD), .list (ns10.map excD)])), [v0, some (.own x' false), none, none, none, none, none, none]) ∧ Pen (m + 2) x' := by
  unfold c_law_0
  obtain ⟨ys, e2, h2, h3, h4, x', h5, rfl⟩ := lc_range (Φ := Φ) (cs := cs) (elt := .call f__law_one_each (.cons (.ix (.lst (.cons (.lit (.str "")) (.cons (.lit (.str "one")) (.cons (.lit (.str "two words")) .nil)))) (.call f__law_take (.cons (.nm 1) (.cons (.lit (.int 3)) .nil)))) .nil)) (t := .nm 4) (it := .r1 (.lit (.int 2))) (ifs := .nil) (own := [4]) (n := 2)
    (e := [v0, some (.own x false), none, none, none, none, none, none]) (e1 := [v0, some (.own x false), none, none, none, none, none, none])
    (fun j ys e => ys = List.replicate j (.list (ns10.map excD)) ∧ ∃ x', Pen (m + j) x' ∧ e = [v0, some (.own x' false), none, none, none, none, none, none])
    (by rfl) ⟨rfl, x, hx, rfl⟩
    (fun j ys e hj _ ⟨h3, x', h4, h5⟩ => by
      subst h3 h5
      obtain ⟨k, x'', e1, k0, k1, hx''⟩ := ht (m + j) x' 3 h4 (by omega) (by omega) (by omega)
      refine ⟨.list (ns10.map excD), [v0, some (.own x'' false), none, none, none, none, none, none], ?_, by rw [List.replicate_succ'], x'', hx'', rfl⟩
      obtain ⟨t, hat⟩ : ∃ t : Str, atI [PyData.str "", .str "one", .str "two words"] k = some (.str t) := by
        have : k = 0 ∨ k = 1 ∨ k = 2 := by omega
        rcases this with rfl | rfl | rfl
        · exact ⟨_, rfl⟩
        · exact ⟨_, rfl⟩
        · exact ⟨_, rfl⟩
      have h1 := h1 t
      generalize ns10.map excD = ES at h1 ⊢
      simp [turn1, wipeE, unwipe, isArg, evB, evS, evE, evT, evX, both, M.bind, M.ret, M.opt, evAnd, evOr, evAndT, evOrT, evR, evA, evTs, evI, evO, nmM, rdM, frz, R.rd, R.hold, R.sv, runCall, argsOf, putOuts, putOwn, andM, orM, chM, noneR, isNM, isBM, cmpD, intsB, binD, addD, subD, mulD, fdivD, modD, negD, ixD, slD, partD, fits, PySem.sizeLine_eq, lenD, biD, intD, seqD, boolsD, truD, isTy, asg, asgs, asg2, setAt, outsAt, R.out, zipD, enumD, lstAt, mutL, setF, e1, hat, h1]) (by decide)
  subst h4
  exact ⟨x', h2, h5⟩
theorem p_law (h0 : S_law_open (Φ f__law_open)) (h1 : S_one_each (Φ f__law_one_each)) (hk : S_kinds (Φ f__law_kinds)) (ht : S_law_take (Φ f__law_take)) (hp : S_is_program (Φ f_is_program)) (ns : List Int) :
    ∃ outs, runFn 1 8 (evB Φ cs W b_law) [.d (.list (ns.map .int))] = some (.ok (.d (.bool true)), outs) := by
  obtain ⟨x, e0, hx⟩ := h0 ns
  obtain ⟨v0, hv0⟩ : ∃ v0, v0 = some (SV.d (.list (ns.map .int))) := ⟨_, rfl⟩
  obtain ⟨x1, e1, hx1⟩ := rows_list (Φ := Φ) (cs := cs) h1 ht hx (by omega) (v0 := v0)
  obtain ⟨k, x2, e2, k0, k1, hx2⟩ := ht (0 + 2) x1 4 hx1 (by omega) (by omega) (by omega)
  obtain ⟨d, hat, hno⟩ : ∃ d, atI [PyData.none, .tuple [], .str "text", .list [.int 0]] k = some d ∧ isProgD d = false := by
    have : k = 0 ∨ k = 1 ∨ k = 2 ∨ k = 3 := by omega
    rcases this with rfl | rfl | rfl | rfl
    · exact ⟨_, rfl, rfl⟩
    · exact ⟨_, rfl, rfl⟩
    · exact ⟨_, rfl, rfl⟩
    · exact ⟨_, rfl, rfl⟩
  have h3 := hp d
  rw [hno] at h3
  have h4 := hk "StandError" List.mem_cons_self
  have hin : inD (.bool true) (.list (kindsOf "StandError")) = some false := by decide +kernel
  refine ⟨[], ?_⟩
  obtain ⟨RS, hRS⟩ : ∃ RS, RS = [PyData.list (ns10.map excD), .list (ns10.map excD)] := ⟨_, rfl⟩
  have loop : ∃ w3 w5 w6, evS Φ cs W l_law_1 [v0, some (.own x1 false), some (.own (.list RS) false), none, none, none, none, none] = some (.ok .nx, [v0, some (.own x1 false), some (.d (.list RS)), w3, none, w5, w6, none]) := by
    unfold l_law_1
    obtain ⟨e2, g1, _, w3, w5, w6, _, _, _, rfl⟩ := for_all (Φ := Φ) (cs := cs) (W := W) (t := .nm 3) (it := .sq (.nm 2)) (b := lb_law_1) (ds := RS)
      (e := [v0, some (.own x1 false), some (.own (.list RS) false), none, none, none, none, none]) (e1 := [v0, some (.own x1 false), some (.d (.list RS)), none, none, none, none, none])
      (I := fun xs e => (∀ d ∈ xs, d = .list (ns10.map excD)) ∧ ∃ w3 w5 w6, NA w3 ∧ NA w5 ∧ NA w6 ∧ e = [v0, some (.own x1 false), some (.d (.list RS)), w3, none, w5, w6, none])
      (by simp [evB, evS, evE, evT, evX, both, M.bind, M.ret, M.opt, evAnd, evOr, evAndT, evOrT, evR, evA, evTs, evI, evO, nmM, rdM, frz, R.rd, R.hold, R.sv, runCall, argsOf, putOuts, putOwn, andM, orM, chM, noneR, isNM, isBM, cmpD, intsB, binD, addD, subD, mulD, fdivD, modD, negD, ixD, slD, partD, fits, PySem.sizeLine_eq, lenD, biD, intD, seqD, boolsD, truD, isTy, asg, asgs, asg2, setAt, outsAt, R.out, zipD, enumD, lstAt, mutL, setF]) ⟨fun d hd => by rw [hRS] at hd; simpa using hd, none, none, none, na_none, na_none, na_none, rfl⟩
      (fun y r e ⟨hd, w3, w5, w6, n3, n5, n6, he⟩ => by
        subst he
        have := hd y List.mem_cons_self
        subst this
        obtain ⟨u5, u6, r1, k5, k6⟩ := one_row (Φ := Φ) (cs := cs) (W := W) hk (v0 := v0) (v1 := some (.own x1 false)) (v2 := some (.d (.list RS))) (v4 := none) n5 n6
        exact ⟨_, asg_d (w := w3) rfl n3, _, .inl ((evB_nx r1).trans rfl), fun z hz => hd z (List.mem_cons_of_mem _ hz), _, u5, u6, na_d _, k5, k6, rfl⟩)
    exact ⟨w3, w5, w6, g1⟩
  obtain ⟨w3, w5, w6, loop⟩ := loop
  rw [← hRS] at e1
  have run : ∃ e', evB Φ cs W b_law [v0, none, none, none, none, none, none, none] = some (.ok (.rt (.d (.bool true))), e') := by
    unfold b_law
    rw [evB_nx (e1 := [v0, some (.own x false), none, none, none, none, none, none]) (by rw [hv0]; simp [evB, evS, evE, evT, evX, both, M.bind, M.ret, M.opt, evAnd, evOr, evAndT, evOrT, evR, evA, evTs, evI, evO, nmM, rdM, frz, R.rd, R.hold, R.sv, runCall, argsOf, putOuts, putOwn, andM, orM, chM, noneR, isNM, isBM, cmpD, intsB, binD, subD, fdivD, modD, negD, ixD, slD, partD, fits, PySem.sizeLine_eq, biD, intD, seqD, boolsD, truD, isTy, asg, asgs, asg2, setAt, outsAt, R.out, zipD, enumD, lstAt, mutL, setF, e0])]
    rw [evB_nx (e1 := [v0, some (.own x1 false), some (.own (.list RS) false), none, none, none, none, none]) (by simp [evB, evS, evE, evT, evX, both, M.bind, M.ret, M.opt, evAnd, evOr, evAndT, evOrT, evR, evA, evTs, evI, evO, nmM, rdM, frz, R.rd, R.hold, R.sv, runCall, argsOf, putOuts, putOwn, andM, orM, chM, noneR, isNM, isBM, cmpD, intsB, binD, addD, subD, mulD, fdivD, modD, negD, ixD, slD, partD, fits, PySem.sizeLine_eq, lenD, biD, intD, seqD, boolsD, truD, isTy, asg, asgs, asg2, setAt, outsAt, R.out, zipD, enumD, lstAt, mutL, setF, e1])]
    rw [evB_nx loop]
    rw [evB_nx (e1 := [v0, some (.own x2 false), some (.d (.list RS)), w3, none, w5, w6, none]) (by simp [evB, evS, evE, evT, evX, both, M.bind, M.ret, M.opt, evAnd, evOr, evAndT, evOrT, evR, evA, evTs, evI, evO, nmM, rdM, frz, R.rd, R.hold, R.sv, runCall, argsOf, putOuts, putOwn, andM, orM, chM, noneR, isNM, isBM, cmpD, intsB, binD, addD, subD, mulD, fdivD, modD, negD, ixD, slD, partD, fits, PySem.sizeLine_eq, lenD, biD, intD, seqD, boolsD, truD, isTy, asg, asgs, asg2, setAt, outsAt, R.out, zipD, enumD, lstAt, mutL, setF, e2, hat, h3, isBM])]
    refine ⟨[v0, some (.own x2 false), some (.d (.list RS)), w3, none, w5, w6, none], evB_rt ?_⟩
    generalize kindsOf "StandError" = KS at h4 hin
    have h5 : isxD ([("NoProgram", true), ("NoStarts", true), ("NoState", true), ("NoKept", true), ("NoPrices", true), ("NoNumber", true), ("NoThread", true), ("NoPlace", true), ("NoMove", true), ("TooMany", true), ("StandError", true)] : List (Str × Bool)) (excD "StandError") = some (.d (.bool true)) := by rw [isx_exc, show List.lookup ("StandError" : Str) ([("NoProgram", true), ("NoStarts", true), ("NoState", true), ("NoKept", true), ("NoPrices", true), ("NoNumber", true), ("NoThread", true), ("NoPlace", true), ("NoMove", true), ("TooMany", true), ("StandError", true)] : List (Str × Bool)) = some true by decide +kernel]; rfl
    simp [evB, evS, evE, evT, evX, both, M.bind, M.ret, M.opt, evAnd, evOr, evAndT, evOrT, evR, evA, evTs, evI, evO, nmM, rdM, frz, R.rd, R.hold, R.sv, runCall, argsOf, putOuts, putOwn, andM, orM, chM, noneR, isNM, isBM, cmpD, intsB, binD, addD, subD, mulD, fdivD, modD, negD, ixD, slD, partD, fits, PySem.sizeLine_eq, lenD, biD, intD, seqD, boolsD, truD, isTy, asg, asgs, asg2, setAt, outsAt, R.out, zipD, enumD, lstAt, mutL, setF, h5, h4, hin]
  obtain ⟨e', run⟩ := run
  rw [hv0] at run
  simp [runFn, entry, slotOf, run, outsAt, R.out]
end
theorem specs_at {ds : List DefI} {cs : Nat → PyData} {W n f : Nat} {d : DefI} (h : f < n) (hd : ds[f]? = some d) : specsN ds cs W n f = runFn d.ps.length d.N.length (evB (specsN ds cs W f) cs W d.m) := by
  rw [specsN_lt h]
  show (if f = f then (match ds[f]? with | some d => runFn d.ps.length d.N.length (evB (specsN ds cs W f) cs W d.m) | none => fun _ => none) else _) = _
  rw [if_pos rfl, hd]
def SN (n : Nat) : Nat → Spec := specsN ds0 (csOf cl0) 3000 n
theorem SN_at {n f : Nat} {d : DefI} (h : f < n) (hd : ds0[f]? = some d) : SN n f = runFn d.ps.length d.N.length (evB (SN f) (csOf cl0) 3000 d.m) := specs_at h hd
theorem sp_is_integer {n : Nat} (h : f_is_integer < n) : S_is_integer (SN n f_is_integer) := by rw [SN_at (d := i_is_integer) h rfl]; exact p_is_integer
theorem sp_is_number {n : Nat} (h : f_is_number < n) : S_is_number (SN n f_is_number) := by rw [SN_at (d := i_is_number) h rfl]; exact p_is_number (sp_is_integer (by decide)) rfl
theorem sp_is_between {n : Nat} (h : f_is_between < n) : S_is_between (SN n f_is_between) := by rw [SN_at (d := i_is_between) h rfl]; exact p_is_between (sp_is_number (by decide))
theorem sp_is_row {n : Nat} (h : f_is_row < n) : S_is_row (SN n f_is_row) := by rw [SN_at (d := i_is_row) h rfl]; exact p_is_row
theorem sp_number_ranges {n : Nat} (h : f_number_ranges < n) : S_number_ranges (SN n f_number_ranges) := by rw [SN_at (d := i_number_ranges) h rfl]; exact p_number_ranges rfl
theorem sp_is_instruction {n : Nat} (h : f_is_instruction < n) : S_is_instruction (SN n f_is_instruction) := by rw [SN_at (d := i_is_instruction) h rfl]; exact p_is_instruction (sp_is_between (by decide)) rfl
theorem sp_is_function {n : Nat} (h : f_is_function < n) : S_is_function (SN n f_is_function) := by rw [SN_at (d := i_is_function) h rfl]; exact p_is_function (sp_is_instruction (by decide)) (sp_number_ranges (by decide)) rfl
theorem sp_is_program {n : Nat} (h : f_is_program < n) : S_is_program (SN n f_is_program) := by rw [SN_at (d := i_is_program) h rfl]; exact p_is_program (sp_is_row (by decide)) (sp_is_between (by decide)) (sp_is_function (by decide)) rfl rfl rfl
theorem sp_law_spread {n : Nat} (h : f__law_spread < n) : S_law_spread (SN n f__law_spread) := by rw [SN_at (d := i__law_spread) h rfl]; exact p_law_spread
theorem sp_law_take {n : Nat} (h : f__law_take < n) : S_law_take (SN n f__law_take) := by rw [SN_at (d := i__law_take) h rfl]; exact p_law_take (sp_law_spread (by decide))
theorem sp_law_open {n : Nat} (h : f__law_open < n) : S_law_open (SN n f__law_open) := by rw [SN_at (d := i__law_open) h rfl]; exact p_law_open
theorem sp_one_each {n : Nat} (h : f__law_one_each < n) : S_one_each (SN n f__law_one_each) := by rw [SN_at (d := i__law_one_each) h rfl]; exact p_one_each
theorem sp_kinds {n : Nat} (h : f__law_kinds < n) : S_kinds (SN n f__law_kinds) := by rw [SN_at (d := i__law_kinds) h rfl]; exact p_kinds
theorem law_ok (ns : List Int) (_ : ns.length ≤ 63) : ∃ outs, runFn 1 L0.N.length (evB (specsN ds0 (csOf cl0) 3000 ds0.length) (csOf cl0) 3000 L0.m) [.d (.list (ns.map .int))] = some (.ok (.d (.bool true)), outs) :=
  p_law (Φ := SN ds0.length) (sp_law_open (by decide)) (sp_one_each (by decide)) (sp_kinds (by decide)) (sp_law_take (by decide)) (sp_is_program (by decide)) ns
end Sm

set_option maxRecDepth 100000
open PySem PySem.W PyProof.Rows
set_option maxHeartbeats 0 in
theorem PySem.Challenge.cw_standasked_k02_errors_by_hand_holds : PySem.Challenge.rw_standasked_k02_errors_by_hand.Holds := by
  w_on; o_law; o_head (Sm.hookM 4 Sm.ds0 Sm.L0 Sm.cl0 Sm.xi0); (case hw => w_witness2)
  exact Sm.lawEnd (l := PySem.Challenge.rw_standasked_k02_errors_by_hand) (n := 63) (ds := Sm.ds0) (cl := Sm.cl0) (xi := Sm.xi0) (W := 3000) (L := Sm.L0) rfl (by decide) rfl rfl ⟨rfl, rfl, rfl, rfl⟩ Sm.ok0 Sm.fit0 ⟨rfl, by decide, by decide⟩ Sm.scL (by decide) Sm.fitL (fun _ _ _ _ _ _ _ => rfl) Sm.law_ok (fun w h Y => Y)
