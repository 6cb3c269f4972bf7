import PyProof.Rows.All
import Wide.All
import OpenK.AllK
import Wide.FinOn
import PySem.Challenge.RW_lastpasted_k52_what_must_be_torn_off
import HandS.ForMost
import HandS.Flow
import HandS.IsInst
import HandS.Deep
import HandS.TupAny
import HandS.Style
import HandS.TryOnly
import HandS.Strs
import HandS.Zip
import HandS.Star
import HandS.TupLe
import HandS.Conv
import HandS.Text
import HandS.Set
import HandS.TupMul
import HandS.TupSets
import HandS.SetFor
import KE.KDictCopyH
import KE.KSortTupG
import KE.KTupTabMore
import HandS.SortInts
import HandS.RaiseMore
import PyProof.Rows.SortShellAny
import KE.GoesZip
import KE.GoesMore
import HandS.Comp
import HandS.SetBool
set_option Elab.async false
set_option linter.all false
set_option maxRecDepth 100000
/-! A small language of plain data, its meaning, and what stands in the text for it. -/
namespace MP
open PySem PySem.Spec PyProof.Rows L2

/-! ### data -/
inductive D where
  | non | bl (b : Bool) | int (i : Int) | str (s : List Nat) | lst (xs : List D) | tup (xs : List D)
  /-- the law's own script: read, never kept in a list's place -/
  | scr (xs : List D)
  /-- what zip and enumerate make: it is taken apart, nothing else -/
  | duo (xs : List D)
  deriving Inhabited
/-- a slot: shared data, or a list that this slot alone holds (p: it came as a parameter) -/
inductive SV where
  | sh (d : D) | own (p : Bool) (ds : List D)
  deriving Inhabited
inductive RV where
  | sh (d : D) | own (ds : List D)
  deriving Inhabited
inductive AV where
  | sh (d : D) | mu (ds : List D)
  deriving Inhabited
abbrev En := List (Option SV)
def RV.fz : RV → D
  | .sh d => d
  | .own ds => .lst ds

inductive BOp where | add | sub | mul | fdiv | mod | pow
  deriving DecidableEq
inductive COp where | eq | ne | lt | le | gt | ge | is | nis | in_ | nin
  deriving DecidableEq
inductive Bi where | len | abs | int | list | tuple | sorted | sortedset | all | any | min | max | sum | str
  deriving DecidableEq
inductive Ty where | bool | int | str | list | tuple | dict
  deriving DecidableEq

inductive Tg where
  | nm (i : Nat) | tp (r : Tg) | nil | cons (a r : Tg)

inductive ME where
  | var (i : Nat)
  | k (d : D)
  | bin (op : BOp) (a b : ME)
  | neg (a : ME)
  | not (a : ME)
  | one (a : ME)
  | and (a b : ME)
  | or (a b : ME)
  | ite (c a b : ME)
  | cmp (op : COp) (a b : ME)
  | chain (o1 o2 : COp) (a b c : ME)
  | tup (es : ME)
  | lst (es : ME)
  | nil
  | cons (a r : ME)
  /-- in a display: what a starred one brings, then the rest -/
  | cat (a r : ME)
  | ix (a b : ME)
  | idx (a b : ME)
  | sl (a lo hi : ME)
  | rev (a : ME)
  /-- list(range(a)) -/
  | lrng (a : ME)
  | nop
  | call (f : Nat) (es : ME)
  | callk (f np nk : Nat) (es ks : ME) (pj : List Nat)
  | bi (b : Bi) (es : ME)
  | isi (a : ME) (cs : List Ty) (one : Bool)
  | pop (i : Nat) (e : ME)
  | lc (t : Tg) (it c e : ME) (vs : List Nat)
  | lc2 (t : Tg) (it c : ME) (t2 : Tg) (it2 c2 e : ME) (vs vs2 : List Nat)
  /-- sorted({e for .. for ..}) -/
  | ss2 (t : Tg) (it c : ME) (t2 : Tg) (it2 c2 e : ME) (vs vs2 : List Nat)
  | seq (e : ME)
  | rng1 (a : ME)
  | rng2 (a b : ME)
  | zip (a b : ME)
  | enum (a : ME)

inductive MS where
  | nil
  | cons (s r : MS)
  | asg (t : Tg) (e : ME)
  | par2 (i j : Nat) (a b : ME)
  | par3 (i j k : Nat) (a b c : ME)
  | setix (i : Nat) (j e : ME)
  | app (i : Nat) (e : ME)
  | xpr (e : ME)
  | ite (c : ME) (a b : MS)
  | for_ (t : Tg) (it : ME) (b : MS)
  | whl (c : ME) (b : MS)
  | ret (e : ME)
  | retN
  | pass
  | brk
  | cont
  | nev
  /-- these names are let go; then the rest -/
  | wipe (vs : List Nat) (r : MS)

/-! ### operations on data -/
mutual
def eqD : D → D → Bool
  | .non, .non => true
  | .bl a, .bl b => a == b
  | .bl a, .int j => (if a then 1 else 0) == j
  | .int i, .bl b => i == (if b then 1 else 0)
  | .int i, .int j => i == j
  | .str x, .str y => x == y
  | .lst xs, .lst ys => eqL xs ys
  | .tup xs, .tup ys => eqL xs ys
  | _, _ => false
def eqL : List D → List D → Bool
  | [], [] => true
  | x :: xs, y :: ys => eqD x y && eqL xs ys
  | _, _ => false
end
mutual
def dep : D → Nat
  | .lst xs => depL xs + 1
  | .tup xs => depL xs + 1
  | .scr _ => 1000
  | .duo _ => 1000
  | _ => 0
def depL : List D → Nat
  | [] => 0
  | x :: xs => max (dep x) (depL xs)
end
def tru : D → Bool
  | .non => false
  | .bl b => b
  | .int i => i != 0
  | .str s => !s.isEmpty
  | .lst xs => !xs.isEmpty
  | .tup xs => !xs.isEmpty
  | .scr xs => !xs.isEmpty
  | .duo xs => !xs.isEmpty
/-- lengths that are surely in room -/
def lenOk (n : Nat) : Bool := n ≤ 1000000
def inW (i : Int) : Bool := -(2 ^ 64) < i && i < 2 ^ 64
def binD : BOp → D → D → Option RV
  | .add, .int i, .int j => some (.sh (.int (i + j)))
  | .add, .str x, .str y => if lenOk (x.length + y.length) then some (.sh (.str (x ++ y))) else none
  | .add, .lst x, .lst y => if lenOk (x.length + y.length) then some (.own (x ++ y)) else none
  | .add, .tup x, .tup y => if lenOk (x.length + y.length) then some (.sh (.tup (x ++ y))) else none
  | .sub, .int i, .int j => some (.sh (.int (i - j)))
  | .mul, .int i, .int j => if inW i || inW j then some (.sh (.int (i * j))) else none
  | .mul, .lst x, .int j => if j < 1000000 && -1000000 < j && lenOk (x.length * j.toNat) then some (.own (List.replicate j.toNat x).flatten) else none
  | .mul, .tup x, .int j => if 2 ≤ j && j ≤ 1000 && decide (x.length ≤ 1000) && !x.isEmpty then some (.sh (.tup (List.replicate j.toNat x).flatten)) else none
  | .fdiv, .int i, .int j => if 0 < j && j < 1073741824 then some (.sh (.int (i / j))) else none
  | .mod, .int i, .int j => if 0 < j then some (.sh (.int (i % j))) else none
  | .pow, .int i, .int j => if 0 ≤ j && j ≤ 1000000 && i.natAbs < 2 ^ 64 then some (.sh (.int (i ^ j.toNat))) else none
  | _, _, _ => none
def ltS : List Nat → List Nat → Bool
  | [], [] => false
  | [], _ :: _ => true
  | _ :: _, [] => false
  | x :: xs, y :: ys => if x < y then true else if y < x then false else ltS xs ys
/-- the order of flat tuples, where both are of the same kinds up to the first difference -/
def lexD : List D → List D → Option Bool
  | [], ys => some (!ys.isEmpty)
  | _ :: _, [] => some false
  | .int i :: xs, .int j :: ys => if i = j then lexD xs ys else some (decide (i < j))
  | .str x :: xs, .str y :: ys => if x = y then lexD xs ys else some (ltS x y)
  | _ :: _, _ :: _ => none
def isSc : D → Bool
  | .non => true | .bl _ => true | .int _ => true | .str _ => true
  | _ => false
def isNon : D → Bool
  | .non => true
  | _ => false
def shal (d : D) : Bool := dep d ≤ 60
def cmpD : COp → D → D → Option Bool
  | .eq, x, y => if shal x && shal y then some (eqD x y) else none
  | .ne, x, y => if shal x && shal y then some (!eqD x y) else none
  | .lt, .int i, .int j => some (i < j)
  | .le, .int i, .int j => some (i ≤ j)
  | .gt, .int i, .int j => some (j < i)
  | .ge, .int i, .int j => some (j ≤ i)
  | .lt, .str i, .str j => some (ltS i j)
  | .le, .str i, .str j => some (!ltS j i)
  | .is, x, .non => some (isNon x)
  | .nis, x, .non => some (!isNon x)
  | .in_, .str [c], .str y => some (decide (c ∈ y))
  | .nin, .str [c], .str y => some (!decide (c ∈ y))
  | .lt, .tup xs, .tup ys => lexD xs ys
  | .in_, x, .lst ys => if shal x && shal (.lst ys) then some (ys.any fun y => eqD y x) else none
  | .nin, x, .lst ys => if shal x && shal (.lst ys) then some (!ys.any fun y => eqD y x) else none
  | .in_, x, .tup ys => if shal x && shal (.tup ys) then some (ys.any fun y => eqD y x) else none
  | .nin, x, .tup ys => if shal x && shal (.tup ys) then some (!ys.any fun y => eqD y x) else none
  | _, _, _ => none
/-- the place that an index means -/
def place (n : Nat) (i : Int) : Option Nat := if 0 ≤ i then (if i < n then some i.toNat else none) else if -(n : Int) ≤ i then some (i + n).toNat else none
def ixL {α : Type} (xs : List α) (i : Int) : Option α := (place xs.length i).bind fun j => xs[j]?
def ixD : D → D → Option D
  | .lst xs, .int i => ixL xs i
  | .scr xs, .int i => ixL xs i
  | .tup xs, .int i => ixL xs i
  | .duo xs, .int i => ixL xs i
  | .str xs, .int i => (ixL xs i).map fun c => .str [c]
  | _, _ => none
def posL (y : D) : List D → Option Nat
  | [] => none
  | x :: xs => if eqD x y then some 0 else (posL y xs).map (· + 1)
def idxD : D → D → D → Option D
  | .lst _, .lst xs, y => if shal y && shal (.lst xs) then (posL y xs).map fun j : Nat => D.int (j : Int) else none
  | .tup _, .tup xs, y => if shal y && shal (.tup xs) then (posL y xs).map fun j : Nat => D.int (j : Int) else none
  | _, _, _ => none
def bnd (n d : Nat) : Option Int → Nat
  | none => d
  | some v => if v < 0 then (v + (n : Int)).toNat else min v.toNat n
def cut {α : Type} (xs : List α) (lo hi : Option Int) : List α := (xs.drop (bnd xs.length 0 lo)).take (bnd xs.length xs.length hi - bnd xs.length 0 lo)
def part : ME → D → Option (Option Int)
  | .nop, _ => some none
  | _, .int i => some (some i)
  | _, _ => none
def slD : D → Option Int → Option Int → Option RV
  | .lst xs, lo, hi => some (.own (cut xs lo hi))
  | .scr xs, lo, hi => some (.own (cut xs lo hi))
  | .tup xs, lo, hi => some (.sh (.tup (cut xs lo hi)))
  | .str xs, lo, hi => some (.sh (.str (cut xs lo hi)))
  | _, _, _ => none
def revD : D → Option RV
  | .lst xs => some (.own xs.reverse)
  | .tup xs => some (.sh (.tup xs.reverse))
  | .str s => some (.sh (.str s.reverse))
  | _ => none
/-- items of flat tuples -/
def ltI : D → D → Bool
  | .int i, .int j => i < j
  | .str i, .str j => ltS i j
  | .int _, .str _ => true
  | _, _ => false
def ltT : List D → List D → Bool
  | [], [] => false
  | [], _ :: _ => true
  | _ :: _, [] => false
  | x :: r, y :: t => ltI x y || (!ltI y x && ltT r t)
/-- what may be sorted: ints alone, texts alone, flat tuples alone -/
def ltD : D → D → Bool
  | .int i, .int j => i < j
  | .str i, .str j => ltS i j
  | .tup a, .tup b => ltT a b
  | _, _ => false
def flatI : D → Bool
  | .int _ => true
  | .str _ => true
  | _ => false
/-- of the same kinds up to the first difference -/
def cmpI : List D → List D → Bool
  | .int i :: r, .int j :: t => if i == j then cmpI r t else true
  | .str i :: r, .str j :: t => if i == j then cmpI r t else true
  | [], _ => true
  | _, [] => true
  | _, _ => false
def tupT : D → Bool
  | .tup (x :: r) => flatI x && r.all flatI
  | _ => false
def cmpT : D → D → Bool
  | .tup a, .tup b => cmpI a b
  | _, _ => false
/-- flat tuples that may be compared -/
def allT (xs : List D) : Bool := xs.all tupT && xs.all fun x => xs.all fun y => cmpT x y
def ins (x : D) : List D → List D
  | [] => [x]
  | y :: ys => if ltD y x then y :: ins x ys else x :: y :: ys
def isort : List D → List D
  | [] => []
  | x :: xs => ins x (isort xs)
def dedup : List D → List D
  | [] => []
  | x :: xs => x :: (dedup xs).filter fun y => !eqD x y
def allI : List D → Bool
  | [] => true
  | .int _ :: r => allI r
  | _ => false
def allS : List D → Bool
  | [] => true
  | .str _ :: r => allS r
  | _ => false
def allB : List D → Bool
  | [] => true
  | .bl _ :: r => allB r
  | _ => false
def isB : D → Bool
  | .bl true => true
  | _ => false
def items : D → Option (List D)
  | .lst xs => some xs
  | .tup xs => some xs
  | .duo xs => some xs
  | _ => none
def chars : List Nat → List D
  | [] => []
  | c :: r => .str [c] :: chars r
def biD : Bi → List D → Option RV
  | .len, [.lst xs] => some (.sh (.int xs.length))
  | .len, [.scr xs] => some (.sh (.int xs.length))
  | .len, [.tup xs] => some (.sh (.int xs.length))
  | .len, [.duo xs] => some (.sh (.int xs.length))
  | .len, [.str xs] => some (.sh (.int xs.length))
  | .abs, [.int i] => some (.sh (.int (if i < 0 then -i else i)))
  | .int, [.int i] => some (.sh (.int i))
  | .int, [.bl b] => some (.sh (.int (if b then 1 else 0)))
  | .list, [.lst xs] => some (.own xs)
  | .list, [.tup xs] => some (.own xs)
  | .tuple, [.lst xs] => some (.sh (.tup xs))
  | .tuple, [.tup xs] => some (.sh (.tup xs))
  | .list, [.str s] => some (.own (chars s))
  | .tuple, [.str s] => some (.sh (.tup (chars s)))
  | .sorted, [.lst xs] => if allI xs then some (.own (isort xs)) else if allS xs then some (.own (isort xs)) else if allT xs then some (.own (isort xs)) else none
  | .sorted, [.tup xs] => if allS xs then some (.own (isort xs)) else none
  | .sortedset, [.lst xs] => if allS xs && xs.length < 3000 then some (.own (isort (dedup xs))) else if allT xs && (dedup xs).length < 62 then some (.own (isort (dedup xs))) else if allI xs && (dedup xs).length < 62 && decide (xs.length < 3000) then some (.own (isort (dedup xs))) else none
  | .sortedset, [.tup xs] => if allS xs && xs.length < 3000 then some (.own (isort (dedup xs))) else if allT xs && (dedup xs).length < 62 then some (.own (isort (dedup xs))) else if allI xs && (dedup xs).length < 62 && decide (xs.length < 3000) then some (.own (isort (dedup xs))) else none
  | .all, [.lst xs] => if allB xs then some (.sh (.bl (xs.all isB))) else none
  | .any, [.lst xs] => if allB xs then some (.sh (.bl (xs.any isB))) else none
  | .min, [.int i, .int j] => some (.sh (.int (if j < i then j else i)))
  | .max, [.int i, .int j] => some (.sh (.int (if j > i then j else i)))
  | .str, [.str s] => some (.sh (.str s))
  | _, _ => none
def isTy : Ty → D → Bool
  | .bool, .bl _ => true
  | .int, .bl _ => true
  | .int, .int _ => true
  | .str, .str _ => true
  | .list, .lst _ => true
  | .list, .scr _ => true
  | .tuple, .tup _ => true
  | .tuple, .duo _ => true
  | _, _ => false

/-! ### slots -/
def peek (env : En) (i : Nat) : Option D :=
  match env[i]? with
  | some (some (.sh d)) => some d
  | some (some (.own _ ds)) => some (.lst ds)
  | _ => none
def isPar (env : En) (i : Nat) : Bool :=
  match env[i]? with
  | some (some (.own true _)) => true
  | _ => false
def put (env : En) (i : Nat) (v : SV) : Option En := if isPar env i then none else if i < env.length then some (env.set i (some v)) else none
def RV.sv : RV → SV
  | .sh d => .sh d
  | .own ds => .own false ds
mutual
def tgA : Tg → D → En → Option En
  | .nm i, d, env => put env i (.sh d)
  | .tp r, d, env => match items d with
    | some xs => tgL r xs env
    | none => none
  | .nil, _, _ => none
  | .cons _ _, _, _ => none
def tgL : Tg → List D → En → Option En
  | .nil, [], env => some env
  | .cons a r, x :: xs, env => match tgA a x env with
    | some env' => tgL r xs env'
    | none => none
  | _, _, _ => none
end
/-- the slots of a comprehension's own names are empty or shared: they may be forgotten for a while -/
def wipeE (env : En) : List Nat → En
  | [] => env
  | v :: vs => (wipeE env vs).set v none
def wipeOk (env : En) : List Nat → Bool
  | [] => true
  | v :: vs => (match env[v]? with | some none => true | some (some (.sh _)) => true | _ => false) && wipeOk env vs
/-- behind it they stand again -/
def unwipe (env env' : En) : List Nat → En
  | [] => env'
  | v :: vs => (unwipe env env' vs).set v (env[v]?.getD none)

inductive OP where
  | rd (i : Nat) | dv (d : D)
def opd (m : ME) (x : Option (En × RV)) (env : En) : Option (En × OP) :=
  match m with
  | .var i => match peek env i with
    | some _ => some (env, .rd i)
    | none => none
  | _ => match x with
    | some (e, r) => some (e, .dv r.fz)
    | none => none
/-- a test: a name is not let go by it -/
def tst (m : ME) (x : Option (En × RV)) (env : En) : Option (En × Bool) :=
  match m with
  | .var i => match peek env i with
    | some d => some (env, tru d)
    | none => none
  | .nop => some (env, true)
  | _ => match x with
    | some (e, r) => some (e, tru r.fz)
    | none => none
def rdO (env : En) : OP → Option D
  | .rd i => peek env i
  | .dv d => some d
def rdL (env : En) : List OP → Option (List D)
  | [] => some []
  | o :: os => match rdO env o, rdL env os with
    | some x, some xs => some (x :: xs)
    | _, _ => none
inductive AP where
  | sh (d : D) | mv (i : Nat) | tm (ds : List D)
/-- the slots that are handed over; none: a list made for the call -/
def AP.mvs : List AP → List (Option Nat)
  | [] => []
  | .sh _ :: r => AP.mvs r
  | .mv i :: r => some i :: AP.mvs r
  | .tm _ :: r => none :: AP.mvs r
def resolve (env : En) : List AP → Option (List AV)
  | [] => some []
  | .sh d :: r => match resolve env r with
    | some l => some (.sh d :: l)
    | none => none
  | .mv i :: r => match env[i]?, resolve env r with
    | some (some (.own _ ds)), some l => some (.mu ds :: l)
    | _, _ => none
  | .tm ds :: r => match resolve env r with
    | some l => some (.mu ds :: l)
    | none => none
def nodup : List (Option Nat) → Bool
  | [] => true
  | none :: xs => xs.all (fun y => match y with | some _ => true | none => false) && nodup xs
  | some x :: xs => xs.all (fun y => match y with | some z => !(x == z) | none => true) && nodup xs
/-- what a call left of the lists that were handed to it -/
def giveBack (env : En) : List (Option Nat) → List (List D) → Option En
  | [], [] => some env
  | none :: is, _ :: r => giveBack env is r
  | some i :: is, ds :: r => match env[i]? with
    | some (some (.own p _)) => giveBack (env.set i (some (.own p ds))) is r
    | _ => none
  | _, _ => none

abbrev CF := Nat → List AV → Option (RV × List (List D))
/-- a comprehension's turns: the body gives the kept items of one turn -/
def turns (body : D → En → Option (En × List D)) : List D → En → Option (En × List D)
  | [], env => some (env, [])
  | x :: xs, env => match body x env with
    | some (env1, ys) => match turns body xs env1 with
      | some (env2, zs) => some (env2, ys ++ zs)
      | none => none
    | none => none
def rangeL : Int → Nat → List D
  | _, 0 => []
  | lo, n + 1 => .int lo :: rangeL (lo + 1) n
def zipL : List D → List D → List D
  | x :: xs, y :: ys => .duo [x, y] :: zipL xs ys
  | _, _ => []
def enumL : Nat → List D → List D
  | _, [] => []
  | i, x :: xs => .duo [.int i, x] :: enumL (i + 1) xs

/-- what zip and enumerate draw from -/
def srcD : D → Option (List D)
  | .lst xs => some xs
  | .tup xs => some xs
  | .str s => some (chars s)
  | _ => none
def pick (ds : List D) : List Nat → Option (List D)
  | [] => some []
  | j :: js => match ds[j]?, pick ds js with
    | some x, some xs => some (x :: xs)
    | _, _ => none
def popI (x : D) (ds : List D) : Option (D × List D) :=
  match x with
  | .int j => match place ds.length j with
    | some n => match ds[n]? with
      | some d => some (d, ds.eraseIdx n)
      | none => none
    | none => none
  | _ => none
def popD (m : ME) (x : D) (ds : List D) : Option (D × List D) :=
  match m with
  | .nop => match ds[ds.length - 1]? with
    | some d => some (d, ds.dropLast)
    | none => none
  | _ => popI x ds
section
variable (mo : Nat → List Bool) (cf : CF)
mutual
/-- a value -/
def evR : ME → En → Option (En × RV)
  | .var i, env => match env[i]? with
    | some (some (.sh d)) => some (env, .sh d)
    | some (some (.own false ds)) => some (env.set i (some (.sh (.lst ds))), .sh (.lst ds))
    | _ => none
  | .k d, env => some (env, .sh d)
  | .bin op a b, env => match opd a (evR a env) env with
    | some (e1, oa) => match opd b (evR b e1) e1 with
      | some (e2, ob) => match rdO e2 oa, rdO e2 ob with
        | some x, some y => match binD op x y with
          | some r => some (e2, r)
          | none => none
        | _, _ => none
      | none => none
    | none => none
  | .neg a, env => match evR a env with
    | some (e1, .sh (.int i)) => some (e1, .sh (.int (-i)))
    | _ => none
  | .not a, env => match opd a (evR a env) env with
    | some (e1, oa) => match rdO e1 oa with
      | some x => some (e1, .sh (.bl (!tru x)))
      | none => none
    | none => none
  | .one a, env => evR a env
  | .and a b, env => match evR a env with
    | some (e1, r) => if tru r.fz then evR b e1 else some (e1, r)
    | none => none
  | .or a b, env => match evR a env with
    | some (e1, r) => if tru r.fz then some (e1, r) else evR b e1
    | none => none
  | .ite c a b, env => match tst c (evR c env) env with
    | some (e1, t) => if t then evR a e1 else evR b e1
    | none => none
  | .cmp op a b, env => match opd a (evR a env) env with
    | some (e1, oa) => match opd b (evR b e1) e1 with
      | some (e2, ob) => match rdO e2 oa, rdO e2 ob with
        | some x, some y => match cmpD op x y with
          | some r => some (e2, .sh (.bl r))
          | none => none
        | _, _ => none
      | none => none
    | none => none
  | .chain o1 o2 a b c, env => match evR a env with
    | some (e1, ra) => match evR b e1 with
      | some (e2, rb) => match cmpD o1 ra.fz rb.fz with
        | some true => match evR c e2 with
          | some (e3, rc) => match cmpD o2 rb.fz rc.fz with
            | some r => some (e3, .sh (.bl r))
            | none => none
          | none => none
        | some false => some (e2, .sh (.bl false))
        | none => none
      | none => none
    | none => none
  | .tup es, env => match evL es env with
    | some (e1, ds) => if lenOk ds.length then some (e1, .sh (.tup ds)) else none
    | none => none
  | .lst es, env => match evL es env with
    | some (e1, ds) => if lenOk ds.length then some (e1, .own ds) else none
    | none => none
  | .ix a b, env => match opd a (evR a env) env with
    | some (e1, oa) => match opd b (evR b e1) e1 with
      | some (e2, ob) => match rdO e2 oa, rdO e2 ob with
        | some x, some y => match ixD x y with
          | some r => some (e2, .sh r)
          | none => none
        | _, _ => none
      | none => none
    | none => none
  | .idx a b, env => match opd a (evR a env) env with
    | some (e1, oa) => match rdO e1 oa with
      | some x1 => match opd b (evR b e1) e1 with
        | some (e2, ob) => match rdO e2 oa, rdO e2 ob with
          | some x, some y => match idxD x1 x y with
            | some r => some (e2, .sh r)
            | none => none
          | _, _ => none
        | none => none
      | none => none
    | none => none
  | .sl a lo hi, env => match opd a (evR a env) env with
    | some (e1, oa) => match evR lo e1 with
      | some (e2, rl) => match evR hi e2 with
        | some (e3, rh) => match rdO e3 oa, part lo rl.fz, part hi rh.fz with
          | some x, some l, some h => match slD x l h with
            | some r => some (e3, r)
            | none => none
          | _, _, _ => none
        | none => none
      | none => none
    | none => none
  | .rev a, env => match opd a (evR a env) env with
    | some (e1, oa) => match rdO e1 oa with
      | some x => match revD x with
        | some r => some (e1, r)
        | none => none
      | none => none
    | none => none
  | .lrng a, env => match evR a env with
    | some (e1, .sh (.int j)) => if -1000000 ≤ j && j ≤ 1000000 then some (e1, .own (rangeL 0 j.toNat)) else none
    | _ => none
  | .nop, env => some (env, .sh .non)
  | .call f es, env => match evA (mo f) es env with
    | some (e1, aps) => if nodup (AP.mvs aps) then match resolve e1 aps with
        | some avs => match cf f avs with
          | some (r, outs) => match giveBack e1 (AP.mvs aps) outs with
            | some e2 => some (e2, r)
            | none => none
          | none => none
        | none => none
      else none
    | none => none
  | .callk f np nk es ks pj, env => match evL es env with
    | some (e1, ds) => match evL ks e1 with
      | some (e2, zs) => if ds.length == np && zs.length == nk && (mo f).all (fun b => !b) then match pick (ds ++ zs) pj with
          | some xs => match cf f (xs.map AV.sh) with
            | some (r, []) => some (e2, r)
            | _ => none
          | none => none
        else none
      | none => none
    | none => none
  | .bi b es, env => match evO es env with
    | some (e1, os) => match rdL e1 os with
      | some ds => match biD b ds with
        | some r => some (e1, r)
        | none => none
      | none => none
    | none => none
  | .isi a cs _, env => match opd a (evR a env) env with
    | some (e1, oa) => match rdO e1 oa with
      | some x => some (e1, .sh (.bl (cs.any fun c => isTy c x)))
      | none => none
    | none => none
  | .pop i e, env => match env[i]? with
    | some (some (.own _ _)) => match evR e env with
      | some (e1, re) => match e1[i]? with
        | some (some (.own p ds)) => match popD e re.fz ds with
          | some (d, ds') => some (e1.set i (some (.own p ds')), .sh d)
          | none => none
        | _ => none
      | none => none
    | _ => none
  | .lc t it c e vs, env => match evI it env with
    | some (e1, xs) => if wipeOk e1 vs then match turns (fun x en => match tgA t x (wipeE en vs) with
            | some en1 => match tst c (evR c en1) en1 with
              | some (en2, true) => match evR e en2 with
                | some (en3, r) => some (wipeE en3 vs, [r.fz])
                | none => none
              | some (en2, false) => some (wipeE en2 vs, [])
              | none => none
            | none => none) xs (wipeE e1 vs) with
        | some (e2, ds) => if lenOk ds.length then some (unwipe e1 e2 vs, .own ds) else none
        | none => none
      else none
    | none => none
  | .lc2 t it c t2 it2 c2 e vs vs2, env => match evI it env with
    | some (e1, xs) => if wipeOk e1 vs then match turns (fun x en => match tgA t x (wipeE en vs) with
            | some en1 => match tst c (evR c en1) en1 with
              | some (en2, true) => match evI it2 en2 with
                | some (en3, ys) => match turns (fun y en => match tgA t2 y (wipeE en vs2) with
                    | some en1 => match tst c2 (evR c2 en1) en1 with
                      | some (en2, true) => match evR e en2 with
                        | some (en3, r) => some (wipeE en3 vs2, [r.fz])
                        | none => none
                      | some (en2, false) => some (wipeE en2 vs2, [])
                      | none => none
                    | none => none) ys (wipeE en3 vs2) with
                  | some (en4, zs) => some (wipeE en4 vs, zs)
                  | none => none
                | none => none
              | some (en2, false) => some (wipeE en2 vs, [])
              | none => none
            | none => none) xs (wipeE e1 vs) with
        | some (e2, ds) => if lenOk ds.length then some (unwipe e1 e2 vs, .own ds) else none
        | none => none
      else none
    | none => none
  | .ss2 t it c t2 it2 c2 e vs vs2, env => match evI it env with
    | some (e1, xs) => if wipeOk e1 vs then match turns (fun x en => match tgA t x (wipeE en vs) with
            | some en1 => match tst c (evR c en1) en1 with
              | some (en2, true) => match evI it2 en2 with
                | some (en3, ys) => match turns (fun y en => match tgA t2 y (wipeE en vs2) with
                    | some en1 => match tst c2 (evR c2 en1) en1 with
                      | some (en2, true) => match evR e en2 with
                        | some (en3, r) => some (wipeE en3 vs2, [r.fz])
                        | none => none
                      | some (en2, false) => some (wipeE en2 vs2, [])
                      | none => none
                    | none => none) ys (wipeE en3 vs2) with
                  | some (en4, zs) => some (wipeE en4 vs, zs)
                  | none => none
                | none => none
              | some (en2, false) => some (wipeE en2 vs, [])
              | none => none
            | none => none) xs (wipeE e1 vs) with
        | some (e2, ds) => if lenOk ds.length && (allS ds || allI ds) then match biD .sortedset [.lst ds] with
          | some r => some (unwipe e1 e2 vs, r)
          | none => none
          else none
        | none => none
      else none
    | none => none
  | .nil, _ => none
  | .cons _ _, _ => none
  | .cat _ _, _ => none
  | .seq _, _ => none
  | .rng1 _, _ => none
  | .rng2 _ _, _ => none
  | .zip _ _, _ => none
  | .enum _, _ => none
/-- written items -/
def evL : ME → En → Option (En × List D)
  | .nil, env => some (env, [])
  | .cons a r, env => match evR a env with
    | some (e1, x) => match evL r e1 with
      | some (e2, xs) => some (e2, x.fz :: xs)
      | none => none
    | none => none
  | .cat a r, env => match evR a env with
    | some (e1, x) => match items x.fz with
      | some xs => match evL r e1 with
        | some (e2, ys) => some (e2, xs ++ ys)
        | none => none
      | none => none
    | none => none
  | _, _ => none
/-- operands: a name is read behind all of them -/
def evO : ME → En → Option (En × List OP)
  | .nil, env => some (env, [])
  | .cons a r, env => match opd a (evR a env) env with
    | some (e1, x) => match evO r e1 with
      | some (e2, xs) => some (e2, x :: xs)
      | none => none
    | none => none
  | _, _ => none
/-- a call's arguments -/
def evA : List Bool → ME → En → Option (En × List AP)
  | [], .nil, env => some (env, [])
  | true :: ms, .cons (.var i) r, env => match env[i]? with
    | some (some (.own _ _)) => match evA ms r env with
      | some (e2, xs) => some (e2, .mv i :: xs)
      | none => none
    | _ => none
  | true :: ms, .cons a r, env => match evR a env with
    | some (e1, .own ds) => match evA ms r e1 with
      | some (e2, xs) => some (e2, .tm ds :: xs)
      | none => none
    | _ => none
  | false :: ms, .cons a r, env => match evR a env with
    | some (e1, x) => match evA ms r e1 with
      | some (e2, xs) => some (e2, .sh x.fz :: xs)
      | none => none
    | none => none
  | _, _, _ => none
/-- what is walked -/
def evI : ME → En → Option (En × List D)
  | .seq e, env => match evR e env with
    | some (e1, r) => match r.fz with
      | .lst xs => some (e1, xs)
      | .tup xs => some (e1, xs)
      | .str s => some (e1, chars s)
      | _ => none
    | none => none
  | .rng1 a, env => match evR a env with
    | some (e1, .sh (.int j)) => if -1000000 ≤ j && j ≤ 1000000 then some (e1, rangeL 0 j.toNat) else none
    | _ => none
  | .rng2 a b, env => match evR a env with
    | some (e1, .sh (.int i)) => match evR b e1 with
      | some (e2, .sh (.int j)) => if -1000000 ≤ i && i ≤ 1000000 && -1000000 ≤ j && j ≤ 1000000 then some (e2, rangeL i (j - i).toNat) else none
      | _ => none
    | _ => none
  | .zip a b, env => match evR a env with
    | some (e1, ra) => match evR b e1 with
      | some (e2, rb) => match srcD ra.fz, srcD rb.fz with
        | some xs, some ys => some (e2, zipL xs ys)
        | _, _ => none
      | none => none
    | none => none
  | .enum a, env => match evR a env with
    | some (e1, r) => match srcD r.fz with
      | some xs => some (e1, enumL 0 xs)
      | none => none
    | none => none
  | _, _ => none
end

/-! ### statements -/
inductive Fl where
  | nx (e : En) | bk (e : En) | ct (e : En) | rt (e : En) (r : RV)
def loop (body : D → En → Option Fl) : List D → En → Option Fl
  | [], env => some (.nx env)
  | x :: xs, env => match body x env with
    | some (.nx e) => loop body xs e
    | some (.ct e) => loop body xs e
    | some (.bk e) => some (.nx e)
    | some (.rt e r) => some (.rt e r)
    | none => none
def whileN (test : En → Option (En × Bool)) (body : En → Option Fl) : Nat → En → Option Fl
  | 0, _ => none
  | n + 1, env => match test env with
    | some (e1, true) => match body e1 with
      | some (.nx e) => whileN test body n e
      | some (.ct e) => whileN test body n e
      | some (.bk e) => some (.nx e)
      | some (.rt e r) => some (.rt e r)
      | none => none
    | some (e1, false) => some (.nx e1)
    | none => none
def setD (j x : D) (ds : List D) : Option (List D) :=
  match j with
  | .int j => match place ds.length j with
    | some n => some (ds.set n x)
    | none => none
  | _ => none
def exS : MS → En → Option Fl
  | .nil, env => some (.nx env)
  | .cons s r, env => match exS s env with
    | some (.nx e) => exS r e
    | some (.bk e) => some (.bk e)
    | some (.ct e) => some (.ct e)
    | some (.rt e v) => some (.rt e v)
    | none => none
  | .asg (.nm i) e, env => match evR mo cf e env with
    | some (e1, r) => match put e1 i r.sv with
      | some e2 => some (.nx e2)
      | none => none
    | none => none
  | .asg t e, env => match evR mo cf e env with
    | some (e1, r) => match tgA t r.fz e1 with
      | some e2 => some (.nx e2)
      | none => none
    | none => none
  | .par2 i j a b, env => match evR mo cf a env with
    | some (e1, ra) => match evR mo cf b e1 with
      | some (e2, rb) => match put e2 i ra.sv with
        | some e3 => match put e3 j rb.sv with
          | some e4 => some (.nx e4)
          | none => none
        | none => none
      | none => none
    | none => none
  | .par3 i j k a b c, env => match evR mo cf a env with
    | some (e1, ra) => match evR mo cf b e1 with
      | some (e2, rb) => match evR mo cf c e2 with
        | some (e3, rc) => match put e3 i ra.sv with
          | some e4 => match put e4 j rb.sv with
            | some e5 => match put e5 k rc.sv with
              | some e6 => some (.nx e6)
              | none => none
            | none => none
          | none => none
        | none => none
      | none => none
    | none => none
  | .setix i j e, env => match evR mo cf e env with
    | some (e1, r) => match e1[i]? with
      | some (some (.own _ _)) => match evR mo cf j e1 with
        | some (e2, rj) => match e2[i]? with
          | some (some (.own p ds)) => match setD rj.fz r.fz ds with
            | some ds' => some (.nx (e2.set i (some (.own p ds'))))
            | none => none
          | _ => none
        | none => none
      | _ => none
    | none => none
  | .app i e, env => match env[i]? with
    | some (some (.own _ _)) => match evR mo cf e env with
      | some (e1, r) => match e1[i]? with
        | some (some (.own p ds)) => if lenOk (ds.length + 1) then some (.nx (e1.set i (some (.own p (ds ++ [r.fz]))))) else none
        | _ => none
      | none => none
    | _ => none
  | .xpr e, env => match evR mo cf e env with
    | some (e1, _) => some (.nx e1)
    | none => none
  | .ite c a b, env => match tst c (evR mo cf c env) env with
    | some (e1, t) => if t then exS a e1 else exS b e1
    | none => none
  | .for_ t it b, env => match evI mo cf it env with
    | some (e1, xs) => loop (fun x en => match tgA t x en with
        | some en1 => exS b en1
        | none => none) xs e1
    | none => none
  | .whl c b, env => whileN (fun en => tst c (evR mo cf c en) en) (fun en => exS b en) 1000000 env
  | .ret (.var i), env => match env[i]? with
    | some (some (.sh d)) => some (.rt env (.sh d))
    | some (some (.own false ds)) => some (.rt (env.set i none) (.own ds))
    | _ => none
  | .ret e, env => match evR mo cf e env with
    | some (e1, r) => some (.rt e1 r)
    | none => none
  | .retN, env => some (.rt env (.sh .non))
  | .pass, env => some (.nx env)
  | .brk, env => some (.bk env)
  | .cont, env => some (.ct env)
  | .nev, _ => none
  | .wipe vs r, env => if vs.all fun v => !isPar env v then exS r (wipeE env vs) else none
end

/-! ### defs -/
structure MF where
  np : Nat
  nn : Nat
  mu : List Bool
  body : MS
def slot0 : AV → Option SV
  | .sh d => some (.sh d)
  | .mu ds => some (.own true ds)
def outs (env : En) : List Bool → Nat → Option (List (List D))
  | [], _ => some []
  | false :: r, i => outs env r (i + 1)
  | true :: r, i => match env[i]?, outs env r (i + 1) with
    | some (some (.own true ds)), some l => some (ds :: l)
    | _, _ => none
def fits : List Bool → List AV → Bool
  | [], [] => true
  | false :: ms, .sh _ :: r => fits ms r
  | true :: ms, .mu _ :: r => fits ms r
  | _, _ => false
def runF (mo : Nat → List Bool) (cf : CF) (F : MF) (args : List AV) : Option (RV × List (List D)) :=
  if fits F.mu args then
    match exS mo cf F.body (args.map slot0 ++ List.replicate (F.nn - F.np) none) with
    | some (.rt e r) => match outs e F.mu 0 with
      | some l => some (r, l)
      | none => none
    | some (.nx e) => match outs e F.mu 0 with
      | some l => some (.sh .non, l)
      | none => none
    | _ => none
  else none
def moT (T : List MF) (f : Nat) : List Bool := (T[f]?.map (·.mu)).getD []
def callI (T : List MF) : Nat → CF
  | 0, _, _ => none
  | n + 1, f, args => match T[f]? with
    | some F => runF (moT T) (callI T n) F args
    | none => none
end MP

set_option Elab.async false
set_option linter.all false
set_option maxRecDepth 100000
/-! Tuples whose very object is known: of the class tuple, without a dict of their own. -/
namespace MP
open PySem PySem.Spec PyProof.Rows L2
def ET (H : Hp) (a : Addr) (xs : List V) : Prop := ∃ o : Obj, H a = some (.frz o (.tup xs)) ∧ o.cls = .type "tuple" ∧ o.dict = none
theorem ET.sq {K : PySem.W.Frag} {H : Hp} {a : Addr} {xs : List V} (h : ET H a xs) : SqT K H a xs := let ⟨o, e, _⟩ := h; .inl (.inr ⟨o, e⟩)
/-- what is wanted of a new one -/
def NT (Q : VK) (H : Hp) (xs : List V) : Prop := ∀ (p : Addr) (o : Obj), H p = none → o.cls = .type "tuple" → o.dict = none → Q (.ref p) (upd H p (.frz o (.tup xs)))
def bare (its : List Value) : Obj := { cls := .type "tuple", data := .seq its.toArray }
section
variable {X : Cx}
theorem made {pins : List (Addr × Obj)} {σ : L2.St} {H : Hp} {s : Shared} {xs : List V} {its : List Value} {Q : VK} (J : Inv X pins σ H s) (rv : Vals xs its) (hz : xs.length ≤ sizeLine) (q : NT Q H xs) :
    EP X pins σ Q (.ref s.heap.objs.size) { s with heap := s.heap.push (bare its) } := by
  have hf : H s.heap.objs.size = none := J.hok.fresh (Nat.le_refl _)
  have hg : (s.heap.push (bare its)).get? s.heap.objs.size = some (bare its) := Heap.get?_push_size _ rfl
  have ok : ObjOk X.prog X.w (upd H s.heap.objs.size (.frz (bare its) (.tup xs))) (s.heap.push (bare its)) s.heap.objs.size (.frz (bare its) (.tup xs)) :=
    ⟨hg, hz, its, rv, _, hg, rfl, _, rfl⟩
  exact ⟨V.ref s.heap.objs.size, _, J.laid (t' := s.toks) (fun b u e => Heap.get?_push_of_some _ e) (Nat.le_refl _) ok, rfl, q _ _ hf rfl rfl⟩
/-- (a, b, ..) -/
def tTupE (t : TA) : TE := fun σ H Q => t σ H fun xs H1 => xs.length ≤ sizeLine ∧ NT Q H1 xs
theorem pe_tupE {es : List Expr} {t : TA} {k : Nat} {pos : Pos} (h : PA X es t) : PE X (.Tuple es k pos) (tTupE t) :=
  ⟨fun pins s σ H Q I hq => wpAny_Tuple_spliced (thn (h.run pos pins s σ H _ I hq) fun us s1 ⟨xs, H1, J, rv, hz, q⟩ => ⟨by rw [← rv.length]; exact hz, made J rv hz q⟩)⟩
/-- t[lo:hi]: the whole of it is t itself -/
def rSlE (K : PySem.W.Frag) : V → Option Int → Option Int → Hp → VK → Prop := fun x lo hi H Q => ∃ a xs, x = .ref a ∧ SqT K H a xs ∧
  (HT.sIx xs.length 0 lo = 0 ∧ HT.sIx xs.length xs.length hi = xs.length → Q (.ref a) H) ∧ (¬ (HT.sIx xs.length 0 lo = 0 ∧ HT.sIx xs.length xs.length hi = xs.length) → NT Q H (cutV xs lo hi))
theorem sl_tupE : SlR X (rSlE X.K) := by
  intro pins s σ H x v vl vu lo hi sl Q I rx hs pl pu h
  obtain ⟨a, xs, rfl, hx, q1, q2⟩ := h
  cases rx
  obtain ⟨its, rv, ht, hz⟩ := I.tuple hx
  have hn : its.toArray.size = xs.length := by rw [List.size_toArray, rv.length]
  refine ⟨"tuple", _, PyProof.Rows.slot_tuple_getitem.lookup, ht.typeIs, ?_⟩
  by_cases hw : HT.sIx xs.length 0 lo = 0 ∧ HT.sIx xs.length xs.length hi = xs.length
  · exact getItem_tuple_whole ht hs pl pu (hn.symm ▸ hw) ⟨.ref a, H, I, rfl, q1 hw⟩
  · refine HT.getItem_tuple_cut ht hs pl pu (hn.symm ▸ hw) ?_ (hn.symm ▸ hz)
    rw [hn]
    exact made I ((rv.drop _).take _) (Nat.le_trans (cutV_length xs lo hi) hz) (q2 hw)
/-- t + u -/
def rCatE (K : PySem.W.Frag) : R2 := fun x y H Q => ∃ a b xs ys, x = .ref a ∧ y = .ref b ∧ SqT K H a xs ∧ SqT K H b ys ∧ xs.length + ys.length ≤ sizeLine ∧
  (xs = [] → Q (.ref b) H) ∧ (xs ≠ [] → ys = [] → Q (.ref a) H) ∧ (xs ≠ [] → ys ≠ [] → NT Q H (xs ++ ys))
theorem op_catE : OpR X (binaryOp .Add) (rCatE X.K) := by
  intro pins s σ H x y v u Q I rx ry h
  obtain ⟨a, b, xs, ys, rfl, rfl, ha, hb, hz, q0, q1, q2⟩ := h
  cases rx
  cases ry
  obtain ⟨its, ra, pa, _⟩ := I.tuple ha
  obtain ⟨jts, rb, pb, _⟩ := I.tuple hb
  by_cases hx : xs = []
  · have : its = [] := ra.nil_iff.mpr hx
    subst this
    exact cat_tup0 pa pb ⟨.ref b, H, I, rfl, q0 hx⟩
  · refine HT.cat_tup pa pb (fun z => hx (ra.nil_iff.mp z)) (fun z => ⟨.ref a, H, I, rfl, q1 hx (rb.nil_iff.mp z)⟩) (fun z => ?_) (by rw [← ra.length, ← rb.length]; exact hz)
    exact made I (ra.append rb) (by rw [List.length_append]; exact hz) (q2 hx fun w => z (rb.nil_iff.mpr w))
/-- tuple(xs) -/
theorem call_tupleE : CallR X (.type "tuple") (fun vs H Q => ∃ p ys, vs = [.ref p] ∧ ((SqL X.K H p ys ∧ NT Q H ys) ∨ (SqT X.K H p ys ∧ Q (.ref p) H))) := by
  intro pins s σ H vs us Q I r h
  obtain ⟨p, ys, rfl, h⟩ := h
  obtain ⟨u, rfl, ru⟩ := vals1 r
  cases ru
  rcases h with ⟨hq, q⟩ | ⟨hq, q⟩
  · obtain ⟨its, rv, pl, hz⟩ := I.list hq
    have hn := rv.length
    refine call_tuple_list pl.isList (fun h' kp => ?_) (by rw [List.size_toArray]; omega)
    exact made (s := { s with heap := h' }) (I.kept (t' := s.toks) kp) rv hz q
  · obtain ⟨its, _, pt, _⟩ := I.tuple hq
    exact call_tuple_same (items := its.toArray) pt ⟨.ref p, H, I, rfl, q⟩
/-- t.index(x) -/
def rIdxT (K : PySem.W.Frag) : V → List V → Hp → VK → Prop := fun x xs H Q => ∃ (a : Addr) (ys : List V) (y : V) (d : PyData) (ds : List PyData) (j : Nat) (z : PyData), x = V.ref a ∧ xs = [y] ∧ SqT K H a ys ∧ DpAll K H ys ds ∧ Dp K H y d ∧
  SeqAt.shaped (.list ds) = true ∧ SeqAt.shaped d = true ∧ ds[j]? = some z ∧ PyData.eqv z d = true ∧ (∀ (m : Nat) (z' : PyData), m < j → ds[m]? = some z' → PyData.eqv z' d = false) ∧ Q (.int (j : Nat)) H
theorem mt_idxT (hu : X.A.units + 65 < cLine) : MtR X "tuple.index" (rIdxT X.K) := by
  intro pins s σ H x xs v us Q I rx rxs h
  obtain ⟨a, ys, y, d, ds, j, z, rfl, rfl, hs, ha, hy, sl, sd, hz, hzj, hno, q⟩ := h
  cases rx
  obtain ⟨uy, rfl, ry⟩ := vals1 rxs
  obtain ⟨bs, r1⟩ := Dp.reads I d y uy hy ry
  have lay : PyData.canLayAll0 ds = true := SeqAt.canLay_of_shaped sl
  have room : X.A.units + 1 + min (PyData.depthAll ds) d.depth < cLine := room_in_shaped sd hu
  obtain ⟨its, rv, ⟨⟨cls, dd, data, sls⟩, ho, hc, n, hdt⟩, _⟩ := I.tuple hs
  simp only at hc hdt
  subst hc hdt
  obtain ⟨as, h4⟩ := Dp.readsAll I ds _ its ha rv
  have hn : its.length = ds.length := SeqAt.ReadsAll.length ds its as h4
  have hmap : its.map (SeqAt.readOf s.heap) = ds := SeqAt.readsAll_map ds its as lay h4
  have hjd := (List.getElem?_eq_some_iff.mp hz).1
  have hj : j < its.toArray.size := by rw [List.size_toArray]; omega
  have at_ : ∀ (m : Nat) (hm : m < its.toArray.size) (z' : PyData), ds[m]? = some z' → SeqAt.readOf s.heap its.toArray[m] = z' := fun m hm z' e => by
    have hml : m < its.length := by simpa using hm
    rw [← hmap, List.getElem?_map, List.getElem?_eq_getElem hml] at e
    simpa using e
  refine call_meets PySem.F.slot_tuple_index ⟨_, ho, rfl⟩ PySem.F.entry_tuple_index (PySem.F.args_tuple_index_2 _ _)
    (TI.tuple_indexAt a its.toArray n dd sls uy (fun u => PyData.eqv (SeqAt.readOf s.heap u) d) j hj ?_ ?_) ⟨ho, SeqAt.items_eqAt (vs := its.toArray) (show ReadsAll s.heap its.toArray.toList ds as from h4) r1 lay (SeqAt.canLay_of_shaped sd) room, ?_⟩
  · show PyData.eqv (SeqAt.readOf s.heap its.toArray[j]) d = true
    rw [at_ j hj z hz, hzj]
  · intro m hm hmj
    have hmd : m < ds.length := by omega
    show PyData.eqv (SeqAt.readOf s.heap its.toArray[m]) d = false
    rw [at_ m hm _ (List.getElem?_eq_getElem hmd)]
    exact hno m _ hmj (List.getElem?_eq_getElem hmd)
  · exact ⟨.int (j : Nat), H, I.tok _, ⟨_, rfl⟩, q⟩
/-- such a tuple's own type -/
def tyE (x : V) (H : Hp) : Prop := ∃ a xs, x = .ref a ∧ ET H a xs
theorem tyE_is {pins : List (Addr × Obj)} {σ : L2.St} {H : Hp} {s : Shared} {x : V} {v : Value} (I : Inv X pins σ H s) (r : RelV x v) (ty : tyE x H) : s.TypeIs v "tuple" ∧ ∀ a, v = .ref a → ∃ ob, s.heap.get? a = some ob ∧ ob.dict = none := by
  obtain ⟨a, xs, rfl, o, e, hc, hd⟩ := ty
  cases r
  have g := (show ObjOk X.prog X.w H s.heap a (.frz o (.tup xs)) from I.hok a _ e).1
  exact ⟨⟨o, g, hc⟩, fun b z => by cases z; exact ⟨o, g, hd⟩⟩
/-- xs.index(y), xs a list or a tuple -/
def tIdx (K : PySem.W.Frag) (to : TE) (t : TA) : TE := fun σ H Q => to σ H fun x H1 =>
  (tyV K "list" x H1 ∧ t σ H1 fun ys H2 => rIndexD K x ys H2 Q) ∨ (tyE x H1 ∧ t σ H1 fun ys H2 => rIdxT K x ys H2 Q)
theorem pe_idx {o e : Expr} {to : TE} {t : TA} {apos cpos : Pos} (hu : X.A.units + 65 < cLine) (ho : PE X o to) (ha : PA X [e] t)
    (hb : attributeBase o "index" X.env (eval o X.env) = eval o X.env)
    (hfew : ((backTo cpos (starEach [e] X.env)).all (fun x => !x.1) && (backToKw cpos (keywordEach [] X.env)).all (fun x => x.1.isSome) && decide (([e] : List Expr).length + ([] : List Keyword).length + (if ([] : List Keyword).isEmpty then 0 else 1) < 30)) = true)
    (hline : (apos.endLine == cpos.line) = true) (hs : starEach [e] X.env = (false, eval e X.env) :: starEach [] X.env) : PE X (.Call (.Attribute o "index" apos) [e] [] cpos) (tIdx X.K to t) := by
  refine ⟨fun pins s σ H Q I h => wpAny_Call_method_late hb hfew hline rfl (thn (ho.run pins s σ H _ I h) fun v s1 ⟨x, H1, I1, r1, q1⟩ => ?_)⟩
  rcases q1 with ⟨ty, q1⟩ | ⟨ty, q1⟩
  · obtain ⟨h1, h2⟩ := tyV_is I1 r1 ty
    refine ⟨"list", "list.index", PySem.F.plainAttrs_list, PySem.F.slot_list_index, PySem.F.type_list_index, h1, h2, ?_⟩
    have hA := ha.run cpos pins s1 σ H1 _ I1 q1
    rw [hs] at hA ⊢
    exact Calls.callWith_builtin rfl (Calls.evalArgs_plain (thn hA fun us s2 ⟨vs, H2, I2, r2, q2⟩ => mt_indexD hu pins s2 σ H2 x vs v us Q I2 r1 r2 q2))
  · obtain ⟨h1, h2⟩ := tyE_is I1 r1 ty
    refine ⟨"tuple", "tuple.index", PySem.F.plainAttrs_tuple, PySem.F.slot_tuple_index, PySem.F.type_tuple_index, h1, h2, ?_⟩
    have hA := ha.run cpos pins s1 σ H1 _ I1 q1
    rw [hs] at hA ⊢
    exact Calls.callWith_builtin rfl (Calls.evalArgs_plain (thn hA fun us s2 ⟨vs, H2, I2, r2, q2⟩ => mt_idxT hu pins s2 σ H2 x vs v us Q I2 r1 r2 q2))
end
end MP

set_option Elab.async false
set_option linter.all false
set_option maxRecDepth 100000
/-! t < u of tuples of numbers and texts, of the same kinds up to the first difference. -/
namespace MP
open PySem PySem.SeqAt Ob
open PySem.AutoSeq1 (wpAny_loadPart')
open PySem.MeetsSeq PySem.MeetsSeq2 PySem.MeetsSeq3
inductive LexR (A : Around) (s : Shared) (fin : Bool) : List (Value × Value) → Bool → Prop
  | nil : LexR A s fin [] fin
  | same {x y : Value} {r : List (Value × Value)} {b : Bool} : EqAt A s x y true → LexR A s fin r b → LexR A s fin ((x, y) :: r) b
  | less {x y : Value} {r : List (Value × Value)} {b : Bool} : EqAt A s x y false → RcOp .Lt A s x y b → LexR A s fin ((x, y) :: r) b
theorem lt_meets (l m : Addr) (xs ys : Array Value) (n n2 : Nat) (dd dd2 : Option Addr) (sl sl2 : Array (Option Value)) (v : Bool) :
    Meets (Builtin.«tuple.__lt__» ⟨[.ref l, .ref m], []⟩)
      (fun A R s => s.heap.get? l = some { cls := .type "tuple", dict := dd, data := .seq xs n, slots := sl } ∧ s.heap.get? m = some { cls := .type "tuple", dict := dd2, data := .seq ys n2, slots := sl2 } ∧
        LexR A.in1 s (decide (xs.size < ys.size)) (xs.toList.zip ys.toList) v ∧ R (.ok (.ret (.bool v))) s) :=
  .of_wp fun prog w A R s h => by
    obtain ⟨hp, g, d, tk, os⟩ := s
    obtain ⟨hl, hm, lx, h⟩ := h
    have f2 := AutoSeq1.sub_tuple_tuple
    wp_walk using wpAny_loadPart' hl, wpAny_loadPart' hm, wpAny_forIn_list _ (fun rest b s' => b.1 = none ∧ s' = ⟨hp, g, d, tk, os⟩ ∧ LexR A.in1 ⟨hp, g, d, tk, os⟩ (decide (xs.size < ys.size)) rest v) _
    case turn =>
      rintro ⟨y, x⟩ rest b s' ⟨hb, rfl, lr⟩
      cases lr with
      | same he lr =>
        refine wpAny_bind (he prog w _ _ ?_)
        wp_walk
        exact ⟨rfl, rfl, lr⟩
      | less he hr =>
        refine wpAny_bind (he prog w _ _ ?_)
        have hri := hr prog w
        wp_walk using hri
        exact ⟨_, rfl, by simpa using h⟩
    case fin =>
      rintro ⟨b1, b2⟩ s' ⟨hb, rfl, lr⟩
      simp only at hb
      subst hb
      cases lr
      wp_walk
      exact ⟨_, rfl, by simpa [Builtin.Tuple.tupleCompareSizes] using h⟩
    case h => exact ⟨rfl, rfl, lx⟩
theorem RcOp.lt_flat {A : Around} {s : Shared} {l m : Addr} {xs ys : Array Value} {v : Bool} (hl : s.heap.IsTuple l xs) (hm : s.heap.IsTuple m ys) (hu : A.units < cLine)
    (lx : LexR A.in1 s (decide (xs.size < ys.size)) (xs.toList.zip ys.toList) v) : RcOp .Lt A s (.ref l) (.ref m) v := fun prog w E Q h => by
  obtain ⟨⟨cls, dd, data, sl⟩, ho, hc, n, hd⟩ := id hl
  obtain ⟨⟨cls2, dd2, data2, sl2⟩, ho2, hc2, n2, hd2⟩ := id hm
  simp only at hc hd hc2 hd2
  subst hc hd hc2 hd2
  exact richCompare_meets_room (op := .Lt) ⟨_, ho, rfl⟩ ⟨_, ho2, rfl⟩ F.slot_tuple_lt F.entry_tuple_lt (F.args_tuple_lt_2 _ _) (lt_meets l m xs ys n n2 dd dd2 sl sl2 v)
    ⟨ho, ho2, lx, ⟨(fun x => nomatch x), h⟩⟩ hu
end MP
namespace MP
open PySem PySem.Spec PyProof.Rows L2
/-- what is due, where both are of the same kinds up to the first difference -/
def lexV : List V → List V → Option Bool
  | [], ys => some (!ys.isEmpty)
  | _ :: _, [] => some false
  | .int i :: xs, .int j :: ys => if i = j then lexV xs ys else some (decide (i < j))
  | .str x :: xs, .str y :: ys => if x = y then lexV xs ys else some (decide (x.cps.toList < y.cps.toList))
  | _ :: _, _ :: _ => none
theorem lexR_of {A : Around} {s : Shared} : ∀ {xs ys : List V} {ps qs : List Value} {fin v : Bool}, Vals xs ps → Vals ys qs → lexV xs ys = some v → fin = decide (xs.length < ys.length) → LexR A s fin (ps.zip qs) v
  | [], ys, _, qs, fin, v, .nil, rq, e, hf => by
    have : v = fin := by
      cases ys with
      | nil => cases e; exact hf.symm
      | cons _ _ => cases e; rw [hf]; simp
    subst this
    exact .nil
  | x :: xs, [], _, _, fin, v, .cons rx rp, .nil, e, hf => by
    have : v = fin := by
      have e : some false = some v := by cases x <;> exact e
      cases e
      rw [hf]; simp
    subst this
    exact .nil
  | x :: xs, y :: ys, _, _, fin, v, .cons rx rp, .cons ry rq, e, hf => by
    have hf' : fin = decide (xs.length < ys.length) := by rw [hf]; simp
    cases x with
    | int i =>
      cases y with
      | int j =>
        obtain ⟨t, rfl⟩ := (show ∃ t, _ = Value.int i t from rx)
        obtain ⟨u, rfl⟩ := (show ∃ u, _ = Value.int j u from ry)
        have e : (if i = j then lexV xs ys else some (decide (i < j))) = some v := e
        have q := SeqAt.EqAt.int_int (A := A) (s := s) i t j u
        by_cases h : i = j
        · rw [if_pos h] at e
          rw [beq_iff_eq.mpr h] at q
          exact .same q (lexR_of rp rq e hf')
        · rw [if_neg h] at e
          cases e
          rw [beq_eq_false_iff_ne.mpr h] at q
          exact .less q (Ob.RcOp.lt_int i j t u)
      | _ => cases e
    | str a =>
      cases y with
      | str b =>
        obtain ⟨t, rfl⟩ := (show ∃ t, _ = Value.str a t from rx)
        obtain ⟨u, rfl⟩ := (show ∃ u, _ = Value.str b u from ry)
        have e : (if a = b then lexV xs ys else some (decide (a.cps.toList < b.cps.toList))) = some v := e
        have q := SeqAt.EqAt.str_str (A := A) (s := s) a t b u
        by_cases h : a = b
        · rw [if_pos h] at e
          rw [beq_iff_eq.mpr h] at q
          exact .same q (lexR_of rp rq e hf')
        · rw [if_neg h] at e
          cases e
          rw [beq_eq_false_iff_ne.mpr h] at q
          exact .less q (fun prog w E Q h => PyProof.Rows.lt_str h)
      | _ => cases e
    | _ => cases y <;> cases e
def rLtF (K : PySem.W.Frag) : R2 := fun x y H Q => ∃ a b xs ys v, x = .ref a ∧ y = .ref b ∧ SqT K H a xs ∧ SqT K H b ys ∧ lexV xs ys = some v ∧ Q (.bl v) H
theorem op_ltF {X : Cx} (hu : X.A.units < cLine) : OpR X (compareOp .Lt) (rLtF X.K) := by
  intro pins s σ H x y v u Q I rx ry h
  obtain ⟨a, b, xs, ys, w, rfl, rfl, ha, hb, e, q⟩ := h
  cases rx
  cases ry
  obtain ⟨ps, ra, pa, _⟩ := I.tuple ha
  obtain ⟨qs, rb, pb, _⟩ := I.tuple hb
  have R := RcOp.lt_flat (A := X.A) (s := s) pa pb hu (lexR_of ra rb e (by rw [List.size_toArray, List.size_toArray, ra.length, rb.length]))
  exact (R X.prog X.w X.xe (EP X pins σ Q) ⟨.bl _, H, I, rfl, q⟩ : wpAny (model X.prog X.w) X.A (compareOp .Lt (.ref a) (.ref b)) (EP X pins σ Q) X.xe s)
end MP

set_option Elab.async false
set_option linter.all false
set_option maxRecDepth 100000
/-! tuple(text) -/
namespace MP
open PySem PySem.Spec PyProof.Rows L2
section
variable {prog : Program} {w : World} {A : Around} {E : Value → Shared → Prop} {s : Shared} {x : Str} {t : Tok}
def Kept (s : Shared) (h' : Heap) : Prop := ∀ b o, s.heap.get? b = some o → h'.get? b = some o
theorem gather_str {Q : List Value → Shared → Prop} (hd : A.handled = none) (room : x.cps.size ≤ sizeLine)
    (goal : ∀ (h' : Heap) (tk : Nat) (acc : Array Value), Kept s h' → ItemsOf (SignAt x) acc x.cps.size → Q acc.toList { s with heap := h', toks := tk }) :
    wpAny (model prog w) A (collect (.str x t)) Q E s := by
  unfold collect
  refine wpAny_bind (wpAny_runValue (codeAny_builtin F.entry_proto_collect ?_))
  rw [Around.under_plainId F.plain_proto_collect _]
  show wpAny _ A.in1 (newList [] >>= fun m => again (.builtin "list.__iadd__" ⟨[m, .str x t], []⟩)) _ _ s
  refine wpAny_bind (wpAny_newObj_type (wpAny_pure ⟨plainId_quiet F.plain_list_iadd _, codeAny_builtin F.entry_list_iadd ?_⟩))
  rw [Around.under_plainId F.plain_list_iadd _]
  show wpAny _ A.in1 (Builtin.List.listExtendWith (.ref s.heap.objs.size) (.str x t) (.ref s.heap.objs.size)) _ _ _
  have at0 : (s.heap.push { cls := .type "list", data := .seq ([] : List Value).toArray }).get? s.heap.objs.size = some { cls := .type "list", data := .seq #[] 0 } := Heap.get?_push_size _ rfl
  refine wpAny_mono (wpAny_extend_str (A := A) (R := fun rr s' => rr = .ok (.ret (.ref s.heap.objs.size)) ∧ ∃ (h' : Heap) (tk : Nat) (acc : Array Value) (c' : Nat), s' = { s with heap := h', toks := tk } ∧
      Kept s h' ∧ h'.get? s.heap.objs.size = some { cls := .type "list", dict := none, data := .seq acc c', slots := #[] } ∧ ItemsOf (SignAt x) acc x.cps.size)
    (s := { s with heap := s.heap.push { cls := .type "list", data := .seq ([] : List Value).toArray } }) (hn := room) hd x t _ _ 0 at0
    (fun h' tk acc c' kp e hi => ⟨rfl, h', tk, acc, c', rfl, fun b o q => kp b o (Nat.ne_of_lt (Heap.lt_size q)) (Heap.get?_push_of_some _ q), e, hi⟩)) (fun fin s' h => ?_) (fun e s' h => ?_)
  · cases fin with
    | done f =>
      obtain ⟨e, h', tk, acc, c', rfl, kp, hS', hi⟩ := h
      cases e
      show wpAny _ A (load s.heap.objs.size >>= _) _ _ _
      exact wpAny_bind (wpAny_load hS' (wpAny_pure (goal h' tk acc kp hi)))
    | again c' =>
      refine ⟨h.1, codeAny_mono h.2 fun rr s2 hr' => ?_⟩
      obtain ⟨rfl, h', tk, acc, c', rfl, kp, hS', hi⟩ := hr'
      show wpAny _ A (load s.heap.objs.size >>= _) _ _ _
      exact wpAny_bind (wpAny_load hS' (wpAny_pure (goal h' tk acc kp hi)))
  · exact absurd h.1 (by simp)
theorem code_tuple_of_str {R : Value → Shared → Prop} (hd : A.handled = none) (room : x.cps.size ≤ sizeLine)
    (goal : ∀ (h' : Heap) (tk : Nat) (acc : Array Value), Kept s h' → ItemsOf (SignAt x) acc x.cps.size → R (.ref h'.objs.size) { s with heap := h'.push { cls := .type "tuple", data := .seq acc }, toks := tk }) :
    codeAny (model prog w) A (.call (.builtin "tuple.__new__") ⟨[.type "tuple", .str x t], []⟩) (wants R E) s := by
  refine codeAny_of_tree ?_
  show wpAny _ A.in1 (do checkBuiltinCall "tuple.__new__" ⟨[.type "tuple", .str x t], []⟩; again (.builtin "tuple.__new__" ⟨[.type "tuple", .str x t], []⟩)) _ _ s
  refine wpAny_bind (wpAny_of_eq (F.newCall_tuple_1 _) (wpAny_pure ⟨plainId_quiet F.plain_tuple_new _, codeAny_builtin F.entry_tuple_new ?_⟩))
  rw [Around.under_plainId F.plain_tuple_new _]
  have f1 := sub_tuple_self
  have f2 := init_tuple_lookup
  have f3 := madeHere_tuple
  have ty : s.TypeIs (.str x t) "str" := typeIs_str s x t
  have hd1 : A.in1.handled = none := hd
  wp_walk using wpAny_typeOf ty, gather_str (A := A.in1) hd1 room
  intro h' tk acc kp hi
  show wpAny _ _ (Builtin.Tuple.tupleExact acc.toList.toArray >>= fun v => ret v) _ _ _
  unfold Builtin.Tuple.tupleExact
  have e : acc.toList.toArray = acc := by simp
  rw [e]
  exact wpAny_bind (wpAny_newObj_type (wpAny_pure (goal h' tk acc kp hi)) (by show acc.size ≤ sizeLine; rw [hi.1]; exact room))
theorem call_tuple_of_str {Q : Value → Shared → Prop} (hd : A.handled = none) (room : x.cps.size ≤ sizeLine)
    (goal : ∀ (h' : Heap) (tk : Nat) (acc : Array Value), Kept s h' → ItemsOf (SignAt x) acc x.cps.size → Q (.ref h'.objs.size) { s with heap := h'.push { cls := .type "tuple", data := .seq acc }, toks := tk }) :
    wpAny (model prog w) A (call (.type "tuple") [.str x t]) Q E s := by
  refine callType_codes (Q₁ := fun obj s1 => s1.TypeIs obj "tuple" ∧ Q obj s1) F.called_tuple (F.typeCall_tuple_1 _) F.entry_object_init
    (code_tuple_of_str (A := A.in1) hd room fun h' tk acc kp hi => ⟨⟨_, Heap.get?_push_size _ rfl, rfl⟩, goal h' tk acc kp hi⟩) fun obj s1 h1 => ?_
  exact ⟨h1.1, F.args_object_init_2 obj _, object_init_meets F.called_tuple.init.lookup F.called_tuple.made (by decide) prog w A.in1 _ s1 ⟨h1.1, rfl, h1.2⟩⟩
end
section
variable {X : Cx}
/-- the signs of a text -/
def signsV (x : Str) : List V := x.cps.toList.map fun c => V.str ⟨#[c]⟩
theorem vals_at : ∀ {xs : List V} {us : List Value}, xs.length = us.length → (∀ (j : Nat) (v : V) (u : Value), xs[j]? = some v → us[j]? = some u → RelV v u) → Vals xs us
  | [], [], _, _ => .nil
  | [], _ :: _, h, _ => by cases h
  | _ :: _, [], h, _ => by cases h
  | x :: xs, u :: us, h, g => .cons (g 0 x u rfl rfl) (vals_at (Nat.succ.inj h) fun j v w e1 e2 => g (j + 1) v w (by simpa using e1) (by simpa using e2))
theorem signs_vals {x : Str} {acc : Array Value} (h : ItemsOf (SignAt x) acc x.cps.size) : Vals (signsV x) acc.toList := by
  refine vals_at ?_ fun j v u e1 e2 => ?_
  · unfold signsV
    rw [List.length_map, Array.length_toList, Array.length_toList, h.1]
  · obtain ⟨c, k, g1, rfl⟩ := h.2 j u (by simpa using e2)
    unfold signsV at e1
    rw [List.getElem?_map, Array.getElem?_toList, g1] at e1
    cases e1
    exact ⟨k, rfl⟩
theorem signs_len (x : Str) : (signsV x).length = x.cps.size := by
  unfold signsV
  rw [List.length_map, Array.length_toList]
theorem cr_tuple_str (hc : X.calm = true) : CallR X (.type "tuple") (fun vs H Q => ∃ x : Str, vs = [.str x] ∧ x.cps.size ≤ sizeLine ∧ NT Q H (signsV x)) := by
  intro pins s σ H vs us Q I r h
  obtain ⟨x, rfl, hz, q⟩ := h
  obtain ⟨u, rfl, ru⟩ := vals1 r
  obtain ⟨t, rfl⟩ := (show ∃ t, u = Value.str x t from ru)
  refine call_tuple_of_str (I.ok.hd hc) hz fun h' tk acc kp hi => ?_
  have J : Inv X pins σ H { s with heap := h', toks := tk } := I.kept kp
  have e : acc.toList.toArray = acc := by simp
  have := made J (signs_vals hi) (by rw [signs_len]; exact hz) q
  rw [bare, e] at this
  exact this
theorem cr_list_str (hc : X.calm = true) : CallR X (.type "list") (fun vs H Q => ∃ x : Str, vs = [.str x] ∧ x.cps.size ≤ sizeLine ∧ ∀ p, H p = none → Q (.ref p) (upd H p (.lst (signsV x)))) := by
  intro pins s σ H vs us Q I r h
  obtain ⟨x, rfl, hz, q⟩ := h
  obtain ⟨u, rfl, ru⟩ := vals1 r
  obtain ⟨t, rfl⟩ := (show ∃ t, u = Value.str x t from ru)
  refine call_list_str (hn := hz) (I.ok.hd hc) x t fun h' tk acc c kp e hi => ?_
  have g : h'.get? s.heap.objs.size = some { cls := .type "list", data := .seq acc.toList.toArray c } := by rw [Array.toArray_toList]; exact e
  exact ⟨.ref s.heap.objs.size, _, I.laid (t' := tk) (o := .lst (signsV x)) kp (Nat.le_refl _) ⟨by rw [signs_len]; exact hz, _, c, signs_vals hi, g⟩, rfl, q _ (I.hok.fresh (Nat.le_refl _))⟩
end
end MP

set_option Elab.async false
set_option linter.all false
set_option maxRecDepth 100000
/-! x[::-1] of a text -/
namespace MP
open PySem PySem.Spec PyProof.Rows L2
open PySem.Builtin.Str (strSliceIndices)
def revS (z : Str) : Str := ⟨z.cps.toList.reverse.toArray⟩
theorem picks_back (z : Str) : (strSliceIndices none none (-1) z.length).filterMap (z.cps[·]?) = z.cps.toList.reverse := by
  have e : strSliceIndices none none (-1) z.length = ((List.range z.cps.size).reverse) := by
    show sliceRange ((z.cps.size : Int) - 1) (-1) (-1) = _
    unfold sliceRange
    have c : (if (-1 : Int) > 0 then (if ((z.cps.size : Int) - 1) < -1 then ((-1) - ((z.cps.size : Int) - 1) + (-1) - 1) / (-1) else 0) else (if ((z.cps.size : Int) - 1) > -1 then (((z.cps.size : Int) - 1) - (-1) - (-1) - 1) / (-(-1)) else 0)) = (z.cps.size : Int) := by
      rw [if_neg (by decide)]
      by_cases h : ((z.cps.size : Int) - 1) > -1
      · rw [if_pos h]
        show ((z.cps.size : Int) - 1 - (-1) - (-1) - 1) / 1 = _
        rw [Int.ediv_one]
        omega
      · rw [if_neg h]
        omega
    simp only [] at c ⊢
    rw [c, Int.toNat_natCast]
    apply List.ext_getElem
    · simp
    · intro i h1 h2
      simp only [List.getElem_map, List.getElem_range, List.getElem_reverse, List.length_range]
      simp only [List.length_map, List.length_range] at h1
      omega
  rw [e, List.filterMap_reverse]
  congr 1
  exact PySem.W.krv_all z.cps
section
variable {X : Cx}
theorem item_back {pins : List (Addr × Obj)} {σ : L2.St} {H : Hp} {s : Shared} {z : Str} {t : Tok} {sl : Addr} {vl vu vs : Value} {Q : VK} (I : Inv X pins σ H s) (hs : s.heap.IsSliceOf sl vl vu vs) (pl : IsPart vl none) (pu : IsPart vu none) (ps : IsPart vs (some (-1)))
    (hz : z.length ≤ sizeLine) (q : Q (.str (revS z)) H) : wpAny (model X.prog X.w) X.A (getItem (.str z t) (.ref sl)) (EP X pins σ Q) X.xe s := by
  obtain ⟨os, hos, hcs, hds⟩ := hs
  obtain ⟨l, rfl, el⟩ := IsPart.raw pl
  obtain ⟨u, rfl, eu⟩ := IsPart.raw pu
  obtain ⟨d, rfl, ed⟩ := IsPart.raw ps
  have l0 : l = none := by cases l with | none => rfl | some _ => cases el
  have u0 : u = none := by cases u with | none => rfl | some _ => cases eu
  subst l0 u0
  cases d with
  | none => cases ed
  | some d =>
  obtain ⟨k, tk⟩ := d
  have ek : k = -1 := Option.some.inj ed
  subst ek
  refine wpAny_getItem_str_slice (l := none) (u := none) (st := some (-1, tk)) ⟨os, hos, hcs, hds⟩ rfl ?_
  show Made.post (if ((-1 : Int) == 1 && (strSliceIndices none none (-1) z.length).length == z.length) = true then Made.val (.str z t)
    else Made.str ⟨((strSliceIndices none none (-1) z.length).filterMap (z.cps[·]?)).toArray⟩) (EP X pins σ Q) s
  rw [if_neg (by simp), picks_back]
  have hl : (revS z).length ≤ sizeLine := by
    show z.cps.toList.reverse.toArray.size ≤ sizeLine
    rw [List.size_toArray, List.length_reverse, Array.length_toList]
    exact hz
  exact ⟨hl, .str (revS z), H, I.tok _, ⟨_, rfl⟩, q⟩
end
end MP

set_option Elab.async false
set_option linter.all false
set_option maxRecDepth 100000
namespace MP
open PySem PySem.Spec PyProof.Rows L2
/-! t * k, the new tuple by its very object -/
def rRepE (K : PySem.W.Frag) : R2 := fun x y H Q => ∃ l k xs, x = .ref l ∧ y = .int k ∧ SqT K H l xs ∧ xs ≠ [] ∧ 2 ≤ k ∧ k ≤ 1000 ∧ xs.length ≤ 1000 ∧ NT Q H (List.replicate k.toNat xs).flatten
section
variable {X : Cx}
theorem op_repE : OpR X (binaryOp .Mult) (rRepE X.K) := by
  intro pins s σ H x y v u Q I rx ry h
  obtain ⟨l, k, xs, rfl, rfl, hT, hne, h1, h2, hz, q⟩ := h
  cases rx
  obtain ⟨t, rfl⟩ := ry
  obtain ⟨its, r, ⟨⟨cls, dd, data, sl⟩, ho, hc, n, hd⟩, hs⟩ := I.tuple hT
  simp only at hc hd
  subst hc hd
  have len0 : its.length = xs.length := r.length.symm
  have full : its ≠ [] := fun e => hne (r.nil_iff.mp e)
  have flag : its.toArray.isEmpty = false := by
    cases its with
    | nil => exact absurd rfl full
    | cons _ _ => rfl
  have size0 : its.toArray.size = xs.length := by rw [List.size_toArray, len0]
  have prod : ((its.toArray.size : Nat) : Int) * k ≤ 1000000 := by
    rw [size0]
    have : ((xs.length : Nat) : Int) * k ≤ 1000 * k := Int.mul_le_mul_of_nonneg_right (by omega) (by omega)
    omega
  have all : k.toNat * xs.length ≤ 1000 * 1000 := Nat.mul_le_mul (by omega) hz
  have room : (List.replicate k.toNat its).flatten.length ≤ sizeLine := by
    rw [PyProof.Rows.lm_len_rep_flat, len0, sizeLine_eq]
    omega
  have a0 : (decide (k < -(2 ^ 63)) || decide (k ≥ 2 ^ 63)) = false := by
    have x1 : decide (k < -(2 ^ 63)) = false := decide_eq_false (by omega)
    have x2 : decide (k ≥ 2 ^ 63) = false := decide_eq_false (by omega)
    rw [x1, x2]; rfl
  have a1 : (its.toArray.isEmpty || k == 1) = false := by
    rw [flag, Bool.false_or, beq_eq_false_iff_ne]
    omega
  have a2 : (decide (k ≤ 0) || its.toArray.isEmpty) = false := by
    rw [flag, Bool.or_false, decide_eq_false_iff_not]
    omega
  have a4 : Builtin.Tuple.tupleTooMany (((its.toArray.size : Nat) : Int) * k) = false := by
    show decide _ = false
    rw [sizeLine_eq, decide_eq_false_iff_not]
    omega
  have new := made (X := X) (pins := pins) (σ := σ) (Q := Q) I (r.rep k.toNat) (by rw [PyProof.Rows.lm_len_rep_flat, sizeLine_eq]; omega) q
  exact wpAny_binaryOp_repeat_ref (T := "tuple") (U := "int") (by decide) ⟨_, ho, rfl⟩ (fun s' => typeIs_int s' k t) noFill_tuple_mul F.fills_int_mul F.slot_int_rmul repeat_tuple F.slot_int_index.lookup
    (call_meets F.slot_int_rmul (typeIs_int s k t) F.entry_int_rmul (F.args_int_rmul_2 _ _) (int_rmul_tuple k t l its.toArray n dd sl) ⟨ho, rfl, ⟨_, ho, rfl⟩, call_meets F.slot_tuple_mul ⟨_, ho, rfl⟩ F.entry_tuple_mul (F.args_tuple_mul_2 _ _) (tuple_mulW l its.toArray n dd sl k t a0 a1 a2 (by omega) a4 (by rw [size_rep, List.size_toArray]; exact room)) ⟨ho, by rw [size_rep]; exact new⟩⟩)
end
end MP

set_option Elab.async false
set_option linter.all false
set_option maxRecDepth 100000
namespace MP
open PySem PySem.Spec PyProof.Rows L2

abbrev St := L2.St
/-! ### data as the machine holds it -/
def str0 (s : List Nat) : Str := ⟨s.toArray⟩
def okS (s : List Nat) : Bool := s.all (· < 0x110000)
abbrev big : Nat := 1000000
mutual
inductive Rep (K : PySem.W.Frag) (M : Addr → Prop) (H : Hp) : V → D → Prop
  | non : Rep K M H .non .non
  | bl (b : Bool) : Rep K M H (.bl b) (.bl b)
  | int (i : Int) : Rep K M H (.int i) (.int i)
  | str (s : List Nat) (h : okS s = true) (hl : s.length ≤ big) : Rep K M H (.str (str0 s)) (.str s)
  | lst {a : Addr} {xs : List V} {ds : List D} (h : H a = some (.lst xs)) (hm : ¬ M a) (hl : ds.length ≤ big) (r : RepL K M H xs ds) : Rep K M H (.ref a) (.lst ds)
  | tup {a : Addr} {xs : List V} {ds : List D} (h : ET H a xs) (hl : ds.length ≤ big) (r : RepL K M H xs ds) : Rep K M H (.ref a) (.tup ds)
  | duo {a : Addr} {xs : List V} {ds : List D} (h : H a = some (.tup xs)) (hl : ds.length ≤ big) (r : RepL K M H xs ds) : Rep K M H (.ref a) (.duo ds)
  | scr {a : Addr} {xs : List V} {ds : List D} (h : (∃ o, H a = some (.frz o (.lst xs))) ∨ ∀ H', SqL K H' a xs) (hl : ds.length ≤ big) (r : RepL K M H xs ds) : Rep K M H (.ref a) (.scr ds)
inductive RepL (K : PySem.W.Frag) (M : Addr → Prop) (H : Hp) : List V → List D → Prop
  | nil : RepL K M H [] []
  | cons {v : V} {vs : List V} {d : D} {ds : List D} : Rep K M H v d → RepL K M H vs ds → RepL K M H (v :: vs) (d :: ds)
end
/-- what may change: a list, a set or a dict in the making -/
def MutO : HO → Prop
  | .lst _ => True
  | .ext _ => True
  | .dK _ => True
  | .dT _ => True
  | _ => False
section
variable {K : PySem.W.Frag} {M M' : Addr → Prop} {H H' : Hp}
theorem RepL.length : ∀ {vs : List V} {ds : List D}, RepL K M H vs ds → vs.length = ds.length
  | _, _, .nil => rfl
  | _, _, .cons _ t => by rw [List.length_cons, List.length_cons, RepL.length t]
mutual
/-- what is kept: objects that stood there and were nobody's; what M' has more is new -/
theorem Rep.keep (k : ∀ b o, H b = some o → ¬ M b → H' b = some o) (mok : ∀ b, M b → ∃ o, H b = some o ∧ MutO o) (g : ∀ b, M' b → M b ∨ H b = none) : ∀ {v : V} {d : D}, Rep K M H v d → Rep K M' H' v d
  | _, _, .non => .non
  | _, _, .bl b => .bl b
  | _, _, .int i => .int i
  | _, _, .str s h hl => .str s h hl
  | _, _, .lst h hm hl r => .lst (k _ _ h hm) (fun q => (g _ q).elim hm fun z => by rw [h] at z; cases z) hl (RepL.keep k mok g r)
  | _, _, .tup ⟨o, h, c⟩ hl r => .tup ⟨o, k _ _ h (fun q => by obtain ⟨_, e, z⟩ := mok _ q; rw [h] at e; cases e; exact z), c⟩ hl (RepL.keep k mok g r)
  | _, _, .duo h hl r => .duo (k _ _ h fun q => by obtain ⟨_, e, z⟩ := mok _ q; rw [h] at e; cases e; exact z) hl (RepL.keep k mok g r)
  | _, _, .scr h hl r => .scr (h.imp (fun ⟨o, e⟩ => ⟨o, k _ _ e fun q => by obtain ⟨_, z, y⟩ := mok _ q; rw [e] at z; cases z; exact y⟩) id) hl (RepL.keep k mok g r)
theorem RepL.keep (k : ∀ b o, H b = some o → ¬ M b → H' b = some o) (mok : ∀ b, M b → ∃ o, H b = some o ∧ MutO o) (g : ∀ b, M' b → M b ∨ H b = none) : ∀ {vs : List V} {ds : List D}, RepL K M H vs ds → RepL K M' H' vs ds
  | _, _, .nil => .nil
  | _, _, .cons h t => .cons (Rep.keep k mok g h) (RepL.keep k mok g t)
end
/-- fewer are owned -/
theorem Rep.mono (mok : ∀ b, M b → ∃ o, H b = some o ∧ MutO o) (g : ∀ b, M' b → M b) {v : V} {d : D} (r : Rep K M H v d) : Rep K M' H v d := r.keep (fun _ _ h _ => h) mok fun b q => .inl (g b q)
theorem RepL.mono (mok : ∀ b, M b → ∃ o, H b = some o ∧ MutO o) (g : ∀ b, M' b → M b) {v : List V} {d : List D} (r : RepL K M H v d) : RepL K M' H v d := r.keep (fun _ _ h _ => h) mok fun b q => .inl (g b q)
theorem RepL.append : ∀ {xs ys : List V} {ds es : List D}, RepL K M H xs ds → RepL K M H ys es → RepL K M H (xs ++ ys) (ds ++ es)
  | _, _, _, _, .nil, s => s
  | _, _, _, _, .cons r t, s => .cons r (RepL.append t s)
theorem RepL.get : ∀ {vs : List V} {ds : List D} {i : Nat} {d : D}, RepL K M H vs ds → ds[i]? = some d → ∃ v, vs[i]? = some v ∧ Rep K M H v d
  | _, _, _, _, .nil, e => by simp at e
  | _, _, 0, _, .cons r _, e => by simp at e; subst e; exact ⟨_, rfl, r⟩
  | _, _, i + 1, d, .cons _ t, e => by
    obtain ⟨u, h1, h2⟩ := RepL.get (i := i) (d := d) t (by simpa using e)
    exact ⟨u, by simpa using h1, h2⟩
theorem RepL.getV : ∀ {vs : List V} {ds : List D} {i : Nat} {v : V}, RepL K M H vs ds → vs[i]? = some v → ∃ d, ds[i]? = some d ∧ Rep K M H v d
  | _, _, _, _, .nil, e => by simp at e
  | _, _, 0, _, .cons r _, e => by simp at e; subst e; exact ⟨_, rfl, r⟩
  | _, _, i + 1, d, .cons _ t, e => by
    obtain ⟨u, h1, h2⟩ := RepL.getV (i := i) (v := d) t (by simpa using e)
    exact ⟨u, by simpa using h1, h2⟩
theorem RepL.take : ∀ {xs : List V} {ds : List D} (n : Nat), RepL K M H xs ds → RepL K M H (xs.take n) (ds.take n)
  | _, _, 0, _ => .nil
  | _, _, _ + 1, .nil => .nil
  | _, _, n + 1, .cons r t => .cons r (RepL.take n t)
theorem RepL.drop : ∀ {xs : List V} {ds : List D} (n : Nat), RepL K M H xs ds → RepL K M H (xs.drop n) (ds.drop n)
  | _, _, 0, r => r
  | _, _, _ + 1, .nil => .nil
  | _, _, n + 1, .cons _ t => RepL.drop n t
theorem RepL.set {v : V} {d : D} (r : Rep K M H v d) : ∀ {xs : List V} {ds : List D} (i : Nat), RepL K M H xs ds → RepL K M H (xs.set i v) (ds.set i d)
  | _, _, _, .nil => .nil
  | _, _, 0, .cons _ t => .cons r t
  | _, _, i + 1, .cons q t => .cons q (RepL.set r i t)
theorem RepL.eraseIdx : ∀ {xs : List V} {ds : List D} (i : Nat), RepL K M H xs ds → RepL K M H (xs.eraseIdx i) (ds.eraseIdx i)
  | _, _, _, .nil => .nil
  | _, _, 0, .cons _ t => t
  | _, _, i + 1, .cons r t => .cons r (RepL.eraseIdx i t)
theorem RepL.dropLast : ∀ {xs : List V} {ds : List D}, RepL K M H xs ds → RepL K M H xs.dropLast ds.dropLast
  | _, _, .nil => .nil
  | _, _, .cons r .nil => .nil
  | _, _, .cons r (.cons q t) => .cons r (RepL.dropLast (.cons q t))
theorem RepL.rev {xs : List V} {ds : List D} (h : RepL K M H xs ds) : RepL K M H xs.reverse ds.reverse := by
  have key : ∀ (xs : List V) (ds : List D) (as : List V) (es : List D), RepL K M H xs ds → RepL K M H as es → RepL K M H (xs.reverseAux as) (ds.reverseAux es) := by
    intro xs
    induction xs with
    | nil => intro ds as es h q; cases h; exact q
    | cons x xs ih =>
      intro ds as es h q
      cases h with
      | @cons _ _ d ds r t => exact ih ds (x :: as) (d :: es) t (.cons r q)
  exact key xs ds [] [] h .nil
theorem RepL.rep {xs : List V} {ds : List D} (h : RepL K M H xs ds) : ∀ k : Nat, RepL K M H (List.replicate k xs).flatten (List.replicate k ds).flatten
  | 0 => .nil
  | k + 1 => by
    rw [List.replicate_succ, List.replicate_succ, List.flatten_cons, List.flatten_cons]
    exact RepL.append h (RepL.rep h k)
end

/-! ### the data of the library -/
mutual
def D.py : D → PyData
  | .non => .none
  | .bl b => .bool b
  | .int i => .int i
  | .str s => .str (str0 s)
  | .lst xs => .list (pyL xs)
  | .tup xs => .tuple (pyL xs)
  | .scr _ => .none
  | .duo _ => .none
def pyL : List D → List PyData
  | [] => []
  | x :: r => x.py :: pyL r
end
section
variable {K : PySem.W.Frag} {M : Addr → Prop} {H : Hp}
mutual
theorem Rep.dp : ∀ {v : V} {d : D}, Rep K M H v d → dep d < 1000 → Dp K H v d.py
  | _, _, .non, _ => .non
  | _, _, .bl b, _ => .bl b
  | _, _, .int i, _ => .int i
  | _, _, .str s _ _, _ => .str _
  | _, .lst ds, .lst h _ _ r, q => .lst (SqL.of h) (RepL.dp r (by simp only [dep] at q; omega))
  | _, .tup ds, .tup h _ r, q => .tup h.sq (RepL.dp r (by simp only [dep] at q; omega))
  | _, _, .scr _ _ _, q => by simp only [dep] at q; omega
  | _, _, .duo _ _ _, q => by simp only [dep] at q; omega
theorem RepL.dp : ∀ {vs : List V} {ds : List D}, RepL K M H vs ds → depL ds < 1000 → DpAll K H vs (pyL ds)
  | _, _, .nil, _ => .nil
  | _, _ :: _, .cons h t, q => .cons (Rep.dp h (by simp only [depL] at q; omega)) (RepL.dp t (by simp only [depL] at q; omega))
end
mutual
theorem Rep.lay : ∀ {v : V} {d : D}, Rep K M H v d → d.py.canLay0 = true
  | _, _, .non => by simp [D.py, PyData.canLay0]
  | _, _, .bl b => by simp [D.py, PyData.canLay0]
  | _, _, .int i => by simp [D.py, PyData.canLay0]
  | _, _, .str s h _ => by
    simp only [D.py, PyData.canLay0, PyData.strOk, str0]
    simpa [okS] using h
  | _, _, .lst _ _ _ r => by simp only [D.py, PyData.canLay0]; exact RepL.lay r
  | _, _, .tup _ _ r => by simp only [D.py, PyData.canLay0]; exact RepL.lay r
  | _, _, .scr _ _ _ => by simp [D.py, PyData.canLay0]
  | _, _, .duo _ _ _ => by simp [D.py, PyData.canLay0]
theorem RepL.lay : ∀ {vs : List V} {ds : List D}, RepL K M H vs ds → PyData.canLayAll0 (pyL ds) = true
  | _, _, .nil => by simp [pyL, PyData.canLayAll0]
  | _, _, .cons h t => by simp only [pyL, PyData.canLayAll0, Rep.lay h, RepL.lay t]; rfl
end
end
mutual
theorem dep_py : ∀ d : D, d.py.depth ≤ dep d
  | .non => by simp [D.py, PyData.depth]
  | .bl _ => by simp [D.py, PyData.depth]
  | .int _ => by simp [D.py, PyData.depth]
  | .str _ => by simp [D.py, PyData.depth]
  | .lst xs => by
    have := depL_py xs
    simp only [D.py, PyData.depth, dep]; omega
  | .tup xs => by
    have := depL_py xs
    simp only [D.py, PyData.depth, dep]; omega
  | .scr _ => by simp [D.py, PyData.depth]
  | .duo _ => by simp [D.py, PyData.depth]
theorem depL_py : ∀ ds : List D, PyData.depthAll (pyL ds) ≤ depL ds
  | [] => by simp [pyL, PyData.depthAll]
  | x :: r => by
    have h1 := dep_py x
    have h2 := depL_py r
    simp only [pyL, PyData.depthAll, depL]; omega
end
theorem shaped_of {K : PySem.W.Frag} {M : Addr → Prop} {H : Hp} {v : V} {d : D} (r : Rep K M H v d) (h : dep d ≤ 64) : SeqAt.shaped d.py = true := by
  unfold SeqAt.shaped
  rw [r.lay, Bool.true_and]
  have := dep_py d
  exact decide_eq_true (by omega)
theorem str0_inj {s t : List Nat} : (str0 s == str0 t) = (s == t) := by
  by_cases h : s = t
  · subst h; simp
  · have : ¬ str0 s = str0 t := fun e => h (by
      have := congrArg Str.cps e
      simpa [str0] using this)
    rw [beq_eq_false_iff_ne.mpr this, beq_eq_false_iff_ne.mpr h]
mutual
theorem eqv_py : ∀ x y : D, dep x < 1000 → dep y < 1000 → PyData.eqv x.py y.py = eqD x y
  | .non, y, _, hy => by cases y <;> first | (simp [D.py, PyData.eqv, eqD]; done) | (simp [dep] at hy)
  | .bl a, y, _, hy => by cases y <;> first | (simp [D.py, PyData.eqv, eqD]; done) | (simp [dep] at hy)
  | .int a, y, _, hy => by cases y <;> first | (simp [D.py, PyData.eqv, eqD]; done) | (simp [dep] at hy)
  | .str a, y, _, hy => by
    cases y with
    | str b => show (str0 a == str0 b) = (a == b); exact str0_inj
    | scr _ => simp [dep] at hy
    | duo _ => simp [dep] at hy
    | _ => simp [D.py, PyData.eqv, eqD]
  | .lst xs, y, hx, hy => by
    cases y with
    | lst ys => simp only [D.py, PyData.eqv, eqD]; exact eqvL_py xs ys (by simp only [dep] at hx; omega) (by simp only [dep] at hy; omega)
    | scr _ => simp [dep] at hy
    | duo _ => simp [dep] at hy
    | _ => simp [D.py, PyData.eqv, eqD]
  | .tup xs, y, hx, hy => by
    cases y with
    | tup ys => simp only [D.py, PyData.eqv, eqD]; exact eqvL_py xs ys (by simp only [dep] at hx; omega) (by simp only [dep] at hy; omega)
    | scr _ => simp [dep] at hy
    | duo _ => simp [dep] at hy
    | _ => simp [D.py, PyData.eqv, eqD]
  | .scr _, _, hx, _ => by simp [dep] at hx
  | .duo _, _, hx, _ => by simp [dep] at hx
theorem eqvL_py : ∀ xs ys : List D, depL xs < 1000 → depL ys < 1000 → PyData.eqvAll (pyL xs) (pyL ys) = eqL xs ys
  | [], [], _, _ => by simp [pyL, PyData.eqvAll, eqL]
  | [], _ :: _, _, _ => by simp [pyL, PyData.eqvAll, eqL]
  | _ :: _, [], _, _ => by simp [pyL, PyData.eqvAll, eqL]
  | x :: xs, y :: ys, hx, hy => by
    simp only [depL] at hx hy
    simp only [pyL, PyData.eqvAll, eqL]
    rw [eqv_py x y (by omega) (by omega), eqvL_py xs ys (by omega) (by omega)]
end

/-! ### the state -/
/-- at the entry of a def (or any point that one looks back to): the heap; what stays owned; what was owned; what of it may change; the slots that hold such -/
structure Fr where
  H0 : Hp
  M0 : Addr → Prop
  G : Addr → Prop
  O : Addr → Prop
  P : List (Nat × Addr)
structure Fr.Ok (F : Fr) : Prop where
  mg : ∀ a, F.M0 a → F.G a
  gh : ∀ a, F.G a → ∃ o, F.H0 a = some o ∧ MutO o
abbrev MOk (M : Addr → Prop) (H : Hp) : Prop := ∀ b, M b → ∃ o, H b = some o ∧ MutO o
structure SR (K : PySem.W.Frag) (F : Fr) (M : Addr → Prop) (env : En) (σ : St) (H : Hp) : Prop where
  keep : ∀ b o, F.H0 b = some o → ¬ F.O b → H b = some o
  alive : ∀ b, H b = none → F.H0 b = none
  m0 : ∀ b, F.M0 b → M b
  grow : ∀ b, M b → F.G b ∨ F.H0 b = none
  mok : MOk M H
  sh : ∀ (i : Nat) (d : D), env[i]? = some (some (SV.sh d)) → ∃ v, σ[i]? = some (some v) ∧ Rep K M H v d
  ow : ∀ (i : Nat) (p : Bool) (ds : List D), env[i]? = some (some (SV.own p ds)) → ∃ a xs, σ[i]? = some (some (V.ref a)) ∧ M a ∧ (F.O a ∨ F.H0 a = none) ∧ (p = false → ¬ F.M0 a) ∧ H a = some (.lst xs) ∧ RepL K M H xs ds ∧ ds.length ≤ big
  inj : ∀ (i j : Nat) (p q : Bool) (ds es : List D) (a : Addr), env[i]? = some (some (SV.own p ds)) → env[j]? = some (some (SV.own q es)) → σ[i]? = some (some (V.ref a)) → σ[j]? = some (some (V.ref a)) → i = j
  par : ∀ ia ∈ F.P, (∃ ds : List D, env[ia.1]? = some (some (SV.own true ds))) ∧ σ[ia.1]? = some (some (V.ref ia.2))
  len : env.length = σ.length
/-- the slots' own lists -/
def Own (env : En) (σ : St) (a : Addr) : Prop := ∃ (i : Nat) (p : Bool) (ds : List D), env[i]? = some (some (SV.own p ds)) ∧ σ[i]? = some (some (V.ref a))
/-- those of the def itself -/
def OwnF (env : En) (σ : St) (a : Addr) : Prop := ∃ (i : Nat) (ds : List D), env[i]? = some (some (SV.own false ds)) ∧ σ[i]? = some (some (V.ref a))
def snap (F : Fr) (M : Addr → Prop) (env : En) (σ : St) (H : Hp) : Fr := ⟨H, fun b => M b ∧ ¬ OwnF env σ b, M, Own env σ, F.P⟩
section
variable {K : PySem.W.Frag} {F : Fr} {M M' : Addr → Prop} {env env' : En} {σ σ' : St} {H H' : Hp}
theorem SR.own_m (S : SR K F M env σ H) {a : Addr} (h : Own env σ a) : M a ∧ (F.O a ∨ F.H0 a = none) ∧ ∃ xs, H a = some (.lst xs) := by
  obtain ⟨i, p, ds, e, q⟩ := h
  obtain ⟨b, xs, e2, m, o, _, h, _⟩ := S.ow i p ds e
  rw [q] at e2
  cases e2
  exact ⟨m, o, xs, h⟩
theorem SR.ownF_m (S : SR K F M env σ H) {a : Addr} (h : OwnF env σ a) : ¬ F.M0 a := by
  obtain ⟨i, ds, e, q⟩ := h
  obtain ⟨b, xs, e2, m, o, n, h, _⟩ := S.ow i false ds e
  rw [q] at e2
  cases e2
  exact n rfl
theorem SR.snapOk (S : SR K F M env σ H) : (snap F M env σ H).Ok := ⟨fun a h => h.1, S.mok⟩
theorem SR.snap (S : SR K F M env σ H) : SR K (snap F M env σ H) M env σ H where
  keep := fun b o h _ => h
  alive := fun b h => h
  m0 := fun b h => h.1
  grow := fun b h => .inl h
  mok := S.mok
  sh := S.sh
  ow := fun i p ds e => by
    obtain ⟨a, xs, e2, m, o, n, h, r⟩ := S.ow i p ds e
    exact ⟨a, xs, e2, m, .inl ⟨i, p, ds, e, e2⟩, fun z w => w.2 ⟨i, ds, by rw [← z]; exact e, e2⟩, h, r⟩
  inj := S.inj
  par := S.par
  len := S.len
theorem SR.m0s (S : SR K F M env σ H) {b : Addr} (h : F.M0 b) : (MP.snap F M env σ H).M0 b := ⟨S.m0 b h, fun w => S.ownF_m w h⟩
theorem SR.trans (S : SR K F M env σ H) (T : SR K (MP.snap F M env σ H) M' env' σ' H') : SR K F M' env' σ' H' where
  keep := fun b o h q => T.keep b o (S.keep b o h q) fun w => by
    obtain ⟨_, z, _⟩ := S.own_m w
    rcases z with z | z
    · exact q z
    · rw [h] at z; cases z
  alive := fun b h => S.alive b (T.alive b h)
  m0 := fun b h => T.m0 b (S.m0s h)
  grow := fun b h => (T.grow b h).elim (S.grow b) fun z => .inr (S.alive b z)
  mok := T.mok
  sh := T.sh
  ow := fun i p ds e => by
    obtain ⟨a, xs, e2, m, o, n, h, r⟩ := T.ow i p ds e
    refine ⟨a, xs, e2, m, ?_, fun z w => n z (S.m0s w), h, r⟩
    rcases o with o | o
    · exact (S.own_m o).2.1
    · exact .inr (S.alive a o)
  inj := T.inj
  par := T.par
  len := T.len
/-- shared data stands as it stood -/
theorem SR.rep (S : SR K F M env σ H) (T : SR K (MP.snap F M env σ H) M' env' σ' H') {v : V} {d : D} (r : Rep K M H v d) : Rep K M' H' v d :=
  r.keep (fun b o h q => T.keep b o h fun w => q (S.own_m w).1) S.mok T.grow
theorem SR.repL (S : SR K F M env σ H) (T : SR K (MP.snap F M env σ H) M' env' σ' H') {v : List V} {d : List D} (r : RepL K M H v d) : RepL K M' H' v d :=
  r.keep (fun b o h q => T.keep b o h fun w => q (S.own_m w).1) S.mok T.grow

/-- a list that no slot holds -/
structure Fl1 (K : PySem.W.Frag) (F : Fr) (M : Addr → Prop) (env : En) (σ : St) (H : Hp) (a : Addr) (ds : List D) : Prop where
  m : M a
  n : F.H0 a = none
  at_ : ∃ xs, H a = some (.lst xs) ∧ RepL K M H xs ds
  l : ds.length ≤ big
  no : ¬ Own env σ a
/-- it stays through what follows -/
theorem Fl1.next {a : Addr} {ds : List D} (S : SR K F M env σ H) (h : Fl1 K F M env σ H a ds) (T : SR K (MP.snap F M env σ H) M' env' σ' H') : Fl1 K F M' env' σ' H' a ds := by
  obtain ⟨xs, e, r⟩ := h.at_
  refine ⟨T.m0 a ⟨h.m, fun ⟨i, ds, e, q⟩ => h.no ⟨i, false, ds, e, q⟩⟩, h.n, ⟨xs, T.keep a _ e h.no, S.repL T r⟩, h.l, fun ⟨i, p, es, e1, e2⟩ => ?_⟩
  obtain ⟨b, ys, e3, m, o, _⟩ := T.ow i p es e1
  rw [e2] at e3
  cases e3
  rcases o with o | o
  · exact h.no o
  · have : H a = none := o
    rw [e] at this; cases this
/-- a result -/
def RR (K : PySem.W.Frag) (F : Fr) (M : Addr → Prop) (env : En) (σ : St) (H : Hp) (v : V) : RV → Prop
  | .sh d => Rep K M H v d
  | .own ds => ∃ a, v = .ref a ∧ Fl1 K F M env σ H a ds
theorem RR.trans (S : SR K F M env σ H) {σ2 : St} {v : V} {r : RV} (h : RR K (MP.snap F M env σ H) M' env' σ2 H' v r) : RR K F M' env' σ2 H' v r := by
  cases r with
  | sh d => exact h
  | own ds =>
    obtain ⟨a, e, h⟩ := h
    exact ⟨a, e, h.m, S.alive a h.n, h.at_, h.l, h.no⟩
theorem RR.next {v : V} {r : RV} (S : SR K F M env σ H) (h : RR K F M env σ H v r) (T : SR K (MP.snap F M env σ H) M' env' σ' H') : RR K F M' env' σ' H' v r := by
  cases r with
  | sh d => exact S.rep T h
  | own ds =>
    obtain ⟨a, e, h⟩ := h
    exact ⟨a, e, h.next S T⟩
/-- fewer owned: a list of nobody, or the slot's own -/
theorem SR.drop (S : SR K F M env σ H) (a : Addr) (n : ¬ F.M0 a) (he : env'.length = env.length)
    (hs : ∀ (i : Nat) (d : D), env'[i]? = some (some (SV.sh d)) → env[i]? = some (some (SV.sh d)) ∨ ∃ ds, d = .lst ds ∧ env[i]? = some (some (SV.own false ds)) ∧ σ[i]? = some (some (V.ref a)))
    (ho : ∀ (i : Nat) (p : Bool) (ds : List D), env'[i]? = some (some (SV.own p ds)) → env[i]? = some (some (SV.own p ds)) ∧ σ[i]? ≠ some (some (V.ref a)))
    (hp : ∀ ia ∈ F.P, env'[ia.1]? = env[ia.1]?) : SR K F (fun b => M b ∧ b ≠ a) env' σ H := by
  have g : ∀ b, (M b ∧ b ≠ a) → M b := fun b q => q.1
  exact {
    keep := S.keep
    alive := S.alive
    m0 := fun b h => ⟨S.m0 b h, fun e => n (by rw [← e]; exact h)⟩
    grow := fun b h => S.grow b h.1
    mok := fun b h => S.mok b h.1
    sh := fun i d e => by
      rcases hs i d e with e | ⟨ds, rfl, e, q⟩
      · obtain ⟨v, e2, r⟩ := S.sh i d e
        exact ⟨v, e2, r.mono S.mok g⟩
      · obtain ⟨b, xs, e2, m, o, _, h1, r, l⟩ := S.ow i false ds e
        rw [q] at e2
        cases e2
        exact ⟨_, q, .lst h1 (fun w => w.2 rfl) l (r.mono S.mok g)⟩
    ow := fun i p ds e => by
      obtain ⟨e, q⟩ := ho i p ds e
      obtain ⟨b, ys, e2, m2, o, n2, h2, r2, l2⟩ := S.ow i p ds e
      exact ⟨b, ys, e2, ⟨m2, fun z => q (by rw [← z]; exact e2)⟩, o, n2, h2, r2.mono S.mok g, l2⟩
    inj := fun i j p q ds es b e1 e2 => S.inj i j p q ds es b (ho i p ds e1).1 (ho j q es e2).1
    par := fun ia hia => by
      obtain ⟨e1, e2⟩ := S.par ia hia
      rw [hp ia hia]
      exact ⟨e1, e2⟩
    len := he.trans S.len }
/-- a result is let go among the shared -/
theorem SR.fz (S : SR K F M env σ H) (ok : F.Ok) {v : V} {r : RV} (h : RR K F M env σ H v r) : ∃ M', SR K F M' env σ H ∧ Rep K M' H v r.fz ∧ ∀ b, M' b → M b := by
  cases r with
  | sh d => exact ⟨M, S, h, fun b q => q⟩
  | own ds =>
    obtain ⟨a, rfl, h⟩ := h
    obtain ⟨xs, h1, r⟩ := h.at_
    refine ⟨_, S.drop a (fun w => ?_) rfl (fun i d e => .inl e) (fun i p ds e => ⟨e, fun z => h.no ⟨i, p, ds, e, z⟩⟩) fun _ _ => rfl, .lst h1 (fun q => q.2 rfl) h.l (r.mono S.mok fun b q => q.1), fun b q => q.1⟩
    obtain ⟨ys, z, _⟩ := ok.gh a (ok.mg a w)
    rw [h.n] at z; cases z
/-- a slot's own list is let go -/
theorem SR.fzSlot (S : SR K F M env σ H) {i : Nat} {ds : List D} (e : env[i]? = some (some (SV.own false ds))) :
    ∃ M' a, SR K F M' (env.set i (some (.sh (.lst ds)))) σ H ∧ σ[i]? = some (some (V.ref a)) ∧ Rep K M' H (.ref a) (.lst ds) ∧ ∀ b, M' b → M b := by
  obtain ⟨a, xs, e2, m, o, n, h1, r, l⟩ := S.ow i false ds e
  refine ⟨_, a, S.drop a (n rfl) (List.length_set) (fun j d q => ?_) (fun j p es q => ?_) fun ia hia => ?_, e2, .lst h1 (fun q => q.2 rfl) l (r.mono S.mok fun b q => q.1), fun b q => q.1⟩
  · rw [List.getElem?_set] at q
    split at q
    · rename_i hj
      subst hj
      split at q
      · have q := Option.some.inj (Option.some.inj q)
        cases q
        exact .inr ⟨ds, rfl, e, e2⟩
      · cases q
    · exact .inl q
  · rw [List.getElem?_set] at q
    split at q
    · split at q
      · have q := Option.some.inj (Option.some.inj q)
        cases q
      · cases q
    · rename_i hj
      exact ⟨q, fun z => hj (S.inj i j false p ds es a e q e2 z)⟩
  · obtain ⟨⟨es, e3⟩, _⟩ := S.par ia hia
    rw [List.getElem?_set]
    split
    · rename_i hj
      rw [← hj, e] at e3
      cases e3
    · rfl
/-- a new object of no list's place -/
theorem SR.upd_new (S : SR K F M env σ H) {p : Addr} {o : HO} (hp : H p = none) : SR K F M env σ (upd H p o) where
  keep := fun b u h q => by rw [upd_ne (ne_of_none (S.keep b u h q) hp)]; exact S.keep b u h q
  alive := fun b h => by
    by_cases e : b = p
    · rw [e, upd_same] at h; cases h
    · rw [upd_ne e] at h; exact S.alive b h
  m0 := S.m0
  grow := S.grow
  mok := fun b h => by
    obtain ⟨xs, e, z⟩ := S.mok b h
    exact ⟨xs, by rw [upd_ne (ne_of_none e hp)]; exact e, z⟩
  sh := fun i d e => by
    obtain ⟨v, e2, r⟩ := S.sh i d e
    exact ⟨v, e2, r.keep (fun b u h _ => by rw [upd_ne (ne_of_none h hp)]; exact h) S.mok fun b q => .inl q⟩
  ow := fun i q ds e => by
    obtain ⟨b, ys, e2, m2, o2, n2, h2, r2, l2⟩ := S.ow i q ds e
    exact ⟨b, ys, e2, m2, o2, n2, by rw [upd_ne (ne_of_none h2 hp)]; exact h2, r2.keep (fun b u h _ => by rw [upd_ne (ne_of_none h hp)]; exact h) S.mok fun b q => .inl q, l2⟩
  inj := S.inj
  par := S.par
  len := S.len
theorem rep_new {p : Addr} {o : HO} (mok : MOk M H) (hp : H p = none) {v : V} {d : D} (r : Rep K M H v d) : Rep K M (upd H p o) v d :=
  r.keep (fun b u h _ => by rw [upd_ne (ne_of_none h hp)]; exact h) mok fun b q => .inl q
theorem repL_new {p : Addr} {o : HO} (mok : MOk M H) (hp : H p = none) {v : List V} {d : List D} (r : RepL K M H v d) : RepL K M (upd H p o) v d :=
  r.keep (fun b u h _ => by rw [upd_ne (ne_of_none h hp)]; exact h) mok fun b q => .inl q
/-- a new object that is kept apart -/
theorem SR.upd_ownO (S : SR K F M env σ H) {p : Addr} {o : HO} (hp : H p = none) (mo : MutO o) : SR K F (fun b => M b ∨ b = p) env σ (upd H p o) := by
  have S' := S.upd_new (o := o) hp
  have gr : ∀ b, (M b ∨ b = p) → M b ∨ H b = none := fun b q => q.imp id fun e => by rw [e]; exact hp
  have kp : ∀ b u, H b = some u → ¬ M b → upd H p o b = some u := fun b u h _ => by rw [upd_ne (ne_of_none h hp)]; exact h
  exact {
    keep := S'.keep
    alive := S'.alive
    m0 := fun b h => .inl (S.m0 b h)
    grow := fun b h => h.elim (S.grow b) fun e => .inr (by rw [e]; exact S.alive p hp)
    mok := fun b h => h.elim (S'.mok b) fun e => ⟨o, by rw [e, upd_same], mo⟩
    sh := fun i d e => by
      obtain ⟨v, e2, r⟩ := S.sh i d e
      exact ⟨v, e2, r.keep kp S.mok gr⟩
    ow := fun i q ds e => by
      obtain ⟨b, ys, e2, m2, o2, n2, h2, r2, l2⟩ := S.ow i q ds e
      exact ⟨b, ys, e2, .inl m2, o2, n2, by rw [upd_ne (ne_of_none h2 hp)]; exact h2, r2.keep kp S.mok gr, l2⟩
    inj := S.inj
    par := S.par
    len := S.len }
/-- a new list that is kept apart -/
theorem SR.upd_own (S : SR K F M env σ H) {p : Addr} {xs : List V} (hp : H p = none) : SR K F (fun b => M b ∨ b = p) env σ (upd H p (.lst xs)) := S.upd_ownO hp trivial
/-- what an operation leaves -/
def New (K : PySem.W.Frag) (M : Addr → Prop) (H : Hp) (v : V) (H' : Hp) : RV → Prop
  | .sh d => (H' = H ∨ ∃ p o, H p = none ∧ H' = upd H p o) ∧ Rep K M H' v d
  | .own ds => ∃ p xs, v = .ref p ∧ H p = none ∧ H' = upd H p (.lst xs) ∧ RepL K M H xs ds ∧ ds.length ≤ big
theorem SR.new (S : SR K F M env σ H) {v : V} {r : RV} (h : New K M H v H' r) : ∃ M', SR K F M' env σ H' ∧ RR K F M' env σ H' v r := by
  cases r with
  | sh d =>
    obtain ⟨h, r⟩ := h
    rcases h with rfl | ⟨p, o, hp, rfl⟩
    · exact ⟨M, S, r⟩
    · exact ⟨M, S.upd_new hp, r⟩
  | own ds =>
    obtain ⟨p, xs, rfl, hp, rfl, r, l⟩ := h
    refine ⟨_, S.upd_own hp, p, rfl, .inr rfl, S.alive p hp, ⟨xs, upd_same, ?_⟩, l, fun q => ?_⟩
    · exact r.keep (fun b u h _ => by rw [upd_ne (ne_of_none h hp)]; exact h) S.mok fun b q => q.imp id fun e => by rw [e]; exact hp
    · obtain ⟨_, _, ys, z⟩ := S.own_m q
      rw [hp] at z; cases z
end

/-! ### operands: shared data, or a slot's own list looked at -/
def WR (K : PySem.W.Frag) (M : Addr → Prop) (H : Hp) (v : V) : D → Prop
  | .lst ds => ∃ a xs, v = .ref a ∧ H a = some (.lst xs) ∧ RepL K M H xs ds ∧ ds.length ≤ big
  | d => Rep K M H v d
theorem WR.of {K : PySem.W.Frag} {M : Addr → Prop} {H : Hp} {v : V} {d : D} (r : Rep K M H v d) : WR K M H v d := by
  cases r with
  | lst h hm hl r => exact ⟨_, _, rfl, h, r, hl⟩
  | non => exact .non
  | bl b => exact .bl b
  | int i => exact .int i
  | str s h hl => exact .str s h hl
  | tup h hl r => exact .tup h hl r
  | scr h hl r => exact .scr h hl r
  | duo h hl r => exact .duo h hl r
theorem WR.dp {K : PySem.W.Frag} {M : Addr → Prop} {H : Hp} {v : V} {d : D} (r : WR K M H v d) (h : dep d < 1000) : Dp K H v d.py := by
  cases d with
  | lst ds =>
    obtain ⟨a, xs, rfl, e, r, _⟩ := r
    exact .lst (SqL.of e) (r.dp (by simp only [dep] at h; omega))
  | non => exact Rep.dp r h
  | bl b => exact Rep.dp r h
  | int i => exact Rep.dp r h
  | str s => exact Rep.dp r h
  | tup ds => exact Rep.dp r h
  | scr ds => exact Rep.dp r h
  | duo ds => exact Rep.dp r h
theorem WR.shaped {K : PySem.W.Frag} {M : Addr → Prop} {H : Hp} {v : V} {d : D} (r : WR K M H v d) (h : dep d ≤ 64) : SeqAt.shaped d.py = true := by
  have key : d.py.canLay0 = true := by
    cases d with
    | lst ds =>
      obtain ⟨a, xs, rfl, e, r, _⟩ := r
      simp only [D.py, PyData.canLay0]
      exact r.lay
    | non => exact Rep.lay r
    | bl b => exact Rep.lay r
    | int i => exact Rep.lay r
    | str s => exact Rep.lay r
    | tup ds => exact Rep.lay r
    | scr ds => exact Rep.lay r
    | duo ds => exact Rep.lay r
  unfold SeqAt.shaped
  rw [key, Bool.true_and]
  have := dep_py d
  exact decide_eq_true (by omega)
theorem SR.peek {K : PySem.W.Frag} {F : Fr} {M : Addr → Prop} {env : En} {σ : St} {H : Hp} (S : SR K F M env σ H) {i : Nat} {d : D} (h : peek env i = some d) : ∃ v, σ[i]? = some (some v) ∧ WR K M H v d := by
  unfold MP.peek at h
  split at h
  · rename_i d' e
    cases h
    obtain ⟨v, e2, r⟩ := S.sh i d e
    exact ⟨v, e2, .of r⟩
  · rename_i p ds e
    cases h
    obtain ⟨a, xs, e2, m, o, _, h1, r, l⟩ := S.ow i p ds e
    exact ⟨_, e2, a, xs, rfl, h1, r, l⟩
  · cases h
end MP

set_option Elab.async false
set_option linter.all false
set_option maxRecDepth 100000
namespace MP
open PySem PySem.Spec PyProof.Rows L2

/-! ### operations, by values -/
theorem str0_app (x y : List Nat) : str0 x ++ str0 y = str0 (x ++ y) := by
  show (⟨x.toArray ++ y.toArray⟩ : Str) = ⟨(x ++ y).toArray⟩
  simp
theorem str0_len (x : List Nat) : (str0 x).length = x.length := by
  show x.toArray.size = _
  simp
theorem str0_cps (x : List Nat) : (str0 x).cps.toList = x := by simp [str0]
theorem ltS_eq : ∀ x y : List Nat, ltS x y = decide (x < y)
  | [], [] => by simp [ltS]
  | [], _ :: _ => by simp [ltS]
  | _ :: _, [] => by simp [ltS]
  | x :: xs, y :: ys => by
    unfold ltS
    rw [ltS_eq xs ys]
    by_cases h1 : x < y
    · rw [if_pos h1]
      exact (decide_eq_true (List.cons_lt_cons_iff.mpr (.inl h1))).symm
    · rw [if_neg h1]
      by_cases h2 : y < x
      · rw [if_pos h2]
        refine (decide_eq_false fun h => ?_).symm
        rcases List.cons_lt_cons_iff.mp h with h | ⟨h, _⟩ <;> omega
      · rw [if_neg h2]
        have e : x = y := by omega
        subst e
        by_cases h3 : xs < ys
        · rw [decide_eq_true h3]
          exact (decide_eq_true (List.cons_lt_cons_iff.mpr (.inr ⟨rfl, h3⟩))).symm
        · rw [decide_eq_false h3]
          refine (decide_eq_false fun h => ?_).symm
          rcases List.cons_lt_cons_iff.mp h with h | ⟨_, h⟩
          · omega
          · exact h3 h
theorem lenOk_le {n : Nat} (h : lenOk n = true) : n ≤ big := of_decide_eq_true h
theorem big_line {n : Nat} (h : n ≤ big) : n ≤ sizeLine := by
  have : (big : Nat) ≤ sizeLine := by decide
  omega
theorem big_lt {n : Nat} (h : n ≤ big) : n < sizeLine := by
  have : (big : Nat) < sizeLine := by decide
  omega
theorem inW_iff {i : Int} (h : inW i = true) : -(2 ^ 64) < i ∧ i < 2 ^ 64 := by
  unfold inW at h
  rw [Bool.and_eq_true] at h
  exact ⟨of_decide_eq_true h.1, of_decide_eq_true h.2⟩
section
variable {K : PySem.W.Frag} {M : Addr → Prop} {H : Hp} {v : V}
theorem WR.int {i : Int} (h : WR K M H v (.int i)) : v = .int i := by cases h; rfl
theorem WR.bl {b : Bool} (h : WR K M H v (.bl b)) : v = .bl b := by cases h; rfl
theorem WR.non (h : WR K M H v .non) : v = .non := by cases h; rfl
theorem WR.str {s : List Nat} (h : WR K M H v (.str s)) : v = .str (str0 s) ∧ okS s = true ∧ s.length ≤ big := by cases h; exact ⟨rfl, ‹_›, ‹_›⟩
theorem WR.lst {ds : List D} (h : WR K M H v (.lst ds)) : ∃ a xs, v = .ref a ∧ H a = some (.lst xs) ∧ RepL K M H xs ds ∧ ds.length ≤ big := h
theorem WR.tup {ds : List D} (h : WR K M H v (.tup ds)) : ∃ a xs, v = .ref a ∧ ET H a xs ∧ RepL K M H xs ds ∧ ds.length ≤ big := by cases h; exact ⟨_, _, rfl, ‹_›, ‹_›, ‹_›⟩
theorem new_int (i : Int) : New K M H (.int i) H (.sh (.int i)) := ⟨.inl rfl, .int i⟩
theorem new_bl (b : Bool) : New K M H (.bl b) H (.sh (.bl b)) := ⟨.inl rfl, .bl b⟩
theorem new_same {v : V} {d : D} (r : Rep K M H v d) : New K M H v H (.sh d) := ⟨.inl rfl, r⟩
theorem WR.duo {ds : List D} (h : WR K M H v (.duo ds)) : ∃ a xs, v = .ref a ∧ H a = some (.tup xs) ∧ RepL K M H xs ds ∧ ds.length ≤ big := by cases h; exact ⟨_, _, rfl, ‹_›, ‹_›, ‹_›⟩
theorem new_tup {p : Addr} {o : Obj} {xs : List V} {ds : List D} (mok : MOk M H) (hp : H p = none) (hc : o.cls = .type "tuple") (hd : o.dict = none) (r : RepL K M H xs ds) (l : ds.length ≤ big) : New K M H (.ref p) (upd H p (.frz o (.tup xs))) (.sh (.tup ds)) :=
  ⟨.inr ⟨p, _, hp, rfl⟩, .tup ⟨o, upd_same, hc, hd⟩ l (repL_new mok hp r)⟩
theorem new_lst {p : Addr} {xs : List V} {ds : List D} (hp : H p = none) (r : RepL K M H xs ds) (l : ds.length ≤ big) : New K M H (.ref p) (upd H p (.lst xs)) (.own ds) := ⟨p, xs, rfl, hp, rfl, r, l⟩
theorem okS_app {x y : List Nat} (h : okS x = true) (h' : okS y = true) : okS (x ++ y) = true := by
  unfold okS at *
  rw [List.all_append, h, h']
  rfl
end
def pyOp : BOp → Operator
  | .add => .Add | .sub => .Sub | .mul => .Mult | .fdiv => .FloorDiv | .mod => .Mod | .pow => .Pow
def rBin (K : PySem.W.Frag) (op : BOp) : R2 := fun x y H Q => ∃ M dx dy r, MOk M H ∧ WR K M H x dx ∧ WR K M H y dy ∧ binD op dx dy = some r ∧ ∀ v H', New K M H v H' r → Q v H'
section
variable {X : Cx}
theorem op_bin (op : BOp) : OpR X (binaryOp (pyOp op)) (rBin X.K op) := by
  intro pins s σ H x y v u Q I rx ry h
  obtain ⟨M, dx, dy, r, mok, wx, wy, hr, q⟩ := h
  unfold binD at hr
  split at hr
  · cases hr; cases wx.int; cases wy.int
    exact op_add pins s σ H _ _ v u Q I rx ry ⟨_, _, rfl, rfl, q _ _ (new_int _)⟩
  · split at hr
    · rename_i hl
      cases hr
      obtain ⟨rfl, ox, lx⟩ := wx.str
      obtain ⟨rfl, oy, ly⟩ := wy.str
      refine op_add_str pins s σ H _ _ v u Q I rx ry ⟨_, _, rfl, rfl, ?_, ?_⟩
      · rw [str0_len, str0_len]
        exact big_line (lenOk_le hl)
      · rw [str0_app]
        exact q _ _ (new_same (.str _ (okS_app ox oy) (by rw [List.length_append]; exact lenOk_le hl)))
    · cases hr
  · split at hr
    · rename_i hl
      cases hr
      obtain ⟨a, xs, rfl, h1, r1, l1⟩ := wx.lst
      obtain ⟨b, ys, rfl, h2, r2, l2⟩ := wy.lst
      refine op_cat pins s σ H _ _ v u Q I rx ry ⟨a, b, xs, ys, rfl, rfl, h1, h2, ?_, fun p hp => q _ _ (new_lst hp (r1.append r2) (by rw [List.length_append]; exact lenOk_le hl))⟩
      rw [r1.length, r2.length]
      exact big_line (lenOk_le hl)
    · cases hr
  · split at hr
    · rename_i hl
      cases hr
      obtain ⟨a, xs, rfl, h1, r1, l1⟩ := wx.tup
      obtain ⟨b, ys, rfl, h2, r2, l2⟩ := wy.tup
      have hlen := r1.length
      have hlen2 := r2.length
      refine op_catE pins s σ H _ _ v u Q I rx ry ⟨a, b, xs, ys, rfl, rfl, h1.sq, h2.sq, ?_, fun e => ?_, fun _ e => ?_, fun _ _ p o hp hc hd => ?_⟩
      · rw [r1.length, r2.length]
        exact big_line (lenOk_le hl)
      · subst e
        cases r1
        exact q _ _ (new_same (.tup h2 l2 r2))
      · subst e
        cases r2
        rw [List.append_nil] at q
        exact q _ _ (new_same (.tup h1 l1 r1))
      · exact q _ _ (new_tup mok hp hc hd (r1.append r2) (by rw [List.length_append]; exact lenOk_le hl))
    · cases hr
  · cases hr; cases wx.int; cases wy.int
    exact op_sub pins s σ H _ _ v u Q I rx ry ⟨_, _, rfl, rfl, q _ _ (new_int _)⟩
  · split at hr
    · rename_i hl
      cases hr; cases wx.int; cases wy.int
      refine op_mul pins s σ H _ _ v u Q I rx ry ⟨_, _, rfl, rfl, ?_, q _ _ (new_int _)⟩
      rw [Bool.or_eq_true] at hl
      exact hl.imp inW_iff inW_iff
    · cases hr
  · split at hr
    · rename_i hl
      cases hr; cases wy.int
      obtain ⟨a, xs, rfl, h1, r1, l1⟩ := wx.lst
      rw [Bool.and_eq_true, Bool.and_eq_true] at hl
      obtain ⟨⟨g1, g2⟩, g3⟩ := hl
      have g1 := of_decide_eq_true g1
      have g2 := of_decide_eq_true g2
      have g3 := lenOk_le g3
      refine op_rep pins s σ H _ _ v u Q I rx ry ⟨a, _, xs, rfl, rfl, h1, by omega, by omega, ?_, fun p hp => q _ _ (new_lst hp (r1.rep _) ?_)⟩
      · rw [r1.length]
        exact big_line g3
      · have e : ∀ (k : Nat) (l : List D), (List.replicate k l).flatten.length = k * l.length := fun k l => by simp
        rw [e, Nat.mul_comm]
        exact g3
    · cases hr
  · split at hr
    · rename_i hl
      cases hr; cases wy.int
      obtain ⟨a, xs, rfl, h1, r1, l1⟩ := wx.tup
      simp only [Bool.and_eq_true, decide_eq_true_eq, Bool.not_eq_true'] at hl
      obtain ⟨⟨⟨g1, g2⟩, g3⟩, g4⟩ := hl
      refine op_repE pins s σ H _ _ v u Q I rx ry ⟨a, _, xs, rfl, rfl, h1.sq, fun e => ?_, g1, g2, by rw [r1.length]; exact g3, fun p o hp hc hd => q _ _ (new_tup mok hp hc hd (r1.rep _) ?_)⟩
      · subst e
        cases r1
        cases g4
      · have e : ∀ (k : Nat) (l : List D), (List.replicate k l).flatten.length = k * l.length := fun k l => by simp
        rw [e]
        exact Nat.le_trans (Nat.mul_le_mul (show _ ≤ 1000 by omega) g3) (by decide)
    · cases hr
  · split at hr
    · rename_i hl
      cases hr; cases wx.int; cases wy.int
      rw [Bool.and_eq_true] at hl
      exact op_fdiv pins s σ H _ _ v u Q I rx ry ⟨_, _, rfl, rfl, ⟨of_decide_eq_true hl.1, of_decide_eq_true hl.2⟩, q _ _ (new_int _)⟩
    · cases hr
  · split at hr
    · rename_i hl
      cases hr; cases wx.int; cases wy.int
      exact op_mod pins s σ H _ _ v u Q I rx ry ⟨_, _, rfl, rfl, hl, q _ _ (new_int _)⟩
    · cases hr
  · split at hr
    · rename_i hl
      cases hr; cases wx.int; cases wy.int
      rw [Bool.and_eq_true, Bool.and_eq_true] at hl
      exact op_pow pins s σ H _ _ v u Q I rx ry ⟨_, _, rfl, rfl, ⟨of_decide_eq_true hl.1.1, of_decide_eq_true hl.1.2, of_decide_eq_true hl.2⟩, q _ _ (new_int _)⟩
    · cases hr
  · cases hr
end
end MP

set_option Elab.async false
set_option linter.all false
set_option maxRecDepth 100000
namespace MP
open PySem PySem.Spec PyProof.Rows L2
def pyC : COp → CmpOp
  | .eq => .Eq | .ne => .NotEq | .lt => .Lt | .le => .LtE | .gt => .Gt | .ge => .GtE | .is => .Is | .nis => .IsNot | .in_ => .In | .nin => .NotIn
def rCmp (K : PySem.W.Frag) (op : COp) : R2 := fun x y H Q => ∃ M dx dy r, MOk M H ∧ WR K M H x dx ∧ WR K M H y dy ∧ cmpD op dx dy = some r ∧ Q (.bl r) H
theorem shal_le {d : D} (h : shal d = true) : dep d ≤ 60 := of_decide_eq_true h
theorem any_py (x : D) (hx : dep x < 1000) : ∀ ys : List D, depL ys < 1000 → ((pyL ys).any fun z => PyData.eqv z x.py) = ys.any fun y => eqD y x
  | [], _ => by simp [pyL]
  | y :: ys, h => by
    simp only [depL] at h
    simp only [pyL, List.any_cons]
    rw [eqv_py y x (by omega) hx, any_py x hx ys (by omega)]
theorem lexV_rep {K : PySem.W.Frag} {M : Addr → Prop} {H : Hp} : ∀ {xs ys : List V} {ds es : List D} {v : Bool}, RepL K M H xs ds → RepL K M H ys es → lexD ds es = some v → lexV xs ys = some v
  | _, _, [], es, v, .nil, re, e => by
    cases re with
    | nil => exact e
    | cons _ _ => exact e
  | _, _, d :: ds, [], v, .cons rd rt, .nil, e => by
    have e : some false = some v := by cases d <;> exact e
    cases rd <;> exact e
  | _, _, d :: ds, d2 :: es, v, .cons rd rt, .cons re ru, e => by
    cases d with
    | int i =>
      cases d2 with
      | int j =>
        cases rd
        cases re
        have e : (if i = j then lexD ds es else some (decide (i < j))) = some v := e
        show (if i = j then lexV _ _ else some (decide (i < j))) = some v
        by_cases h : i = j
        · rw [if_pos h] at e ⊢
          exact lexV_rep rt ru e
        · rw [if_neg h] at e ⊢
          exact e
      | _ => cases e
    | str a =>
      cases d2 with
      | str b =>
        cases rd
        cases re
        have e : (if a = b then lexD ds es else some (ltS a b)) = some v := e
        show (if str0 a = str0 b then lexV _ _ else some (decide ((str0 a).cps.toList < (str0 b).cps.toList))) = some v
        by_cases h : a = b
        · rw [if_pos h] at e
          rw [if_pos (congrArg str0 h)]
          exact lexV_rep rt ru e
        · rw [if_neg h] at e
          rw [if_neg fun z => h (by have := congrArg (fun s : Str => s.cps.toList) z; simpa [str0] using this), str0_cps, str0_cps, ← ltS_eq]
          exact e
      | _ => cases e
    | _ => cases d2 <;> cases e
section
variable {X : Cx}
theorem nonD (x : D) {K : PySem.W.Frag} {M : Addr → Prop} {H : Hp} {v : V} (w : WR K M H v x) : decide (v = V.non) = isNon x := by
  cases x with
  | non => cases w; simp [isNon]
  | bl b => cases w; simp [isNon]
  | int i => cases w; simp [isNon]
  | str s => cases w; simp [isNon]
  | lst ds => obtain ⟨a, xs, rfl, _⟩ := w; simp [isNon]
  | tup ds => cases w; simp [isNon]
  | scr ds => cases w; simp [isNon]
  | duo ds => cases w; simp [isNon]
theorem op_cmp (hu : X.A.units + 66 < cLine) (op : COp) : OpR X (compareOp (pyC op)) (rCmp X.K op) := by
  intro pins s σ H x y v u Q I rx ry h
  obtain ⟨M, dx, dy, r, mok, wx, wy, hr, q⟩ := h
  have deep : ∀ {d e : D}, WR X.K M H x d → WR X.K M H y e → shal d = true → shal e = true →
      Dp X.K H x d.py ∧ Dp X.K H y e.py ∧ SeqAt.shaped d.py = true ∧ SeqAt.shaped e.py = true := fun {d e} w1 w2 h1 h2 => by
    have h1 := shal_le h1
    have h2 := shal_le h2
    exact ⟨w1.dp (by omega), w2.dp (by omega), w1.shaped (by omega), w2.shaped (by omega)⟩
  unfold cmpD at hr
  split at hr
  · split at hr
    · rename_i hs
      rw [Bool.and_eq_true] at hs
      cases hr
      obtain ⟨d1, d2, s1, s2⟩ := deep wx wy hs.1 hs.2
      refine op_eqD (by omega) pins s σ H _ _ v u Q I rx ry ⟨_, _, d1, d2, s1, s2, ?_⟩
      have a1 := shal_le hs.1
      have a2 := shal_le hs.2
      rw [eqv_py _ _ (by omega) (by omega)]
      exact q
    · cases hr
  · split at hr
    · rename_i hs
      rw [Bool.and_eq_true] at hs
      cases hr
      obtain ⟨d1, d2, s1, s2⟩ := deep wx wy hs.1 hs.2
      refine op_neD (by omega) pins s σ H _ _ v u Q I rx ry ⟨_, _, d1, d2, s1, s2, ?_⟩
      have a1 := shal_le hs.1
      have a2 := shal_le hs.2
      rw [eqv_py _ _ (by omega) (by omega)]
      exact q
    · cases hr
  · cases hr; cases wx.int; cases wy.int
    exact op_lt pins s σ H _ _ v u Q I rx ry ⟨_, _, rfl, rfl, q⟩
  · cases hr; cases wx.int; cases wy.int
    exact op_le pins s σ H _ _ v u Q I rx ry ⟨_, _, rfl, rfl, q⟩
  · cases hr; cases wx.int; cases wy.int
    exact op_gt pins s σ H _ _ v u Q I rx ry ⟨_, _, rfl, rfl, q⟩
  · cases hr; cases wx.int; cases wy.int
    exact op_ge pins s σ H _ _ v u Q I rx ry ⟨_, _, rfl, rfl, q⟩
  · cases hr
    obtain ⟨rfl, _⟩ := wx.str
    obtain ⟨rfl, _⟩ := wy.str
    refine op_lt_str pins s σ H _ _ v u Q I rx ry ⟨_, _, rfl, rfl, ?_⟩
    rw [str0_cps, str0_cps, ← ltS_eq]
    exact q
  · cases hr
    obtain ⟨rfl, _⟩ := wx.str
    obtain ⟨rfl, _⟩ := wy.str
    refine op_le_str pins s σ H _ _ v u Q I rx ry ⟨_, _, rfl, rfl, ?_⟩
    rw [str0_cps, str0_cps, ← ltS_eq]
    exact q
  · cases hr; cases wy.non
    refine op_isN pins s σ H _ _ v u Q I rx ry ⟨rfl, ?_⟩
    rw [nonD _ wx]
    exact q
  · cases hr; cases wy.non
    refine op_notN pins s σ H _ _ v u Q I rx ry ⟨rfl, ?_⟩
    rw [nonD _ wx]
    exact q
  · cases hr
    obtain ⟨rfl, _⟩ := wx.str
    obtain ⟨rfl, _⟩ := wy.str
    refine op_in_sign pins s σ H _ _ v u Q I rx ry ⟨_, _, rfl, rfl, ?_⟩
    rw [str0_cps]
    exact q
  · cases hr
    obtain ⟨rfl, _⟩ := wx.str
    obtain ⟨rfl, _⟩ := wy.str
    refine op_notIn_sign pins s σ H _ _ v u Q I rx ry ⟨_, _, rfl, rfl, ?_⟩
    rw [str0_cps]
    exact q
  · obtain ⟨a, us, rfl, h1, r1, _⟩ := wx.tup
    obtain ⟨b, ws, rfl, h2, r2, _⟩ := wy.tup
    exact op_ltF (by omega) pins s σ H _ _ v u Q I rx ry ⟨a, b, us, ws, _, rfl, rfl, h1.sq, h2.sq, lexV_rep r1 r2 hr, q⟩
  all_goals first | (cases hr; done) | (split at hr <;> first | (cases hr; done) | skip)
  all_goals
    rename_i hs
    rw [Bool.and_eq_true] at hs
    cases hr
    obtain ⟨d1, d2, s1, s2⟩ := deep wx wy hs.1 hs.2
    have a1 := shal_le hs.1
    have a2 := shal_le hs.2
    simp only [dep] at a2
    obtain ⟨as, r1⟩ := Dp.reads I _ x v d1 rx
    obtain ⟨bs, r2⟩ := Dp.reads I _ y u d2 ry
    rw [← any_py _ (by omega) _ (by omega)] at q
  · exact SeqAt.in_list_reads r2 r1 (SeqAt.canLay_of_shaped s2) (SeqAt.canLay_of_shaped s1) (room_in_shaped s1 (by omega)) ⟨.bl _, H, I, rfl, q⟩
  · exact SeqAt.notIn_list_reads r2 r1 (SeqAt.canLay_of_shaped s2) (SeqAt.canLay_of_shaped s1) (room_in_shaped s1 (by omega)) ⟨.bl _, H, I, rfl, q⟩
  · exact SeqAt.in_tuple_reads r2 r1 (SeqAt.canLay_of_shaped s2) (SeqAt.canLay_of_shaped s1) (room_in_shaped s1 (by omega)) ⟨.bl _, H, I, rfl, q⟩
  · exact SeqAt.notIn_tuple_reads r2 r1 (SeqAt.canLay_of_shaped s2) (SeqAt.canLay_of_shaped s1) (room_in_shaped s1 (by omega)) ⟨.bl _, H, I, rfl, q⟩
end

/-! ### truth, items, slices -/
theorem WR.scr {K : PySem.W.Frag} {M : Addr → Prop} {H : Hp} {v : V} {ds : List D} (h : WR K M H v (.scr ds)) : ∃ a xs, v = .ref a ∧ SqL K H a xs ∧ RepL K M H xs ds ∧ ds.length ≤ big := by
  cases h with
  | scr h hl r => exact ⟨_, _, rfl, h.elim (fun ⟨o, e⟩ => .inl (.inr ⟨o, e⟩)) (fun z => z H), r, hl⟩
theorem tru_w {K : PySem.W.Frag} {M : Addr → Prop} {H : Hp} {v : V} {d : D} (w : WR K M H v d) : TruV K v H (tru d) := by
  cases d with
  | non => cases w; rfl
  | bl b => cases w; rfl
  | int i => cases w; rfl
  | str s =>
    obtain ⟨rfl, _, l⟩ := w.str
    refine ⟨by rw [str0_len]; exact big_line l, ?_⟩
    rw [str0_len]
    unfold tru
    cases s <;> simp
    omega
  | lst ds =>
    obtain ⟨a, xs, rfl, h, r, l⟩ := w.lst
    refine .inl ⟨xs, SqL.of h, ?_⟩
    cases r <;> rfl
  | tup ds =>
    obtain ⟨a, xs, rfl, h, r, l⟩ := w.tup
    refine .inr (.inl ⟨xs, h.sq, ?_⟩)
    cases r <;> rfl
  | duo ds =>
    obtain ⟨a, xs, rfl, h, r, l⟩ := w.duo
    refine .inr (.inl ⟨xs, SqT.of h, ?_⟩)
    cases r <;> rfl
  | scr ds =>
    obtain ⟨a, xs, rfl, h, r, l⟩ := w.scr
    refine .inl ⟨xs, h, ?_⟩
    cases r <;> rfl
def rIxD (K : PySem.W.Frag) : R2 := fun x y H Q => ∃ M dx dy r, MOk M H ∧ WR K M H x dx ∧ WR K M H y dy ∧ ixD dx dy = some r ∧ ∀ v, Rep K M H v r → Q v H
theorem place_eq (n : Nat) (i : Int) : place n i = L2.ixN n i := rfl
theorem ixL_rep {K : PySem.W.Frag} {M : Addr → Prop} {H : Hp} {xs : List V} {ds : List D} {i : Int} {d : D} (r : RepL K M H xs ds) (h : ixL ds i = some d) : ∃ v, atI xs i = some v ∧ Rep K M H v d := by
  unfold ixL at h
  unfold atI
  rw [r.length]
  rw [place_eq] at h
  cases e : L2.ixN ds.length i with
  | none => rw [e] at h; cases h
  | some j =>
    rw [e] at h
    exact r.get h
theorem ok_one {s : List Nat} {j c : Nat} (h : okS s = true) (e : s[j]? = some c) : okS [c] = true := by
  unfold okS at *
  rw [List.all_eq_true] at h ⊢
  intro x hx
  rw [List.mem_singleton] at hx
  subst hx
  exact h _ (List.mem_of_getElem? e)
section
variable {X : Cx}
theorem ix_d : IxR X (rIxD X.K) := by
  intro value slice pins s σ H x y v u Q I rx ry h hs
  obtain ⟨M, dx, dy, r, mok, wx, wy, hr, q⟩ := h
  unfold ixD at hr
  split at hr
  · cases wy.int
    obtain ⟨a, xs, rfl, h, r1, l⟩ := wx.lst
    obtain ⟨v', e, r2⟩ := ixL_rep r1 hr
    exact ix_list value slice pins s σ H _ _ v u Q I rx ry ⟨a, xs, _, v', rfl, rfl, SqL.of h, e, q _ r2⟩ hs
  · cases wy.int
    obtain ⟨a, xs, rfl, h, r1, l⟩ := wx.scr
    obtain ⟨v', e, r2⟩ := ixL_rep r1 hr
    exact ix_list value slice pins s σ H _ _ v u Q I rx ry ⟨a, xs, _, v', rfl, rfl, h, e, q _ r2⟩ hs
  · cases wy.int
    obtain ⟨a, xs, rfl, h, r1, l⟩ := wx.tup
    obtain ⟨v', e, r2⟩ := ixL_rep r1 hr
    exact ix_tup value slice pins s σ H _ _ v u Q I rx ry ⟨a, xs, _, v', rfl, rfl, h.sq, e, q _ r2⟩ hs
  · cases wy.int
    obtain ⟨a, xs, rfl, h, r1, l⟩ := wx.duo
    obtain ⟨v', e, r2⟩ := ixL_rep r1 hr
    exact ix_tup value slice pins s σ H _ _ v u Q I rx ry ⟨a, xs, _, v', rfl, rfl, SqT.of h, e, q _ r2⟩ hs
  · cases wy.int
    obtain ⟨rfl, o, l⟩ := wx.str
    rename_i zs i
    cases e : ixL zs i with
    | none => rw [e] at hr; cases hr
    | some c =>
      rw [e] at hr
      cases hr
      have e' := e
      unfold ixL at e'
      cases e2 : place zs.length i with
      | none => rw [e2] at e'; cases e'
      | some j =>
        rw [e2] at e'
        refine ix_str value slice pins s σ H _ _ v u Q I rx ry ⟨_, _, c, rfl, rfl, by rw [str0_len]; exact big_line l, ?_, q (.str ⟨#[c]⟩) (.str [c] (ok_one o e') (by show 1 ≤ 1000000; decide))⟩ hs
        rw [str0_cps]
        exact e
  · cases hr
/-- slices -/
def rSlD (K : PySem.W.Frag) : V → Option Int → Option Int → Hp → VK → Prop := fun x lo hi H Q => ∃ M dx r, MOk M H ∧ WR K M H x dx ∧ slD dx lo hi = some r ∧ ∀ v H', New K M H v H' r → Q v H'
theorem cut_rep {K : PySem.W.Frag} {M : Addr → Prop} {H : Hp} {xs : List V} {ds : List D} {lo hi : Option Int} (r : RepL K M H xs ds) : RepL K M H (cutV xs lo hi) (cut ds lo hi) := by
  unfold cutV cut
  have e : ∀ n d o, bnd n d o = HT.sIx n d o := fun n d o => by cases o <;> rfl
  rw [r.length, e, e]
  exact (r.drop _).take _
theorem cut_len {α : Type} (xs : List α) (lo hi : Option Int) : (cut xs lo hi).length ≤ xs.length := by
  unfold cut
  rw [List.length_take, List.length_drop]
  omega
theorem okS_cut {s : List Nat} (lo hi : Option Int) (h : okS s = true) : okS (cut s lo hi) = true := by
  unfold okS at *
  rw [List.all_eq_true] at h ⊢
  intro x hx
  unfold cut at hx
  exact h x (List.mem_of_mem_drop (List.mem_of_mem_take hx))
theorem sl_d : SlR X (rSlD X.K) := by
  intro pins s σ H x v vl vu lo hi sl Q I rx hsl pl pu h
  obtain ⟨M, dx, r, mok, wx, hr, q⟩ := h
  unfold slD at hr
  split at hr
  · cases hr
    obtain ⟨a, xs, rfl, h, r1, l⟩ := wx.lst
    exact sl_list pins s σ H _ v vl vu _ _ sl Q I rx hsl pl pu ⟨a, xs, rfl, SqL.of h, fun p hp => q _ _ (new_lst hp (cut_rep r1) (Nat.le_trans (cut_len _ _ _) l))⟩
  · cases hr
    obtain ⟨a, xs, rfl, h, r1, l⟩ := wx.scr
    exact sl_list pins s σ H _ v vl vu _ _ sl Q I rx hsl pl pu ⟨a, xs, rfl, h, fun p hp => q _ _ (new_lst hp (cut_rep r1) (Nat.le_trans (cut_len _ _ _) l))⟩
  · cases hr
    obtain ⟨a, xs, rfl, h, r1, l⟩ := wx.tup
    refine sl_tupE pins s σ H _ v vl vu _ _ sl Q I rx hsl pl pu ⟨a, xs, rfl, h.sq, fun e => ?_, fun _ p o hp hc hd => q _ _ (new_tup mok hp hc hd (cut_rep r1) (Nat.le_trans (cut_len _ _ _) l))⟩
    have e2 := cut_rep (lo := lo) (hi := hi) r1
    have e3 : cutV xs lo hi = xs := by
      unfold cutV
      rw [e.1, e.2, List.drop_zero, Nat.sub_zero, List.take_length]
    rw [e3] at e2
    exact q _ _ (new_same (.tup h (Nat.le_trans (cut_len _ _ _) l) e2))
  · cases hr
    obtain ⟨rfl, o, l⟩ := wx.str
    refine sl_str pins s σ H _ v vl vu _ _ sl Q I rx hsl pl pu ⟨_, rfl, by rw [str0_len]; exact big_line l, ?_⟩
    have e : ∀ n d o, bnd n d o = HT.sIx n d o := fun n d o => by cases o <;> rfl
    rename_i zs
    have e2 : cutS (str0 zs) lo hi = str0 (cut zs lo hi) := by
      unfold cutS cut
      rw [str0_cps, str0_len, e, e]
      rfl
    rw [e2]
    exact q _ _ (new_same (.str _ (okS_cut lo hi o) (Nat.le_trans (cut_len _ _ _) l)))
  · cases hr
end
end MP

set_option Elab.async false
set_option linter.all false
set_option maxRecDepth 100000
namespace MP
open PySem PySem.Spec PyProof.Rows L2
/-! Sets of flat tuples: what is asked of a member's kind, the table, the search, adding. -/
/-- a kind of members that stand in the heap -/
structure Mem (P : Program) (w : World) (K : Type) [DecidableEq K] where
  kd : HeapKind P w K
  stay : ∀ {h h' : Heap} {k : K} {a : Addr}, kd.is h k a → (∀ o, h.get? a = some o → h'.get? a = some o) → kd.is h' k a
  seq : ∀ {h : Heap} {k : K} {a : Addr}, kd.is h k a → ∃ o xs n, h.get? a = some o ∧ o.data = .seq xs n
  ofc : ∀ {A : Around} {E : Value → Shared → Prop} {s : Shared} {k : K} {a : Addr} {Q : Bool → Shared → Prop}, kd.is s.heap k a → Q false s → wpAny (model P w) A (ofAClassStatement 8 (.ref a)) Q E s
  byv : ∀ {A : Around} {E : Value → Shared → Prop} {s : Shared} {k : K} {a : Addr} {Q : Bool → Shared → Prop}, kd.is s.heap k a → (∀ b, Q b s) → wpAny (model P w) A (hashByValue 8 (.ref a)) Q E s

/-! ### the way of a search -/
def prb (t : SetTable) (h : Int) (c : Nat) : SetTable.Probe := nth t.mask (t.probeStart h) c
theorem prb_j (t : SetTable) (h : Int) (c : Nat) : (prb t h c).j = way t.mask h c := rfl
theorem prb_add (t : SetTable) (h : Int) (c q : Nat) : nth t.mask (prb t h c) q = prb t h (c + q) := (nth_add t.mask c _ q).symm
theorem nth_dum (m : Nat) : ∀ (n : Nat) (p : SetTable.Probe), p.dummy = none → (nth m p n).dummy = none
  | 0, _, h => h
  | n + 1, p, h => nth_dum m n (adv m p) (by unfold adv; split <;> exact h)
theorem prb_dum (t : SetTable) (h : Int) (c : Nat) : (prb t h c).dummy = none := nth_dum _ _ _ rfl

section
variable {P : Program} {w : World} {K : Type} [DecidableEq K]
abbrev Mem.row (m : Mem P w K) (p : Addr × K) : Int × Value := (m.kd.hash p.2, Value.ref p.1)
abbrev Mem.hs (m : Mem P w K) (L : List (Addr × K)) : List Int := L.map fun p => m.kd.hash p.2
/-- a table of the members L, in the table's order -/
structure Tb (m : Mem P w K) (es : Array (Int × Value)) (t : SetTable) (L : List (Addr × K)) : Prop where
  rows : es.toList = L.map m.row
  tab : TabOk t (m.hs L)
  nd : (L.map Prod.snd).Nodup
  led : w.params.followText "set-order" = true ∨ t.led = true
  room : L.length * 5 < t.mask * 3
  few : L.length < 64
/-- at a stands a set of the members L -/
def Ms (m : Mem P w K) (h : Heap) (a : Addr) (L : List (Addr × K)) : Prop :=
  ∃ o es ep t, h.get? a = some o ∧ o.ExactSet ∧ o.data = .set es ep t ∧ Tb m es t L ∧ ∀ p ∈ L, m.kd.is h p.2 p.1
variable {m : Mem P w K} {A : Around} {E : Value → Shared → Prop} {s : Shared} {a : Addr} {L : List (Addr × K)} {es : Array (Int × Value)} {ep : Nat} {t : SetTable} {o : Obj}
theorem rows_len (h : es.toList = L.map m.row) : es.size = L.length := by
  have q := congrArg List.length h
  rwa [List.length_map, Array.length_toList] at q
theorem Tb.sz (T : Tb m es t L) : t.place.size = L.length := by
  have q := T.tab.sz
  rwa [List.length_map] at q
theorem fits_of (dm : t.dummies = #[]) (ps : t.place.size = es.size) (le : es.size ≤ t.mask) : t.fits es.size = true := by
  unfold SetTable.fits SetTable.fill
  rw [dm, Bool.and_eq_true, beq_iff_eq, decide_eq_true_eq]
  exact ⟨ps, by show t.place.size + 0 ≤ t.mask; omega⟩
theorem Tb.fits (T : Tb m es t L) : t.fits es.size = true := by
  have e := rows_len T.rows
  have r := T.room
  exact fits_of T.tab.dm (T.sz.trans e.symm) (by omega)
theorem Tb.at (T : Tb m es t L) {i : Nat} {p : Addr × K} (h : L[i]? = some p) : es[i]? = some (m.row p) := by
  rw [← Array.getElem?_toList, T.rows, List.getElem?_map, h]
  rfl
theorem Tb.row_of (T : Tb m es t L) {i j : Nat} (h : t.place.toList[i]? = some j) : ∃ p, L[i]? = some p := by
  have q : i < t.place.toList.length := (List.getElem?_eq_some_iff.mp h).1
  rw [Array.length_toList, T.sz] at q
  exact ⟨_, List.getElem?_eq_getElem q⟩
theorem Tb.stored (T : Tb m es t L) {i : Nat} {p : Addr × K} (h : L[i]? = some p) : (es[i]?.map (·.1)).getD 0 = m.kd.hash p.2 := by
  rw [T.at h]
  rfl
/-- a place on the way from c on, ahead of n, whose member has the hash h -/
def Hit (m : Mem P w K) (t : SetTable) (L : List (Addr × K)) (h : Int) (c n : Nat) : Prop :=
  ∃ (q i : Nat) (p : Addr × K), c ≤ q ∧ q < n ∧ L[i]? = some p ∧ t.place.toList[i]? = some (way t.mask h q) ∧ m.kd.hash p.2 = h
theorem probe_at (T : Tb m es t L) {h : Int} {n c : Nat} (nf : n < 10 * SetTable.turns t.mask) (free : way t.mask h n ∉ t.place.toList) (full : ∀ q, q < n → way t.mask h q ∈ t.place.toList) (le : c ≤ n) :
    (∃ (q i : Nat) (p : Addr × K), c ≤ q ∧ q < n ∧ L[i]? = some p ∧ t.place.toList[i]? = some (way t.mask h q) ∧ ¬ Hit m t L h c q ∧
      t.probe (fun i : Nat => (es[i]?.map (·.1)).getD 0) h (prb t h c) = some (.candidate (way t.mask h q) i (prb t h (q + 1)))) ∨
    (¬ Hit m t L h c n ∧ t.probe (fun i : Nat => (es[i]?.map (·.1)).getD 0) h (prb t h c) = some (.empty (way t.mask h n) none)) := by
  have wj : ∀ q, (nth t.mask (prb t h c) q).j = way t.mask h (c + q) := fun q => by rw [prb_add, prb_j]
  have end_ : c + (n - c) = n := by omega
  have nohit : ∀ q, (∀ q' i', q' < q → t.place.toList[i']? = some (nth t.mask (prb t h c) q').j → (fun i : Nat => (es[i]?.map (·.1)).getD 0) i' ≠ h) → ¬ Hit m t L h c (c + q) := by
    rintro q no ⟨q', i', p', h1, h2, h3, h4, h5⟩
    refine no (q' - c) i' (by omega) ?_ ((T.stored h3).trans h5)
    rw [wj, h4]
    congr 2
    omega
  rcases go_spec t T.tab.ris T.tab.dm (fun i : Nat => (es[i]?.map (·.1)).getD 0) h (10 * SetTable.turns t.mask) (n - c) (prb t h c) (prb_dum t h c) (by omega)
    (fun q hq => by rw [wj]; exact full _ (by omega)) (by rw [wj, end_]; exact free) with ⟨q, i, g1, g2, _, g4, g5⟩ | ⟨g1, g2⟩
  · rw [wj] at g2
    obtain ⟨p, hp⟩ := T.row_of g2
    refine .inl ⟨c + q, i, p, Nat.le_add_right _ _, by omega, hp, g2, nohit q g4, ?_⟩
    rw [wj, prb_add] at g5
    exact g5
  · rw [wj, end_] at g2
    have q := nohit (n - c) g1
    rw [end_] at q
    exact .inr ⟨q, g2⟩

/-! ### the search -/
theorem seen_no {k : K} {x : Addr} {Q : Bool → Shared → Prop} (hx : m.kd.is s.heap k x) (q : Q false s) : ∀ ys : List Value, (∀ y ∈ ys, ∃ k' c, y = Value.ref c ∧ m.kd.is s.heap k' c) →
    wpAny (model P w) A (searchCouldBeSeen (.ref x) ys) Q E s := fun ys hy => by
  unfold searchCouldBeSeen
  refine wpAny_bind (wpAny_forIn_list _ (fun rest r s' => s' = s ∧ r.1 = none ∧ ∀ y ∈ rest, ∃ k' c, y = Value.ref c ∧ m.kd.is s.heap k' c) _ ?_ ?_ _ _ ⟨rfl, rfl, hy⟩)
  · rintro y rest r s' ⟨rfl, e, all⟩
    obtain ⟨k', c, rfl, hc⟩ := all _ List.mem_cons_self
    have tl : s' = s' ∧ (none : Option Bool) = none ∧ ∀ y ∈ rest, ∃ k' c, y = Value.ref c ∧ m.kd.is s'.heap k' c := ⟨rfl, rfl, fun z hz => all z (List.mem_cons_of_mem _ hz)⟩
    dsimp only
    split
    · exact wpAny_pure tl
    · refine wpAny_bind (m.kd.quiet hx (wp_if_neg (by decide) ?_))
      refine wpAny_bind (m.kd.quiet hc (wp_if_neg (by decide) ?_))
      refine wpAny_bind (m.ofc hx (wp_if_neg (by decide) ?_))
      refine wpAny_bind (m.ofc hc (wp_if_neg (by decide) ?_))
      exact wpAny_pure tl
  · rintro ⟨r1, r2⟩ s' ⟨rfl, e, _⟩
    dsimp only at e
    subst e
    exact wpAny_pure q
theorem not_gone (T : Tb m es t L) : ¬ t.gaveWay = true := by
  unfold SetTable.gaveWay
  rw [mask_odd T.tab.mok]
  decide
theorem find_from (ho : s.heap.get? a = some o) (hd : o.data = .set es ep t) (T : Tb m es t L) (mem : ∀ p ∈ L, m.kd.is s.heap p.2 p.1) {x : Addr} {k : K} (hx : m.kd.is s.heap k x) (rm : m.kd.room A)
    {n : Nat} (nf : n < 10 * SetTable.turns t.mask) (free : way t.mask (m.kd.hash k) n ∉ t.place.toList) (full : ∀ q, q < n → way t.mask (m.kd.hash k) q ∈ t.place.toList) {Q : SetFound → Shared → Prop}
    (yes : k ∈ L.map Prod.snd → Q (.there none) s) (no : k ∉ L.map Prod.snd → Q (.free (way t.mask (m.kd.hash k) n) false) s) :
    ∀ (f c : Nat) (st : Option SetTable.Probe), st.getD (t.probeStart (m.kd.hash k)) = prb t (m.kd.hash k) c → c ≤ n → n < c + f →
      (∀ (i : Nat) (p : Addr × K), L[i]? = some p → p.2 = k → ∃ q, c ≤ q ∧ q < n ∧ t.place.toList[i]? = some (way t.mask (m.kd.hash k) q)) →
      wpAny (model P w) A (setSearchFrom a (.ref x) (m.kd.hash k) true f st) Q E s
  | 0, c, st, _, h1, h2, _ => by omega
  | f + 1, c, st, hst, le, lt, ahead => by
    rw [setSearchFrom_succ]
    refine wpAny_bind (wpAny_setState_of ho hd T.fits ?_)
    dsimp only
    refine wp_if_neg (not_gone T) ?_
    try refine wpAny_bind (wpAny_pure ?_)
    rw [hst]
    rcases probe_at T nf free full le with ⟨q, i, p, q1, q2, hp, pp, nh, e⟩ | ⟨nh, e⟩
    · rw [e]
      dsimp only
      have pm : p ∈ L := List.mem_of_getElem? hp
      have body : wpAny (model P w) A (searchRest a (.ref x) (m.kd.hash k) true f es t (way t.mask (m.kd.hash k) q) i (prb t (m.kd.hash k) (q + 1))) Q E s := by
        unfold searchRest
        rw [T.at hp]
        dsimp only
        refine wpAny_bind (wpAny_holding (m.kd.eqBool rm (mem p pm) hx ?_))
        refine wpAny_bind (wpAny_setState_of ho hd T.fits ?_)
        dsimp only
        by_cases same : p.2 = k
        · refine wp_if_pos (by simp [same]) (wpAny_pure (yes ?_))
          exact List.mem_map.mpr ⟨p, pm, same⟩
        · refine wp_if_neg (by simp [same]) ?_
          try refine wpAny_bind (wpAny_pure ?_)
          have live : t.slot (way t.mask (m.kd.hash k) q) = .live i := slot_live T.tab.ris pp
          rw [sameMem]
          dsimp only
          simp only [if_true, live, T.at hp]
          refine wpAny_bind (wpAny_isSame_ref_self (wpAny_bind (wpAny_pure ?_)))
          simp only [if_true]
          refine wp_if_neg (by simp [same]) ?_
          refine find_from ho hd T mem hx rm nf free full yes no f (q + 1) _ rfl q2 (by omega) fun i' p' h1 h2 => ?_
          obtain ⟨q', b1, b2, b3⟩ := ahead i' p' h1 h2
          refine ⟨q', ?_, b2, b3⟩
          rcases Nat.lt_trichotomy q' q with z | z | z
          · exact absurd ⟨q', i', p', b1, z, h1, b3, congrArg m.kd.hash h2⟩ nh
          · subst z
            have l2 := slot_live T.tab.ris b3
            rw [live] at l2
            injection l2 with l2
            rw [← l2, hp] at h1
            cases h1
            exact absurd h2 same
          · exact z
      by_cases hl : t.led = true
      · refine wp_if_neg (by simp [hl]) ?_
        try refine wpAny_bind (wpAny_pure ?_)
        exact body
      · refine wp_if_pos (by simp [hl]) (wpAny_bind (seen_no hx (wp_if_neg (by decide) ?_) _ fun y hy => ?_))
        · try refine wpAny_bind (wpAny_pure ?_)
          exact body
        · obtain ⟨e0, he, rfl⟩ := List.mem_map.mp hy
          have he1 : e0 ∈ es.toList := by
            have z : e0 ∈ es ∧ e0.1 = m.kd.hash k := by simpa using he
            simpa using z.1
          rw [T.rows] at he1
          obtain ⟨p0, hp0, rfl⟩ := List.mem_map.mp he1
          exact ⟨p0.2, p0.1, rfl, mem p0 hp0⟩
    · rw [e]
      dsimp only
      refine wpAny_pure (no fun z => ?_)
      obtain ⟨p, hp, e2⟩ := List.mem_map.mp z
      obtain ⟨i, hi⟩ := List.getElem?_of_mem hp
      obtain ⟨q, b1, b2, b3⟩ := ahead i p hi e2
      exact nh ⟨q, i, p, b1, b2, hi, b3, congrArg m.kd.hash e2⟩
theorem find (ho : s.heap.get? a = some o) (hd : o.data = .set es ep t) (T : Tb m es t L) (mem : ∀ p ∈ L, m.kd.is s.heap p.2 p.1) {x : Addr} {k : K} (hx : m.kd.is s.heap k x) (rm : m.kd.room A) {Q : SetFound → Shared → Prop}
    (yes : k ∈ L.map Prod.snd → Q (.there none) s)
    (no : ∀ n, k ∉ L.map Prod.snd → way t.mask (m.kd.hash k) n ∉ t.place.toList → (∀ q, q < n → way t.mask (m.kd.hash k) q ∈ t.place.toList) → Q (.free (way t.mask (m.kd.hash k) n) false) s) :
    wpAny (model P w) A (setSearch a (.ref x) (m.kd.hash k) true) Q E s := by
  have r := T.room
  obtain ⟨n, nf, free, full⟩ := T.tab.first (by rw [List.length_map]; omega) (m.kd.hash k)
  have small : n < 100000 := by
    have : 10 * SetTable.turns t.mask < 100000 := by
      unfold SetTable.turns
      rcases T.tab.mok with e | e | e <;> omega
    omega
  refine find_from ho hd T mem hx rm nf free full yes (fun z => no n z free full) 100000 0 none rfl (Nat.zero_le _) (by omega) fun i p hp e => ?_
  have hi : (m.hs L)[i]? = some (m.kd.hash k) := by rw [List.getElem?_map, hp, ← e]; rfl
  have il : i < t.place.toList.length := by
    rw [Array.length_toList, T.sz]
    exact (List.getElem?_eq_some_iff.mp hp).1
  obtain ⟨q, hq, e2⟩ := T.tab.before free hi (List.getElem?_eq_getElem il)
  exact ⟨q, Nat.zero_le _, hq, by rw [List.getElem?_eq_getElem il, e2]⟩
end
end MP

set_option Elab.async false
set_option linter.all false
set_option maxRecDepth 100000
namespace MP
open PySem PySem.Spec PyProof.Rows L2
/-! Sets of flat tuples: the table laid anew, adding. -/
theorem mid_perm {α : Type} (l : List α) (i : Nat) (x : α) : (l.take i ++ x :: l.drop i).Perm (x :: l) := by
  have q := (List.perm_middle (a := x) (l₁ := l.take i) (l₂ := l.drop i))
  rwa [List.take_append_drop] at q
theorem pick_all {α : Type} : ∀ l : List α, (List.range l.length).filterMap (fun i => l[i]?) = l
  | [] => rfl
  | x :: l => by
    rw [List.length_cons, List.range_succ_eq_map, List.filterMap_cons]
    show x :: ((List.range l.length).map Nat.succ).filterMap (fun i => (x :: l)[i]?) = _
    rw [List.filterMap_map]
    exact congrArg (x :: ·) (pick_all l)
section
variable {P : Program} {w : World} {K : Type} [DecidableEq K] {m : Mem P w K} {A : Around} {E : Value → Shared → Prop} {s : Shared} {a : Addr} {L : List (Addr × K)} {es : Array (Int × Value)} {ep : Nat} {t : SetTable} {o : Obj}
theorem mem_stay {h h' : Heap} {k : K} {b : Addr} (x : m.kd.is h k b) (ho : h.get? a = some o) (hd : o.data = .set es ep t) (hs : Heap.SameBut a h h') : m.kd.is h' k b := by
  refine m.stay x fun o' e => ?_
  have ne : b ≠ a := by
    rintro rfl
    obtain ⟨o2, xs, n, e2, d2⟩ := m.seq x
    rw [ho] at e2
    cases e2
    rw [hd] at d2
    cases d2
  exact (hs.2 b ne).trans e
/-- the entries in another order -/
theorem picked (h : es.toList = L.map m.row) (order : List Nat) (pm : order.Perm (List.range L.length)) :
    ∃ L', order.filterMap (fun i => es[i]?) = L'.map m.row ∧ L'.Perm L ∧ m.hs L' = order.map fun i => (es.map (·.1)).getD i 0 := by
  have ent : ∀ i, es[i]? = (L[i]?).map m.row := fun i => by rw [← Array.getElem?_toList, h, List.getElem?_map]
  refine ⟨order.filterMap fun i => L[i]?, ?_, ?_, ?_⟩
  · rw [List.map_filterMap]
    exact congrArg (fun f => List.filterMap f order) (funext ent)
  · have q := pm.filterMap fun i => L[i]?
    rwa [pick_all] at q
  · have bd : ∀ i ∈ order, i < L.length := fun i hi => List.mem_range.mp (pm.mem_iff.mp hi)
    clear pm
    induction order with
    | nil => rfl
    | cons i r ih =>
      have hi := bd i List.mem_cons_self
      have e := List.getElem?_eq_getElem hi
      have v : (es.map (·.1)).getD i 0 = m.kd.hash (L[i]).2 := by
        have z : (es.map (·.1))[i]? = some (m.kd.hash (L[i]).2) := by rw [Array.getElem?_map, ent, e]; rfl
        simp [Array.getD_eq_getD_getElem?, z]
      show ((i :: r).filterMap fun i => L[i]?).map (fun p => m.kd.hash p.2) = (i :: r).map fun i => (es.map (·.1)).getD i 0
      rw [List.filterMap_cons_some e, List.map_cons, List.map_cons, v]
      exact congrArg (_ :: ·) (ih fun j hj => bd j (List.mem_cons_of_mem _ hj))
/-- a full table, laid anew -/
theorem relay (ho : s.heap.get? a = some o) (hex : o.ExactSet) (hd : o.data = .set es ep t) (rows : es.toList = L.map m.row) (ps : t.place.size = es.size) (dm : t.dummies = #[]) (le : es.size ≤ t.mask)
    (nd : (L.map Prod.snd).Nodup) (mem : ∀ p ∈ L, m.kd.is s.heap p.2 p.1) (led : w.params.followText "set-order" = true ∨ t.led = true) (few : L.length < 64) {want M : Nat}
    (hw : SetTable.sizeAbove want - 1 = M) (hM : MaskOk M) (hz : SetTable.sizeAbove want ≤ 128) (room : L.length * 5 < M * 3) {Q : Unit → Shared → Prop}
    (q : ∀ h' L', Heap.SameBut a s.heap h' → Ms m h' a L' → L'.Perm L → Q () { s with heap := h' }) : wpAny (model P w) A (setRelay a want) Q E s := by
  have sz := rows_len rows
  obtain ⟨t', order, e1, e2, e3, e4, e5, e6, e7⟩ := relaid_ok t (hs := es.map (·.1)) (wanted := want) hw hM (by rw [Array.size_map, sz]; omega)
  rw [Array.size_map, sz] at e2
  obtain ⟨L', f1, f2, f3⟩ := picked rows order.toList e2
  rw [← f3] at e3
  have f1' : (order.filterMap (es[·]?)).toList = L'.map m.row := by rw [Array.toList_filterMap]; exact f1
  have z2 : (order.filterMap (es[·]?)).size = es.size := by rw [rows_len f1', f2.length_eq, sz]
  rw [setRelay_eq]
  refine wpAny_bind (wpAny_setState_of ho hd (fits_of dm ps le) ?_)
  dsimp only
  refine wp_if_neg (by rw [sizeLine_eq]; omega) ?_
  try refine wpAny_bind (wpAny_pure ?_)
  rw [e1]
  dsimp only
  refine wpAny_bind (wp_if_neg (by rw [z2]; simp) ?_)
  try refine wpAny_bind (wpAny_pure ?_)
  refine wpAny_pure ?_
  dsimp only
  refine wpAny_storeSet_of ho hd ?_ (by rw [z2, sz, sizeLine_eq]; omega)
  have sb : Heap.SameBut a s.heap (s.heap.update a (Obj.putSet (order.filterMap (es[·]?)) t')) := Heap.SameBut.update ..
  refine q _ L' sb ⟨_, _, _, t', store_at ho hd, hex, rfl, ⟨f1', e3, (f2.map Prod.snd).nodup_iff.mpr nd, led.imp id fun z => e5.trans z, ?_, ?_⟩, fun p hp => mem_stay (mem p (f2.mem_iff.mp hp)) ho hd sb⟩ f2
  · rw [f2.length_eq, e4]
    exact room
  · rw [f2.length_eq]
    exact few
theorem grow_cases {t : SetTable} {n : Nat} (mk : MaskOk t.mask) (room : n * 5 < t.mask * 3) (full : (n + 1) * 5 ≥ t.mask * 3) (few : n + 1 < 64) :
    ∃ M, SetTable.sizeAbove (SetTable.grown (n + 1)) - 1 = M ∧ MaskOk M ∧ SetTable.sizeAbove (SetTable.grown (n + 1)) ≤ 128 ∧ (n + 1) * 5 < M * 3 ∧ n + 1 ≤ t.mask := by
  rcases mk with e | e | e <;> rw [e] at room full ⊢
  · obtain rfl : n = 4 := by omega
    exact ⟨31, by rw [size_20], .inr (.inl rfl), by rw [size_20]; decide, by decide, by decide⟩
  · obtain rfl : n = 18 := by omega
    exact ⟨127, by rw [size_76], .inr (.inr rfl), by rw [size_76]; decide, by decide, by decide⟩
  · omega
theorem if_both {α : Type} {M : Model} {c : Prop} [Decidable c] {x y : Sem Bool} {f : Bool → Sem α} {Q : α → Shared → Prop} (hx : ∀ R : Bool → Shared → Prop, (∀ b, R b s) → wpAny M A x R E s) (hy : ∀ R : Bool → Shared → Prop, (∀ b, R b s) → wpAny M A y R E s)
    (go : ∀ b, wpAny M A (f b) Q E s) : wpAny M A (if c then x >>= f else y >>= f) Q E s := by
  split
  · exact wpAny_bind (hx _ go)
  · exact wpAny_bind (hy _ go)
/-- adding -/
theorem add_mem (S : Ms m s.heap a L) {x : Addr} {k : K} (hx : m.kd.is s.heap k x) (rm : m.kd.room A) (few : L.length + 1 < 64) {Q : Bool → Shared → Prop}
    (q : ∀ b h' L', Heap.SameBut a s.heap h' → Ms m h' a L' → (k ∈ L.map Prod.snd → L' = L) → (k ∉ L.map Prod.snd → L'.Perm ((x, k) :: L)) → Q b { s with heap := h' }) :
    wpAny (model P w) A (setAddHashed a (.ref x) (m.kd.hash k)) Q E s := by
  obtain ⟨o, es, ep, t, ho, hex, hd, T, mem⟩ := S
  unfold setAddHashed
  refine wpAny_holding ?_
  rw [show (100000 : Nat) = 99999 + 1 from rfl, setAddHashedIn_succ]
  refine wpAny_bind (wpAny_setState_of ho hd T.fits ?_)
  dsimp only
  refine wp_if_neg (by simp [byScan, Value.scannable]) ?_
  try refine wpAny_bind (wpAny_pure ?_)
  refine wpAny_bind (find ho hd T mem hx rm (fun z => ?_) fun n z free full => ?_)
  · dsimp only
    exact wpAny_pure (q false s.heap L (Heap.SameBut.refl a s.heap) ⟨o, es, ep, t, ho, hex, hd, T, mem⟩ (fun _ => rfl) fun y => absurd z y)
  dsimp only
  refine wpAny_bind (wpAny_setState_of ho hd T.fits ?_)
  dsimp only
  obtain ⟨p1, p2, p3, p4, p5, p6, p7, p8, p9⟩ := T.tab.put free full
  rw [List.length_map] at p9
  have led1 : w.params.followText "set-order" = true ∨ (t.put (way t.mask (m.kd.hash k) n)).1.led = true := T.led.imp id fun y => p5.trans y
  generalize hg : t.put (way t.mask (m.kd.hash k) n) = pr at p1 p3 p4 p9 led1 ⊢
  obtain ⟨t1, i⟩ := pr
  dsimp only at p1 p3 p4 p9 led1 ⊢
  subst p1
  generalize SetTable.below t.place (way t.mask (m.kd.hash k) n) = i at p3 ⊢
  have off : ∀ (b : Bool), ∃ t2, (if b = true then t1 else { t1 with plain := false }) = t2 ∧ TabOk t2 ((m.hs L).take i ++ m.kd.hash k :: (m.hs L).drop i) ∧ t2.mask = t.mask ∧ t2.fill = L.length + 1 ∧ (w.params.followText "set-order" = true ∨ t2.led = true) := fun b => by
    cases b
    · exact ⟨_, rfl, ⟨p3.ris, p3.dm, p3.sz, p3.mok, p3.bd, p3.reach⟩, p4, p9, led1⟩
    · exact ⟨_, rfl, p3, p4, p9, led1⟩
  refine if_both (fun R hR => m.byv hx hR) (fun R hR => wpAny_pure (hR true)) fun byv => ?_
  clear p3 p4 p9 led1
  obtain ⟨t2, et2, p3, p4, p9, led1⟩ := off byv
  rw [et2]
  clear et2 off
  have rows1 : (SetTable.insertAt es i (m.kd.hash k, Value.ref x)).toList = (L.take i ++ (x, k) :: L.drop i).map m.row := by
    rw [SetTable.toList_insertAt, T.rows, List.map_append, List.map_cons, List.map_take, List.map_drop]
  have hs1 : (m.hs L).take i ++ m.kd.hash k :: (m.hs L).drop i = m.hs (L.take i ++ (x, k) :: L.drop i) := by
    show _ = (L.take i ++ (x, k) :: L.drop i).map fun p => m.kd.hash p.2
    rw [List.map_append, List.map_cons, List.map_take, List.map_drop]
  rw [hs1] at p3
  have pm := mid_perm L i (x, k)
  have nd1 : ((L.take i ++ (x, k) :: L.drop i).map Prod.snd).Nodup := (pm.map Prod.snd).nodup_iff.mpr (List.nodup_cons.mpr ⟨z, T.nd⟩)
  generalize SetTable.insertAt es i (m.kd.hash k, Value.ref x) = es1 at rows1 ⊢
  generalize L.take i ++ (x, k) :: L.drop i = L1 at pm nd1 rows1 p3
  have ln : L1.length = L.length + 1 := pm.length_eq
  have sz1 := rows_len rows1
  have sz := rows_len T.rows
  refine wpAny_bind (wpAny_storeSet_of ho hd ?_ (by rw [sz1, ln, sizeLine_eq]; omega))
  have sb : Heap.SameBut a s.heap (s.heap.update a (Obj.putSet es1 t2)) := Heap.SameBut.update ..
  have ho1 := store_at (es' := es1) (t' := t2) ho hd
  have mem1 : ∀ p ∈ L1, m.kd.is (s.heap.update a (Obj.putSet es1 t2)) p.2 p.1 := fun p hp => by
    rcases List.mem_cons.mp (pm.mem_iff.mp hp) with e | hp
    · rw [e]; exact mem_stay hx ho hd sb
    · exact mem_stay (mem p hp) ho hd sb
  have room := T.room
  generalize s.heap.update a (Obj.putSet es1 t2) = h1 at sb ho1 mem1 ⊢
  by_cases full1 : t2.tooFull = true
  · have much : (L.length + 1) * 5 ≥ t.mask * 3 := by
      have y := full1
      unfold SetTable.tooFull at y
      rwa [decide_eq_true_eq, p9, p4] at y
    obtain ⟨M, g1, g2, g3, g4, g5⟩ := grow_cases T.tab.mok room much few
    have go : wpAny (model P w) A (setRelay a (SetTable.grown (es.size + 1))) (fun _ s' => wpAny (model P w) A (pure true) Q E s') E { s with heap := h1 } := by
      rw [sz]
      refine relay (s := { s with heap := h1 }) ho1 hex rfl rows1 ?_ p3.dm (by rw [sz1, ln, p4]; exact g5) nd1 mem1 led1 (by rw [ln]; exact few) g1 g2 g3 (by rw [ln]; exact g4) fun h2 L2 sb2 S2 pm2 => ?_
      · have y := p3.sz
        rw [List.length_map] at y
        rw [y, sz1]
      · exact wpAny_pure (q true h2 L2 (sb.trans sb2) S2 (fun y => absurd y z) fun _ => pm2.trans pm)
    first
      | (refine wpAny_bind ?_; refine wp_if_pos (by simp [full1]) ?_; exact go)
      | (refine wp_if_pos (by simp [full1]) ?_; refine wpAny_bind ?_; exact go)
  · have stays : wpAny (model P w) A (pure true) Q E { s with heap := h1 } := by
      refine wpAny_pure (q true h1 L1 sb ⟨_, es1, _, t2, ho1, hex, rfl, ⟨rows1, p3, nd1, led1, ?_, by rw [ln]; exact few⟩, mem1⟩ (fun y => absurd y z) fun _ => pm)
      have y := full1
      unfold SetTable.tooFull at y
      rw [decide_eq_true_eq, p9] at y
      rw [ln]
      omega
    first
      | exact wp_if_neg (by simp [full1]) stays
      | (refine wpAny_bind ?_; refine wp_if_neg (by simp [full1]) ?_; exact wpAny_pure stays)
end
end MP

set_option Elab.async false
set_option linter.all false
set_option maxRecDepth 100000
namespace MP
open PySem PySem.Spec PyProof.Rows L2
/-! Sets of flat tuples: set(xs). -/
section
variable {P : Program} {w : World} {K : Type} [DecidableEq K] {m : Mem P w K} {A : Around} {E : Value → Shared → Prop} {s : Shared} {a : Addr} {L : List (Addr × K)}
/-- what a set has of the first i members of ks -/
structure Got1 (ks L : List (Addr × K)) (i : Nat) : Prop where
  sub : ∀ p ∈ L, p ∈ ks.take i
  all : ∀ p ∈ ks.take i, p.2 ∈ L.map Prod.snd
  len : L.length ≤ i
theorem Got1.step {ks L L' : List (Addr × K)} {i : Nat} {p : Addr × K} (g : Got1 ks L i) (h : ks[i]? = some p) (yes : p.2 ∈ L.map Prod.snd → L' = L) (no : p.2 ∉ L.map Prod.snd → L'.Perm (p :: L)) : Got1 ks L' (i + 1) := by
  have e : ks.take (i + 1) = ks.take i ++ [p] := by rw [List.take_add_one, h]; rfl
  by_cases c : p.2 ∈ L.map Prod.snd
  · obtain rfl := yes c
    refine ⟨fun q hq => by rw [e]; exact List.mem_append_left _ (g.sub q hq), fun q hq => ?_, Nat.le_succ_of_le g.len⟩
    rw [e, List.mem_append, List.mem_singleton] at hq
    exact hq.elim (g.all q) fun z => z ▸ c
  · have pm := no c
    refine ⟨fun q hq => ?_, fun q hq => ?_, ?_⟩
    · rw [e, List.mem_append, List.mem_singleton]
      exact (List.mem_cons.mp (pm.mem_iff.mp hq)).elim .inr fun z => .inl (g.sub q z)
    · rw [(pm.map Prod.snd).mem_iff, List.map_cons, List.mem_cons]
      rw [e, List.mem_append, List.mem_singleton] at hq
      exact hq.elim (fun z => .inr (g.all q z)) fun z => .inl (congrArg Prod.snd z)
    · rw [pm.length_eq]
      exact Nat.succ_le_succ g.len
theorem Ms.still {h h' : Heap} (S : Ms m h a L) (k : ∀ o, h.get? a = some o → h'.get? a = some o) (mem : ∀ p ∈ L, m.kd.is h' p.2 p.1) : Ms m h' a L := by
  obtain ⟨o, es, ep, t, ho, hex, hd, T, _⟩ := S
  exact ⟨o, es, ep, t, k o ho, hex, hd, T, mem⟩
theorem ms_fresh {h : Heap} (ho : h.get? a = some { cls := .type "set", dict := none, data := .set #[] 0 (.fresh 0 0 (!w.params.followText "set-order")) }) : Ms m h a [] := by
  refine ⟨_, #[], 0, _, ho, ⟨rfl, rfl, rfl⟩, rfl, ⟨rfl, ⟨.nil, rfl, rfl, .inl rfl, fun x hx => (by cases hx), fun i h j hi => (by simp at hi)⟩, .nil, ?_, (by show 0 * 5 < 7 * 3; decide), (by show 0 < 64; decide)⟩, fun p hp => nomatch hp⟩
  cases w.params.followText "set-order"
  · exact .inr rfl
  · exact .inl rfl
theorem mem_loop {I : Addr} {fp wr : List Addr} {G : Array GenState → Array GenState → Prop} {n : Nat} {Pv : Nat → Value → Prop} {St : Nat → Shared → Prop} {R : Result → Shared → Prop} (W : WalksS P w A.in1 I fp wr G n Pv St)
    (a : Addr) (out : a ∉ fp) (ks : List (Addr × K)) (hn : ks.length = n) (few : ∀ L : List (Addr × K), (∀ p ∈ L, p ∈ ks) → (L.map Prod.snd).Nodup → L.length + 1 < 64) (hv : ∀ i v, Pv i v → ∃ p, ks[i]? = some p ∧ v = Value.ref p.1) (h0 : Heap) (is0 : ∀ p ∈ ks, m.kd.is h0 p.2 p.1)
    (a0 : h0.get? a = none) (w0 : ∀ b ∈ wr, h0.get? b = none) (rm : m.kd.room A.in1) :
    ∀ (k i : Nat) (s : Shared) (L : List (Addr × K)), i + k = n → St i s → (∀ b o, h0.get? b = some o → s.heap.get? b = some o) → Ms m s.heap a L → Got1 ks L i →
      (∀ s' L', Moved (a :: wr) G s s' → Ms m s'.heap a L' → Got1 ks L' n → R (.ok (.ret .none)) s') →
      codeAny (model P w) A (.builtin "set.update.loop" ⟨[.ref a, .ref I], []⟩) R s
  | 0, i, s, L, hk, st, old, S, g, hR => by
    obtain rfl : i = n := hk
    refine codeAny_builtin F.entry_set_update_loop ?_
    rw [Around.under_plainId F.plain_set_update_loop _]
    show wpAny _ A.in1 (pyNext (.ref I) >>= _) _ _ s
    refine wpAny_bind (W.done s _ _ st fun s' mv => ?_)
    show wpAny _ A.in1 (ret Value.none) _ _ s'
    have old' : ∀ b o, h0.get? b = some o → s'.heap.get? b = some o := fun b o e => mv.heap b o (fun z => by rw [w0 b z] at e; cases e) (old b o e)
    refine wpAny_pure (hR s' L (mv.mono fun b hb => List.mem_cons_of_mem _ hb) (S.still (fun o e => mv.heap a o (fun z => out (W.sub _ z)) e) fun p hp => ?_) g)
    exact m.stay (is0 p (List.mem_of_mem_take (g.sub p hp))) fun o e => old' _ o e
  | k + 1, i, s, L, hk, st, old, S, g, hR => by
    refine codeAny_builtin F.entry_set_update_loop ?_
    rw [Around.under_plainId F.plain_set_update_loop _]
    show wpAny _ A.in1 (pyNext (.ref I) >>= _) _ _ s
    refine wpAny_bind (W.item i s _ _ (by omega) st fun v s1 hp st1 mv => ?_)
    obtain ⟨p, hpi, rfl⟩ := hv i v hp
    have old1 : ∀ b o, h0.get? b = some o → s1.heap.get? b = some o := fun b o e => mv.heap b o (fun z => by rw [w0 b z] at e; cases e) (old b o e)
    have is1 : ∀ p ∈ ks, m.kd.is s1.heap p.2 p.1 := fun p hp => m.stay (is0 p hp) fun o e => old1 _ o e
    have S1 : Ms m s1.heap a L := S.still (fun o e => mv.heap a o (fun z => out (W.sub _ z)) e) fun q hq => is1 q (List.mem_of_mem_take (g.sub q hq))
    show wpAny _ A.in1 (holding [Value.ref p.1] (setAdd a (.ref p.1)) >>= _) _ _ s1
    unfold setAdd
    refine wpAny_bind (wpAny_holding (wpAny_holding (wpAny_bind (m.kd.pyHash rm (is1 p (List.mem_of_getElem? hpi)) ?_))))
    have gl : L.length + 1 < 64 := few L (fun p hp => List.mem_of_mem_take (g.sub p hp)) (by
      obtain ⟨_, _, _, _, _, _, _, R, _⟩ := S
      exact R.nd)
    refine add_mem (s := { s1 with toks := s1.toks + m.kd.draws p.2 }) S1 (is1 p (List.mem_of_getElem? hpi)) rm gl fun _ h' L' sb S2 y n' => ?_
    refine wpAny_pure ⟨plainId_quiet F.plain_set_update_loop _, mem_loop W a out ks hn few hv h0 is0 a0 w0 rm k (i + 1) _ L' (by omega) (W.frame _ s1 _ _ st1 (Nat.le_add_right _ _) fun b hb o e => ?_) (fun b o e => ?_) S2 (g.step hpi y n') fun s2 L2 mv2 S3 g3 => ?_⟩
    · exact (sb.2 b fun z => out (z ▸ hb)).trans e
    · exact (sb.2 b fun z => by rw [z, a0] at e; cases e).trans (old1 b o e)
    · refine hR s2 L2 (Moved.trans W.gtrans ((mv.mono fun b hb => List.mem_cons_of_mem _ hb).then_heap (Nat.le_add_right _ _) fun b o hb e => ?_) mv2) S3 g3
      exact (sb.2 b fun z => hb (z ▸ List.mem_cons_self)).trans e

end
end MP

set_option Elab.async false
set_option linter.all false
set_option maxRecDepth 100000
namespace MP
open PySem PySem.Spec PyProof.Rows L2
/-! Sets of flat tuples: set(xs). -/
section
variable {P : Program} {w : World} {K : Type} [DecidableEq K] {m : Mem P w K} {A : Around} {E : Value → Shared → Prop} {s : Shared} {a : Addr} {L : List (Addr × K)}
set_option maxHeartbeats 3200000 in
theorem set_of_list {l : Addr} {ks : List (Addr × K)} {Q : Value → Shared → Prop} (hh : A.handled = none) (hl : s.heap.IsList l (ks.map fun p => Value.ref p.1).toArray) (hx : ∀ p ∈ ks, m.kd.is s.heap p.2 p.1) (hb : ∀ L : List (Addr × K), (∀ p ∈ L, p ∈ ks) → (L.map Prod.snd).Nodup → L.length + 1 < 64)
    (rm : ∀ B : Around, B.units ≤ A.units + 8 → m.kd.room B)
    (q : ∀ h' tk L', Ms m h' s.heap.objs.size L' → Got1 ks L' ks.length → (∀ b o, s.heap.get? b = some o → h'.get? b = some o) → Q (.ref s.heap.objs.size) { s with heap := h', toks := tk }) :
    wpAny (model P w) A (call (.type "set") [.ref l]) Q E s := by
  have isz : ks.length = (ks.map fun p => Value.ref p.1).toArray.size := by rw [List.size_toArray, List.length_map]
  have its : ∀ (i : Nat) v, (ks.map fun p => Value.ref p.1).toArray[i]? = some v → ∃ p, ks[i]? = some p ∧ v = Value.ref p.1 := fun i v e => by
    rw [List.getElem?_toArray, List.getElem?_map] at e
    obtain ⟨p, h1, h2⟩ := Option.map_eq_some_iff.mp e
    exact ⟨p, h1, h2.symm⟩
  generalize (ks.map fun p => Value.ref p.1).toArray = items at hl isz its
  have ⟨_, _, hm⟩ := PySem.F.called_set.mro
  have made := PySem.F.called_set.made
  have below := PySem.F.called_set.sub
  have nt := PySem.F.called_set.notType
  have cc := PySem.F.called_set.canCreate
  have tc := F.typeCall_set_1 (.ref l)
  refine wpAny_call (codeAny_of_tree ?_)
  show wpAny _ _ (callAny (.type "set") _) _ _ _
  refine wpAny_pure ⟨Code.quiet_builtin _ (by decide +kernel), codeAny_builtin PySem.F.entry_type_call ?_⟩
  rw [Around.under_plain (weight_type_call_type "set" [.ref l] []) rfl]
  repeat (any_goals (first | assumption | wp_step))
  let nw : Obj := { cls := .type "set", dict := none, data := .set #[] 0 (.fresh 0 0 (!w.params.followText "set-order")) }
  refine codeAny_mono (L2.code_set_led1 (.ref l) (E := E) (Q₁ := fun v s1 => v = .ref s.heap.objs.size ∧ s1 = { s with heap := s.heap.push nw }) ⟨rfl, rfl⟩) fun r s1 hr => ?_
  cases r with
  | error e => exact hr
  | ok fl =>
    cases fl with
    | ret v =>
      obtain ⟨rfl, rfl⟩ := hr
      have at0 : (s.heap.push nw).get? s.heap.objs.size = some nw := Heap.get?_push_size _ rfl
      have ty : Shared.TypeIs { s with heap := s.heap.push nw } (.ref s.heap.objs.size) "set" := ⟨_, at0, rfl⟩
      have lk := PySem.F.called_set.init.lookup
      have bd := PySem.F.called_set.init.bind (.ref s.heap.objs.size)
      repeat (any_goals (first | assumption | wp_step))
      refine codeAny_mono (codeAny_call_builtin (R := wants (fun v s2 => v = .none ∧ ∃ h' tk L', s2 = { s with heap := h', toks := tk } ∧ Ms m h' s.heap.objs.size L' ∧ Got1 ks L' ks.length ∧ ∀ b o, s.heap.get? b = some o → h'.get? b = some o) E)
        PySem.F.called_set.init.plain PySem.F.entry_set_init (check_set_init_1 ty ?_)) fun r2 s2 hr2 => ?_
      · obtain ⟨⟨cls, dict, data, slots⟩, ol, cl, nl, dl⟩ := hl
        simp only at cl dl
        subst cl dl
        have ol1 : (s.heap.push nw).get? l = some { cls := .type "list", dict := dict, data := .seq items nl, slots := slots } := Heap.get?_push_of_some _ ol
        have n1 := PySem.F.sub_list_set
        have n2 := PySem.F.sub_list_frozenset
        have n3 : (Value.type "list" == Value.type "dict") = false := by decide
        have hl1 : (s.heap.push nw).IsList l items := ⟨_, ol1, rfl, nl, rfl⟩
        unfold Builtin.«set.__init__» noKeywords Builtin.Frozenset.updateFrom
        generalize it : pyIter = IT
        wp_walk
        subst it
        refine wpAny_pyIter_list hl1 ?_
        refine wpAny_bind (wpAny_runValue ?_)
        have lS : l < s.heap.objs.size := Heap.lt_size ol
        have z1 : (s.heap.push nw).objs.size = s.heap.objs.size + 1 := Heap.size_push ..
        have nI : l ≠ (s.heap.push nw).objs.size := by rw [z1]; exact Nat.ne_of_lt (Nat.lt_succ_of_lt lS)
        have none_at : ∀ b, s.heap.objs.size ≤ b → s.heap.get? b = none := fun b hb => by
          cases e : s.heap.get? b with
          | none => rfl
          | some o => exact absurd (Heap.lt_size e) (Nat.not_lt.mpr hb)
        refine mem_loop ((Walks.list (show A.in1.in1.in1.handled = none by simp [hh]) _ l nI items).toS) s.heap.objs.size ?_ ks isz hb (fun i v hv => its i v hv) s.heap hx (none_at _ (Nat.le_refl _)) (fun b hb => ?_) (rm _ (by show A.units + 1 + 1 + 1 ≤ A.units + 8; omega)) items.size 0 _ [] (by omega)
          ⟨⟨_, Heap.get?_push_size _ rfl, rfl, rfl⟩, hl1.push _⟩ (fun b o e => Heap.get?_push_of_some _ (Heap.get?_push_of_some _ e)) (ms_fresh (Heap.get?_push_of_some _ at0)) ⟨fun p hp => (nomatch hp), fun p hp => (by simp at hp), Nat.le_refl _⟩ fun s' L' mv S g => ?_
        · rw [z1]
          exact fun z => (List.mem_cons.mp z).elim (Nat.ne_of_lt (Nat.lt_succ_self _)) fun z => Nat.ne_of_gt lS (List.mem_singleton.mp z)
        · rw [List.mem_singleton.mp hb, z1]
          exact none_at _ (Nat.le_succ _)
        · obtain ⟨h', g2, d2, tk, os2⟩ := s'
          obtain rfl : g2 = s.gens := mv.gens
          obtain rfl : d2 = s.drawn := mv.drawn
          obtain rfl : os2 = s.os := mv.os
          show wpAny _ _ _ _ _ _
          refine wpAny_pure ?_
          show wpAny _ _ (ret Value.none) _ _ _
          refine wpAny_pure ⟨rfl, h', tk, L', rfl, S, by rw [isz]; exact g, fun b o e => ?_⟩
          have lb := Heap.lt_size e
          refine mv.heap b o ?_ (Heap.get?_push_of_some _ (Heap.get?_push_of_some _ e))
          rw [z1]
          exact fun z => (List.mem_cons.mp z).elim (Nat.ne_of_lt lb) fun z => Nat.ne_of_lt (Nat.lt_succ_of_lt lb) (List.mem_singleton.mp z)
      · cases r2 with
        | error e => exact hr2
        | ok fl2 =>
          cases fl2 with
          | ret v =>
            obtain ⟨rfl, h', tk, L', rfl, S, g, k⟩ := hr2
            repeat (any_goals (first | assumption | wp_step))
            exact q _ _ _ S g k
          | _ => exact hr2.elim
    | _ => exact hr.elim

set_option maxHeartbeats 3200000 in
theorem set_of_tuple {l : Addr} {ks : List (Addr × K)} {Q : Value → Shared → Prop} (hh : A.handled = none) (hl : s.heap.IsTuple l (ks.map fun p => Value.ref p.1).toArray) (hx : ∀ p ∈ ks, m.kd.is s.heap p.2 p.1) (hb : ∀ L : List (Addr × K), (∀ p ∈ L, p ∈ ks) → (L.map Prod.snd).Nodup → L.length + 1 < 64)
    (rm : ∀ B : Around, B.units ≤ A.units + 8 → m.kd.room B)
    (q : ∀ h' tk L', Ms m h' s.heap.objs.size L' → Got1 ks L' ks.length → (∀ b o, s.heap.get? b = some o → h'.get? b = some o) → Q (.ref s.heap.objs.size) { s with heap := h', toks := tk }) :
    wpAny (model P w) A (call (.type "set") [.ref l]) Q E s := by
  have isz : ks.length = (ks.map fun p => Value.ref p.1).toArray.size := by rw [List.size_toArray, List.length_map]
  have its : ∀ (i : Nat) v, (ks.map fun p => Value.ref p.1).toArray[i]? = some v → ∃ p, ks[i]? = some p ∧ v = Value.ref p.1 := fun i v e => by
    rw [List.getElem?_toArray, List.getElem?_map] at e
    obtain ⟨p, h1, h2⟩ := Option.map_eq_some_iff.mp e
    exact ⟨p, h1, h2.symm⟩
  generalize (ks.map fun p => Value.ref p.1).toArray = items at hl isz its
  have ⟨_, _, hm⟩ := PySem.F.called_set.mro
  have made := PySem.F.called_set.made
  have below := PySem.F.called_set.sub
  have nt := PySem.F.called_set.notType
  have cc := PySem.F.called_set.canCreate
  have tc := F.typeCall_set_1 (.ref l)
  refine wpAny_call (codeAny_of_tree ?_)
  show wpAny _ _ (callAny (.type "set") _) _ _ _
  refine wpAny_pure ⟨Code.quiet_builtin _ (by decide +kernel), codeAny_builtin PySem.F.entry_type_call ?_⟩
  rw [Around.under_plain (weight_type_call_type "set" [.ref l] []) rfl]
  repeat (any_goals (first | assumption | wp_step))
  let nw : Obj := { cls := .type "set", dict := none, data := .set #[] 0 (.fresh 0 0 (!w.params.followText "set-order")) }
  refine codeAny_mono (L2.code_set_led1 (.ref l) (E := E) (Q₁ := fun v s1 => v = .ref s.heap.objs.size ∧ s1 = { s with heap := s.heap.push nw }) ⟨rfl, rfl⟩) fun r s1 hr => ?_
  cases r with
  | error e => exact hr
  | ok fl =>
    cases fl with
    | ret v =>
      obtain ⟨rfl, rfl⟩ := hr
      have at0 : (s.heap.push nw).get? s.heap.objs.size = some nw := Heap.get?_push_size _ rfl
      have ty : Shared.TypeIs { s with heap := s.heap.push nw } (.ref s.heap.objs.size) "set" := ⟨_, at0, rfl⟩
      have lk := PySem.F.called_set.init.lookup
      have bd := PySem.F.called_set.init.bind (.ref s.heap.objs.size)
      repeat (any_goals (first | assumption | wp_step))
      refine codeAny_mono (codeAny_call_builtin (R := wants (fun v s2 => v = .none ∧ ∃ h' tk L', s2 = { s with heap := h', toks := tk } ∧ Ms m h' s.heap.objs.size L' ∧ Got1 ks L' ks.length ∧ ∀ b o, s.heap.get? b = some o → h'.get? b = some o) E)
        PySem.F.called_set.init.plain PySem.F.entry_set_init (check_set_init_1 ty ?_)) fun r2 s2 hr2 => ?_
      · obtain ⟨⟨cls, dict, data, slots⟩, ol, cl, nl, dl⟩ := hl
        simp only at cl dl
        subst cl dl
        have ol1 : (s.heap.push nw).get? l = some { cls := .type "tuple", dict := dict, data := .seq items nl, slots := slots } := Heap.get?_push_of_some _ ol
        have n1 := PySem.F.sub_tuple_set
        have n2 := PySem.F.sub_tuple_frozenset
        have n3 : (Value.type "tuple" == Value.type "dict") = false := by decide
        have hl1 : (s.heap.push nw).IsTuple l items := ⟨_, ol1, rfl, nl, rfl⟩
        unfold Builtin.«set.__init__» noKeywords Builtin.Frozenset.updateFrom
        generalize it : pyIter = IT
        wp_walk
        subst it
        refine wpAny_pyIter_tuple hl1 ?_
        refine wpAny_bind (wpAny_runValue ?_)
        have lS : l < s.heap.objs.size := Heap.lt_size ol
        have z1 : (s.heap.push nw).objs.size = s.heap.objs.size + 1 := Heap.size_push ..
        have nI : l ≠ (s.heap.push nw).objs.size := by rw [z1]; exact Nat.ne_of_lt (Nat.lt_succ_of_lt lS)
        have none_at : ∀ b, s.heap.objs.size ≤ b → s.heap.get? b = none := fun b hb => by
          cases e : s.heap.get? b with
          | none => rfl
          | some o => exact absurd (Heap.lt_size e) (Nat.not_lt.mpr hb)
        refine mem_loop ((Walks.tuple (show A.in1.in1.in1.handled = none by simp [hh]) _ l nI items).toS) s.heap.objs.size ?_ ks isz hb (fun i v hv => its i v hv) s.heap hx (none_at _ (Nat.le_refl _)) (fun b hb => ?_) (rm _ (by show A.units + 1 + 1 + 1 ≤ A.units + 8; omega)) items.size 0 _ [] (by omega)
          ⟨⟨_, Heap.get?_push_size _ rfl, rfl, rfl⟩, hl1.push _⟩ (fun b o e => Heap.get?_push_of_some _ (Heap.get?_push_of_some _ e)) (ms_fresh (Heap.get?_push_of_some _ at0)) ⟨fun p hp => (nomatch hp), fun p hp => (by simp at hp), Nat.le_refl _⟩ fun s' L' mv S g => ?_
        · rw [z1]
          exact fun z => (List.mem_cons.mp z).elim (Nat.ne_of_lt (Nat.lt_succ_self _)) fun z => Nat.ne_of_gt lS (List.mem_singleton.mp z)
        · rw [List.mem_singleton.mp hb, z1]
          exact none_at _ (Nat.le_succ _)
        · obtain ⟨h', g2, d2, tk, os2⟩ := s'
          obtain rfl : g2 = s.gens := mv.gens
          obtain rfl : d2 = s.drawn := mv.drawn
          obtain rfl : os2 = s.os := mv.os
          show wpAny _ _ _ _ _ _
          refine wpAny_pure ?_
          show wpAny _ _ (ret Value.none) _ _ _
          refine wpAny_pure ⟨rfl, h', tk, L', rfl, S, by rw [isz]; exact g, fun b o e => ?_⟩
          have lb := Heap.lt_size e
          refine mv.heap b o ?_ (Heap.get?_push_of_some _ (Heap.get?_push_of_some _ e))
          rw [z1]
          exact fun z => (List.mem_cons.mp z).elim (Nat.ne_of_lt lb) fun z => Nat.ne_of_lt (Nat.lt_succ_of_lt lb) (List.mem_singleton.mp z)
      · cases r2 with
        | error e => exact hr2
        | ok fl2 =>
          cases fl2 with
          | ret v =>
            obtain ⟨rfl, h', tk, L', rfl, S, g, k⟩ := hr2
            repeat (any_goals (first | assumption | wp_step))
            exact q _ _ _ S g k
          | _ => exact hr2.elim
    | _ => exact hr.elim
end
end MP

set_option Elab.async false
set_option linter.all false
set_option maxRecDepth 100000
namespace MP
open PySem PySem.Spec PyProof.Rows L2
/-! Flat tuples of ints and texts: as members of sets, as things that are sorted. -/
abbrev It1 := Int ⊕ List Nat
/-- what the values are -/
inductive Flats : List It1 → List Value → Prop
  | nil : Flats [] []
  | int {i : Int} {t : Tok} {l : List It1} {vs : List Value} : Flats l vs → Flats (.inl i :: l) (.int i t :: vs)
  | str {x : Str} {t : Tok} {l : List It1} {vs : List Value} : Flats l vs → Flats (.inr x.cps.toList :: l) (.str x t :: vs)
theorem Flats.inj : ∀ {a b : List It1} {vs : List Value}, Flats a vs → Flats b vs → a = b
  | _, _, _, .nil, .nil => rfl
  | _, _, _, .int h, .int g => by rw [h.inj g]
  | _, _, _, .str h, .str g => by rw [h.inj g]
def leafOf : It1 → Leaf
  | .inl i => .num i
  | .inr s => .text ⟨s.toArray⟩
theorem leafOf_inj : ∀ {a b : It1}, leafOf a = leafOf b → a = b
  | .inl i, .inl j, h => by cases h; rfl
  | .inr s, .inr t, h => by
    have h' : (Leaf.text ⟨s.toArray⟩) = Leaf.text ⟨t.toArray⟩ := h
    injection h' with h1
    injection h1 with h2
    exact congrArg Sum.inr (by simpa using congrArg Array.toList h2)
  | .inl i, .inr s, h => by cases h
  | .inr s, .inl i, h => by cases h
theorem leafs_inj {a b : List It1} (h : a.map leafOf = b.map leafOf) : a = b := by
  have := List.map_inj_right (f := leafOf) (l := a) (l' := b) (fun x y e => leafOf_inj e)
  exact this.mp h
theorem Flats.items {P : Program} {w : World} : ∀ {l : List It1} {vs : List Value}, Flats l vs → ItemsAre (leafKind P w) (l.map leafOf) vs
  | _, _, .nil => .nil
  | _, _, .int h => .cons (leaf_int _ _) h.items
  | _, _, .str (x := x) h => .cons (show (leafKind P w).is (.text ⟨x.cps.toList.toArray⟩) _ = true by rw [Array.toArray_toList]; exact leaf_str _ _) h.items
/-- at a stands the tuple of these -/
def TupF (h : Heap) (l : List It1) (a : Addr) : Prop := ∃ o vs n, h.get? a = some o ∧ o.cls = .type "tuple" ∧ o.data = .seq vs n ∧ Flats l vs.toList
theorem TupF.stay {h h' : Heap} {l : List It1} {a : Addr} (x : TupF h l a) (k : ∀ o, h.get? a = some o → h'.get? a = some o) : TupF h' l a := by
  obtain ⟨o, vs, n, e, r⟩ := x
  exact ⟨o, vs, n, k o e, r⟩
theorem TupF.key {P : Program} {w : World} {h : Heap} {l : List It1} {a : Addr} (x : TupF h l a) : IsTupleKey (leafKind P w) h (l.map leafOf) a := by
  obtain ⟨o, vs, n, e, c, d, f⟩ := x
  exact ⟨o, vs, n, e, c, d, f.items⟩
theorem TupF.inj {h : Heap} {l l' : List It1} {a : Addr} (x : TupF h l a) (y : TupF h l' a) : l = l' := by
  obtain ⟨o, vs, n, e, c, d, f⟩ := x
  obtain ⟨o', vs', n', e', c', d', f'⟩ := y
  rw [e] at e'
  cases e'
  rw [d] at d'
  cases d'
  exact f.inj f'
/-- ints and texts are of no class statement, and hash by value -/
theorem flats_val : ∀ {l : List It1} {vs : List Value}, Flats l vs → ∀ v ∈ vs, (∀ n, ofAClassStatement n v = pure false) ∧ ∀ n, ∃ b, hashByValue n v = pure b
  | _, _, .nil, v, h => by cases h
  | _, _, .int f, v, h => by
    rcases List.mem_cons.mp h with rfl | h
    · exact ⟨fun n => by cases n <;> rfl, fun n => ⟨true, by cases n <;> rfl⟩⟩
    · exact flats_val f v h
  | _, _, .str f, v, h => by
    rcases List.mem_cons.mp h with rfl | h
    · exact ⟨fun n => by cases n <;> rfl, fun n => ⟨_, hashByValue_scannable n rfl⟩⟩
    · exact flats_val f v h
section
variable {P : Program} {w : World} {A : Around} {E : Value → Shared → Prop} {s : Shared}
theorem tupf_ofc {l : List It1} {a : Addr} {Q : Bool → Shared → Prop} (x : TupF s.heap l a) (q : Q false s) : wpAny (model P w) A (ofAClassStatement 8 (.ref a)) Q E s := by
  obtain ⟨o, vs, n, ho, hc, hd, f⟩ := x
  have ty : s.TypeIs (.ref a) "tuple" := ⟨o, ho, hc⟩
  unfold ofAClassStatement
  refine wpAny_bind (wpAny_typeOf ty ?_)
  dsimp only
  have e : (("tuple" : String) == "tuple") = true := by decide
  simp only [e, if_true, Bool.not_true, Bool.false_eq_true, if_false]
  try refine wpAny_bind (wpAny_pure ?_)
  try simp only [Bool.not_true, Bool.false_eq_true, if_false]
  show wpAny _ _ (seqItems? (.ref a) >>= _) _ _ s
  refine wpAny_bind (wpAny_seqItems ho hd ?_)
  dsimp only
  refine wpAny_bind ?_
  show wpAny _ _ (forIn vs _ _) _ _ s
  rw [← Array.forIn_toList]
  refine wpAny_forIn_list _ (fun rest r s' => s' = s ∧ r.1 = none ∧ ∀ v ∈ rest, ofAClassStatement 7 v = pure false) _ ?_ ?_ _ _ ⟨rfl, rfl, fun v hv => (flats_val f v hv).1 7⟩
  · rintro v rest r s' ⟨rfl, e, all⟩
    rw [all v List.mem_cons_self]
    refine wpAny_bind (wpAny_pure (wp_if_neg (by decide) ?_))
    exact wpAny_pure ⟨rfl, rfl, fun u hu => all u (List.mem_cons_of_mem _ hu)⟩
  · rintro ⟨r1, r2⟩ s' ⟨rfl, e, _⟩
    dsimp only at e
    subst e
    exact wpAny_pure q
theorem tupf_byv {l : List It1} {a : Addr} {Q : Bool → Shared → Prop} (x : TupF s.heap l a) (q : ∀ b, Q b s) : wpAny (model P w) A (hashByValue 8 (.ref a)) Q E s := by
  obtain ⟨o, vs, n, ho, hc, hd, f⟩ := x
  have ty : s.TypeIs (.ref a) "tuple" := ⟨o, ho, hc⟩
  unfold hashByValue
  refine wpAny_bind (wpAny_specialOf ty F.slot_tuple_hash.lookup ?_)
  show wpAny _ _ (seqItems? (.ref a) >>= _) _ _ s
  refine wpAny_bind (wpAny_seqItems ho hd (wpAny_bind ?_))
  show wpAny _ _ (forIn vs _ _) _ _ s
  rw [← Array.forIn_toList]
  refine wpAny_forIn_list _ (fun rest r s' => s' = s ∧ r.1 = none ∧ ∀ v ∈ rest, ∃ b, hashByValue 7 v = pure b) _ ?_ ?_ _ _ ⟨rfl, rfl, fun v hv => (flats_val f v hv).2 7⟩
  · rintro v rest r s' ⟨rfl, e, all⟩
    obtain ⟨b, hb⟩ := all v List.mem_cons_self
    rw [hb]
    refine wpAny_bind (wpAny_pure ?_)
    cases b
    · refine wp_if_pos (by decide) (wpAny_pure ?_)
      exact wpAny_pure (q _)
    · refine wp_if_neg (by decide) ?_
      exact wpAny_pure ⟨rfl, rfl, fun u hu => all u (List.mem_cons_of_mem _ hu)⟩
  · rintro ⟨r1, r2⟩ s' ⟨rfl, e, _⟩
    dsimp only at e
    subst e
    exact wpAny_pure (q _)
end
/-- a set's members: they hash as flat tuples do -/
def hkF (P : Program) (w : World) : HeapKind P w (List It1) where
  is := TupF
  hash := fun l => tupleKeyHash (leafKind P w) (l.map leafOf)
  draws := fun l => l.length + 1
  room := fun A => A.units < cLine
  inj := fun x y => x.inj y
  keeps := fun {h h' k a d o es ep} x ho hd hs => x.stay fun o' e => by
    have ne : a ≠ d := by
      rintro rfl
      obtain ⟨o2, vs, n, e2, _, d2, _⟩ := x
      rw [ho] at e2
      cases e2
      rw [hd] at d2
      cases d2
    exact (hs.2 a ne).trans e
  pyHash := fun {A E s k a Q} hu x h => by
    have q := (tupleKind (leafKind P w)).pyHash (A := A) (E := E) (s := s) (k := k.map leafOf) (a := a) (Q := Q) hu x.key
    refine q ?_
    show Q _ { s with toks := s.toks + ((k.map leafOf).length + 1) }
    rw [List.length_map]
    exact h
  eqBool := fun {A E s x y a b Q} hu hx hy h => by
    refine (tupleKind (leafKind P w)).eqBool (A := A) (E := E) (s := s) (x := x.map leafOf) (y := y.map leafOf) hu hx.key hy.key ?_
    have e : decide (x.map leafOf = y.map leafOf) = decide (x = y) := by
      by_cases c : x = y
      · simp [c]
      · have : ¬ x.map leafOf = y.map leafOf := fun z => c (leafs_inj z)
        simp [c, this]
    rw [e]
    exact h
  quiet := fun {A E s k a Q} x h => (tupleKind (leafKind P w)).quiet (A := A) (E := E) (s := s) (k := k.map leafOf) x.key h
def mF (P : Program) (w : World) : Mem P w (List It1) where
  kd := hkF P w
  stay := fun x k => TupF.stay x k
  seq := fun x => by
    obtain ⟨o, vs, n, e, _, d, _⟩ := x
    exact ⟨o, vs, n, e, d⟩
  ofc := fun x q => tupf_ofc x q
  byv := fun x q => tupf_byv x q
end MP

set_option Elab.async false
set_option linter.all false
set_option maxRecDepth 100000
namespace MP
open PySem PySem.Spec PyProof.Rows PySem.W L2
/-! Flat tuples sorted. -/
open Classical in
/-- the items of a tuple that stands at v, if they are among S -/
noncomputable def keyF (h : Heap) (S : List (List It1)) (v : Value) : Option (List It1) :=
  if q : ∃ l, (∃ a, v = Value.ref a ∧ TupF h l a) ∧ l ∈ S then some q.choose else none
theorem keyF_of {h : Heap} {S : List (List It1)} {l : List It1} {a : Addr} (x : TupF h l a) (m : l ∈ S) : keyF h S (.ref a) = some l := by
  have q : ∃ l, (∃ b, Value.ref a = Value.ref b ∧ TupF h l b) ∧ l ∈ S := ⟨l, ⟨a, rfl, x⟩, m⟩
  unfold keyF
  rw [dif_pos q]
  obtain ⟨⟨b, e, y⟩, _⟩ := q.choose_spec
  cases e
  exact congrArg some (y.inj x)
theorem keyF_some {h : Heap} {S : List (List It1)} {l : List It1} {v : Value} (e : keyF h S v = some l) : ∃ a, v = .ref a ∧ TupF h l a ∧ l ∈ S := by
  unfold keyF at e
  split at e
  · rename_i q
    cases e
    obtain ⟨⟨a, e, x⟩, m⟩ := q.choose_spec
    exact ⟨a, e, x, m⟩
  · cases e
noncomputable def kF (h : Heap) (S : List (List It1)) : PyProof.Rows.KeyKind where
  toKeyOrd := listOrd itemOrd
  keyOf := keyF h S
  dflt := []
/-- of the same kinds up to the first difference -/
def cmpK : List It1 → List It1 → Bool
  | .inl i :: r, .inl j :: t => if i = j then cmpK r t else true
  | .inr i :: r, .inr j :: t => if i = j then cmpK r t else true
  | [], _ => true
  | _, [] => true
  | _, _ => false
section
variable {prog : Program} {w : World} {A : Around} {E : Value → Shared → Prop} {s : Shared}
theorem flats_lex {b fin : Bool} {Q : Bool → Shared → Prop} : ∀ (as bs : List It1) (ps qs : List Value) (i : Nat), Flats as ps → Flats bs qs → cmpK as bs = true → fin = decide (ps.length < qs.length) → Q (lexLt itemOrd as bs) s →
    KatLex prog w A b fin Q (ps.zip qs) i s
  | [], [], _, _, _, .nil, .nil, _, e, h => by
    obtain rfl : fin = false := e
    exact kat_nil h
  | [], _ :: _, _, _, _, .nil, .int _, _, e, h => by
    obtain rfl : fin = true := e.trans (by simp)
    exact kat_nil h
  | [], _ :: _, _, _, _, .nil, .str _, _, e, h => by
    obtain rfl : fin = true := e.trans (by simp)
    exact kat_nil h
  | _ :: _, [], _, _, _, .int _, .nil, _, e, h => by
    obtain rfl : fin = false := e.trans (by simp)
    exact kat_nil h
  | _ :: _, [], _, _, _, .str _, .nil, _, e, h => by
    obtain rfl : fin = false := e.trans (by simp)
    exact kat_nil h
  | _ :: as, _ :: bs, _, _, i, .int (i := m) f, .int (i := n) g, c, e, h => by
    have e' : fin = _ := e
    rw [List.length_cons, List.length_cons] at e'
    refine kat_cons (wpAny_eqBool_int (kat_go (fun q => kat_yes ?_) (fun q => kat_no ?_)))
    · obtain rfl : m = n := by simpa using q
      rw [lex_self] at h
      have c' : (if m = m then cmpK as bs else true) = true := c
      rw [if_pos rfl] at c'
      exact flats_lex as bs _ _ (i + 1) f g c' (e'.trans (by simp)) h
    · have ne : ¬ m = n := by simpa using q
      rw [lex_diff fun z => ne (Sum.inl.inj z)] at h
      exact oneLt_any_int h
  | _ :: as, _ :: bs, _, _, i, .str (x := x) f, .str (x := y) g, c, e, h => by
    have e' : fin = _ := e
    rw [List.length_cons, List.length_cons] at e'
    refine kat_cons (wpAny_eqBool_str (kat_go (fun q => kat_yes ?_) (fun q => kat_no ?_)))
    · obtain rfl : x = y := of_decide_eq_true q
      rw [lex_self] at h
      have c' : (if x.cps.toList = x.cps.toList then cmpK as bs else true) = true := c
      rw [if_pos rfl] at c'
      exact flats_lex as bs _ _ (i + 1) f g c' (e'.trans (by simp)) h
    · have ne : ¬ x = y := of_decide_eq_false q
      have ne2 : x.cps.toList ≠ y.cps.toList := fun z => ne (by
        have z2 : x.cps = y.cps := Array.toList_inj.mp z
        cases x
        cases y
        exact congrArg _ z2)
      rw [lex_diff fun z => ne2 (Sum.inr.inj z)] at h
      exact oneLt_any_str h
  | _ :: as, _ :: bs, _, _, i, .int f, .str g, c, e, h => by cases c
  | _ :: as, _ :: bs, _, _, i, .str f, .int g, c, e, h => by cases c
theorem TupF.keeps {h h' : Heap} {l : List It1} {a : Addr} (x : TupF h l a) (k : G.KeepsTups h h') : TupF h' l a := by
  obtain ⟨o, vs, n, e, c, r⟩ := x
  exact ⟨o, vs, n, k a o e c, c, r⟩
theorem flat_ltAt {h : Heap} {S : List (List It1)} (k : G.KeepsTups h s.heap) (cm : ∀ a ∈ S, ∀ b ∈ S, cmpK a b = true) (bb : Bool) : G.LtAt prog w s (kF h S) (tuples' bb) := by
  intro A E x y as bs Q hx hy q
  obtain ⟨a1, rfl, x1, m1⟩ := keyF_some hx
  obtain ⟨a2, rfl, x2, m2⟩ := keyF_some hy
  obtain ⟨o1, v1, n1, e1, c1, d1, f1⟩ := x1.keeps k
  obtain ⟨o2, v2, n2, e2, c2, d2, f2⟩ := x2.keeps k
  exact kat_lt e1 d1 e2 d2 (flats_lex as bs v1.toList v2.toList 0 f1 f2 (cm _ m1 _ m2) (by rw [Array.length_toList, Array.length_toList]) q)
/-- the values are tuples of items among S -/
def Among (h : Heap) (S : List (List It1)) (vs : List Value) : Prop := ∀ v ∈ vs, ∃ l a, v = Value.ref a ∧ TupF h l a ∧ l ∈ S
theorem one_kind {S : List (List It1)} (ne : ∀ l ∈ S, l ≠ []) (cm : ∀ a ∈ S, ∀ b ∈ S, cmpK a b = true) : ∃ b : Bool, ∀ l ∈ S, ∃ x r, l = x :: r ∧ x.isRight = b := by
  cases S with
  | nil => exact ⟨true, fun l h => nomatch h⟩
  | cons l0 S =>
    have h0 := ne l0 List.mem_cons_self
    cases l0 with
    | nil => exact absurd rfl h0
    | cons x0 r0 =>
      refine ⟨x0.isRight, fun l hl => ?_⟩
      have c := cm _ List.mem_cons_self l hl
      have n := ne l hl
      cases l with
      | nil => exact absurd rfl n
      | cons x r =>
        refine ⟨x, r, rfl, ?_⟩
        cases x0 <;> cases x <;> first | rfl | cases c
theorem tups_of {h : Heap} {S : List (List It1)} {b : Bool} (kd : ∀ l ∈ S, ∃ x r, l = x :: r ∧ x.isRight = b) : ∀ vs : List Value, Among h S vs → ∃ fs, TupsOf h (fun _ => b) vs fs
  | [], _ => ⟨[], .nil⟩
  | v :: vs, hv => by
    obtain ⟨fs, hf⟩ := tups_of kd vs fun u hu => hv u (List.mem_cons_of_mem _ hu)
    obtain ⟨l, a, rfl, ⟨o, ws, n, e, c, d, f⟩, m⟩ := hv v List.mem_cons_self
    obtain ⟨x, r, rfl, k⟩ := kd l m
    have first : ∃ g, ws[0]? = some g ∧ (b = false → ∃ k t, g = Value.int k t) ∧ (b = true → ∃ x t, g = Value.str x t) := by
      rw [← Array.getElem?_toList]
      generalize ws.toList = wl at f
      cases f with
      | int f => exact ⟨_, rfl, fun _ => ⟨_, _, rfl⟩, fun z => (by subst z; cases k)⟩
      | str f => exact ⟨_, rfl, fun z => (by subst z; cases k), fun _ => ⟨_, _, rfl⟩⟩
    obtain ⟨g, g1, g2, g3⟩ := first
    exact ⟨g :: fs, .cons ⟨a, o, ws, n, rfl, e, c, d, g1, g2, g3⟩ hf⟩
/-- ascending, as the items tell -/
def AscF (h : Heap) (S : List (List It1)) (vs : List Value) : Prop := vs.Pairwise fun u v => ∀ a b, keyF h S u = some a → keyF h S v = some b → lexLt itemOrd b a = false
theorem out_asc {h : Heap} {S : List (List It1)} {vs : List Value} {arr : Array Keyed} (hp : arr.Perm (pairsOf vs)) (hs : SortedToK (kF h S) arr (pairsOf vs).size) :
    (arr.map (·.2)).toList.Perm vs ∧ AscF h S (arr.map (·.2)).toList := by
  have hl : arr.toList.Perm (vs.zip vs) := by rw [← pairsOf_toList]; exact Array.perm_iff_toList_perm.mp hp
  have same : ∀ p ∈ arr.toList, p.1 = p.2 := fun p hp' => (mem_zip_self (hl.mem_iff.mp hp')).1
  have e : (arr.map (·.2)).toList = arr.toList.map (·.2) := Array.toList_map
  refine ⟨?_, ?_⟩
  · rw [e]
    have q := hl.map Prod.snd
    rwa [List.map_snd_zip (Nat.le_refl _)] at q
  · unfold AscF
    rw [e, List.pairwise_map, List.pairwise_iff_getElem]
    intro i j hi hj hij a b ha hb
    have sz : arr.toList.length = (pairsOf vs).size := by rw [Array.length_toList, hp.size_eq]
    have q := hs i j (Nat.le_of_lt hij) (by rw [← sz]; exact hj)
    have at' : ∀ (k : Nat) (hk : k < arr.toList.length) c, keyF h S (arr.toList[k]).2 = some c → KK (kF h S) arr k = c := fun k hk c hc => by
      unfold KK
      have ek : arr[k]? = some arr.toList[k] := by rw [← Array.getElem?_toList, List.getElem?_eq_getElem hk]
      rw [ek]
      show (keyF h S (arr.toList[k]).1).getD [] = c
      rw [same _ (List.getElem_mem hk), hc]
      rfl
    rw [at' i hi a ha, at' j hj b hb] at q
    exact q
theorem keys_of {h : Heap} {S : List (List It1)} {vs : List Value} (hv : Among h S vs) : KeysOf (kF h S) (pairsOf vs) := fun p hp => by
  rw [pairsOf_toList] at hp
  obtain ⟨_, m⟩ := mem_zip_self hp
  obtain ⟨l, a, e, x, k⟩ := hv _ m
  exact ⟨l, by rw [e]; exact keyF_of x k⟩
theorem sort_flats {a : Addr} {vs : List Value} {n : Nat} {S : List (List It1)} {R : Fin → Shared → Prop} (ho : s.heap.get? a = some (seqObj "list" vs.toArray n)) (hv : Among s.heap S vs) (ne : ∀ l ∈ S, l ≠ [])
    (cm : ∀ a ∈ S, ∀ b ∈ S, cmpK a b = true) (hL : vs.length ≤ sizeLine)
    (h : ∀ out : Array Value, out.toList.Perm vs → AscF s.heap S out.toList → R (.done (.ret .none)) { s with heap := sortedHeap s.heap a vs out }) :
    wpAny (model prog w) A (Builtin.«list.sort» ⟨[.ref a], []⟩) R E s := by
  obtain ⟨b, kd⟩ := one_kind ne cm
  obtain ⟨fs, ht⟩ := tups_of kd vs hv
  have k6 := G.keeps_sort6 (vs := vs) ho
  refine G.list_sort_treeG (κ := kF s.heap S) (kd := tuples' true) ho (keys_of hv) (flat_ltAt (s := { s with heap := G.sortHeap6 s.heap a vs }) k6 cm true)
    (fun h2 _ hq => tup_kind (s := { s with heap := G.sortHeap6 s.heap a vs }) (by rw [G.TupsOf.length ht]; omega) (G.TupsOf.keep k6 ht) hq) hL fun st' a1 a2 _ => ?_
  obtain ⟨p, q⟩ := out_asc a1 a2
  exact h _ p q
theorem sorted_flats {l : Addr} {vs : List Value} {S : List (List It1)} {Q : Value → Shared → Prop} (hl : s.heap.IsList l vs.toArray) (hv : Among s.heap S vs) (ne : ∀ l ∈ S, l ≠ [])
    (cm : ∀ a ∈ S, ∀ b ∈ S, cmpK a b = true) (hL : vs.length ≤ sizeLine)
    (h : ∀ out : Array Value, out.toList.Perm vs → AscF s.heap S out.toList → Q (.ref (s.heap.objs.size + 1)) { s with heap := sortedAll s.heap vs out }) :
    wpAny (model prog w) A (call (.builtin "sorted") [.ref l]) Q E s := by
  obtain ⟨b, kd⟩ := one_kind ne cm
  obtain ⟨fs, ht⟩ := tups_of kd vs hv
  refine G.sortedG (κ := kF s.heap S) (kd := tuples' true) hl (keys_of hv) (fun s₂ k => flat_ltAt (s := s₂) k cm true)
    (fun h2 _ _ s₂ _ k hq => tup_kind (s := s₂) (by rw [G.TupsOf.length ht]; omega) (G.TupsOf.keep k ht) hq) hL fun st' a1 a2 _ => ?_
  obtain ⟨p, q⟩ := out_asc a1 a2
  exact h _ p q
theorem among_mono {h h' : Heap} {S : List (List It1)} {vs : List Value} (k : ∀ b o, h.get? b = some o → h'.get? b = some o) (hv : Among h S vs) : Among h' S vs := fun v m => by
  obtain ⟨l, a, e, x, q⟩ := hv v m
  exact ⟨l, a, e, x.stay fun o z => k a o z, q⟩
/-- sorted of a set of flat tuples -/
theorem sorted_ms {a : Addr} {L : List (Addr × List It1)} {S : List (List It1)} {Q : Value → Shared → Prop} (hh : A.handled = none) (T : Ms (mF prog w) s.heap a L) (hS : ∀ p ∈ L, p.2 ∈ S) (ne : ∀ l ∈ S, l ≠ [])
    (cm : ∀ a ∈ S, ∀ b ∈ S, cmpK a b = true)
    (q : ∀ s' p out c, (∀ b o, s.heap.get? b = some o → s'.heap.get? b = some o) → s'.gens = s.gens → s'.os = s.os → s.heap.objs.size ≤ p → s'.heap.get? p = some (seqObj "list" out c) →
      out.toList.Perm (L.map fun p => Value.ref p.1) → AscF s'.heap S out.toList → Q (.ref p) s') :
    wpAny (model prog w) A (call (.builtin "sorted") [.ref a]) Q E s := by
  obtain ⟨o, es, ep, t, ho, hex, hd, R, mem⟩ := T
  have sz := rows_len R.rows
  have few := R.few
  have es1 : es.size < scanBound := by rw [sz]; unfold scanBound; omega
  refine Calls.call_function_entry kind_sorted plain_sorted entry_sorted (args_sorted1 _) ?_
  unfold Builtin.«sorted»
  refine wpAny_bind (m := checkCount "sorted" 1 1 _) (wpAny_pure (wpAny_bind (L2.collect_set (A := A.in1) hh ⟨o, ho, hex.1, hd⟩ R.fits es1 R.tab.ris R.led fun s1 vs k1 z1 g1 o1 pm => ?_)))
  have pm' : vs.Perm (L.map fun p => Value.ref p.1) := by
    rw [R.rows, List.map_map] at pm
    exact pm
  have hv : Among s1.heap S vs := fun v m => by
    obtain ⟨p, hp, rfl⟩ := List.mem_map.mp (pm'.mem_iff.mp m)
    exact ⟨p.2, p.1, rfl, (show TupF s.heap p.2 p.1 from mem p hp).stay fun o e => k1 _ o e, hS p hp⟩
  have len : vs.length ≤ sizeLine := by rw [pm'.length_eq, List.length_map, sizeLine_eq]; omega
  refine wpAny_bind (wpAny_newList ?_ len)
  have ol : (s1.heap.push (seqObj "list" vs.toArray 0)).get? s1.heap.objs.size = some (seqObj "list" vs.toArray 0) := Heap.get?_push_size _ rfl
  refine wpAny_bind (wpAny_holding (wpAny_call_entry slot_list_sort ⟨_, ol, rfl⟩ entry_list_sort (sort_flats (S := S) ol (among_mono (fun b o e => Heap.get?_push_of_some _ e) hv) ne cm len fun out hp ha => ⟨_, rfl, ?_⟩) (args_list_sort _)))
  obtain ⟨c, hc⟩ := sortedHeap_at (vs := vs) (out := out) ol
  have old : ∀ b u, s1.heap.get? b = some u → (sortedHeap (s1.heap.push (seqObj "list" vs.toArray 0)) s1.heap.objs.size vs out).get? b = some u := fun b u e => by
    have lt := Heap.lt_size e
    rw [sortedHeap_old (Nat.ne_of_lt lt) (by rw [size_push']; exact Nat.lt_succ_of_lt lt)]
    exact Heap.get?_push_of_some _ e
  refine wpAny_pure ⟨_, rfl, q _ s1.heap.objs.size out c (fun b u e => old b u (k1 b u e)) g1 o1 z1 hc (hp.trans pm') ?_⟩
  refine List.Pairwise.imp_of_mem (fun {u v} hu hv' z a b ha hb => ?_) ha
  obtain ⟨a1, rfl, x1, m1⟩ := keyF_some ha
  obtain ⟨a2, rfl, x2, m2⟩ := keyF_some hb
  obtain ⟨l1, a1', e1, y1, n1⟩ := hv _ (hp.mem_iff.mp hu)
  cases e1
  obtain ⟨l2, a2', e2, y2, n2⟩ := hv _ (hp.mem_iff.mp hv')
  cases e2
  have w1 : TupF (s1.heap.push (seqObj "list" vs.toArray 0)) l1 a1 := y1.stay fun o e => Heap.get?_push_of_some _ e
  have w2 : TupF (s1.heap.push (seqObj "list" vs.toArray 0)) l2 a2 := y2.stay fun o e => Heap.get?_push_of_some _ e
  obtain rfl : l1 = a := (y1.stay fun o e => old _ o e).inj x1
  obtain rfl : l2 = b := (y2.stay fun o e => old _ o e).inj x2
  exact z _ _ (keyF_of w1 n1) (keyF_of w2 n2)
end
end MP

set_option Elab.async false
set_option linter.all false
set_option maxRecDepth 100000
namespace MP
open PySem PySem.Spec PyProof.Rows PySem.W L2
/-! Flat tuples: the data, and the two rules. -/
def dOf : It1 → D
  | .inl i => .int i
  | .inr s => .str s
def dT (l : List It1) : D := .tup (l.map dOf)
theorem flatI_of : ∀ {d : D}, flatI d = true → ∃ x, d = dOf x
  | .int i, _ => ⟨.inl i, rfl⟩
  | .str s, _ => ⟨.inr s, rfl⟩
theorem flats_map : ∀ {ds : List D}, ds.all flatI = true → ∃ l : List It1, ds = l.map dOf
  | [], _ => ⟨[], rfl⟩
  | d :: ds, h => by
    rw [List.all_cons, Bool.and_eq_true] at h
    obtain ⟨x, rfl⟩ := flatI_of h.1
    obtain ⟨l, rfl⟩ := flats_map h.2
    exact ⟨x :: l, rfl⟩
theorem cmpI_map : ∀ a b : List It1, cmpI (a.map dOf) (b.map dOf) = cmpK a b
  | [], [] => rfl
  | [], .inl _ :: _ => rfl
  | [], .inr _ :: _ => rfl
  | .inl _ :: _, [] => rfl
  | .inr _ :: _, [] => rfl
  | .inl i :: r, .inl j :: t => by
    show (if i == j then cmpI (r.map dOf) (t.map dOf) else true) = if i = j then cmpK r t else true
    rw [cmpI_map r t]
    by_cases h : i = j <;> simp [h]
  | .inr i :: r, .inr j :: t => by
    show (if i == j then cmpI (r.map dOf) (t.map dOf) else true) = if i = j then cmpK r t else true
    rw [cmpI_map r t]
    by_cases h : i = j <;> simp [h]
  | .inl _ :: _, .inr _ :: _ => rfl
  | .inr _ :: _, .inl _ :: _ => rfl
theorem tupT_map : ∀ {xs : List D}, xs.all tupT = true → ∃ ts : List (List It1), xs = ts.map dT ∧ ∀ l ∈ ts, l ≠ []
  | [], _ => ⟨[], rfl, fun l h => nomatch h⟩
  | d :: xs, h => by
    rw [List.all_cons, Bool.and_eq_true] at h
    obtain ⟨ts, rfl, ne⟩ := tupT_map h.2
    have h1 := h.1
    unfold tupT at h1
    split at h1
    · rename_i x r
      rw [Bool.and_eq_true] at h1
      obtain ⟨y, rfl⟩ := flatI_of h1.1
      obtain ⟨l, rfl⟩ := flats_map h1.2
      refine ⟨(y :: l) :: ts, rfl, fun z hz => ?_⟩
      rcases List.mem_cons.mp hz with rfl | hz
      · exact List.cons_ne_nil _ _
      · exact ne z hz
    · cases h1
theorem allT_map {xs : List D} (h : allT xs = true) : ∃ ts : List (List It1), xs = ts.map dT ∧ (∀ l ∈ ts, l ≠ []) ∧ ∀ a ∈ ts, ∀ b ∈ ts, cmpK a b = true := by
  unfold allT at h
  rw [Bool.and_eq_true] at h
  obtain ⟨ts, rfl, ne⟩ := tupT_map h.1
  refine ⟨ts, rfl, ne, fun a ha b hb => ?_⟩
  have q := List.all_eq_true.mp (List.all_eq_true.mp h.2 (dT a) (List.mem_map.mpr ⟨a, ha, rfl⟩)) (dT b) (List.mem_map.mpr ⟨b, hb, rfl⟩)
  exact (cmpI_map a b).symm.trans q
theorem ltI_map : ∀ x y : It1, ltI (dOf x) (dOf y) = itemLt x y
  | .inl _, .inl _ => rfl
  | .inr _, .inl _ => rfl
  | .inl _, .inr _ => rfl
  | .inr a, .inr b => ltS_eq a b
theorem ltT_map : ∀ a b : List It1, ltT (a.map dOf) (b.map dOf) = lexLt itemOrd a b
  | [], [] => rfl
  | [], _ :: _ => rfl
  | _ :: _, [] => rfl
  | x :: r, y :: t => by
    show (ltI (dOf x) (dOf y) || (!ltI (dOf y) (dOf x) && ltT (r.map dOf) (t.map dOf))) = _
    rw [ltI_map, ltI_map, ltT_map r t, lex_cons]
theorem ltD_dT (a b : List It1) : ltD (dT a) (dT b) = lexLt itemOrd a b := ltT_map a b
def insK (x : List It1) : List (List It1) → List (List It1)
  | [] => [x]
  | y :: ys => if lexLt itemOrd y x then y :: insK x ys else x :: y :: ys
def sortK : List (List It1) → List (List It1)
  | [] => []
  | x :: xs => insK x (sortK xs)
theorem ins_dT (x : List It1) : ∀ ts : List (List It1), ins (dT x) (ts.map dT) = (insK x ts).map dT
  | [] => rfl
  | y :: ys => by
    show (if ltD (dT y) (dT x) then dT y :: ins (dT x) (ys.map dT) else _) = _
    unfold insK
    rw [ins_dT x ys, ltD_dT]
    cases lexLt itemOrd y x <;> rfl
theorem isort_dT : ∀ ts : List (List It1), isort (ts.map dT) = (sortK ts).map dT
  | [] => rfl
  | x :: xs => by
    show ins (dT x) (isort (xs.map dT)) = _
    rw [isort_dT xs, ins_dT]
    rfl
theorem insK_perm (x : List It1) : ∀ ts, (insK x ts).Perm (x :: ts)
  | [] => .refl _
  | y :: ys => by
    unfold insK
    split
    · exact ((insK_perm x ys).cons y).trans (.swap x y ys)
    · exact .refl _
theorem sortK_perm : ∀ ts, (sortK ts).Perm ts
  | [] => .refl _
  | x :: xs => (insK_perm x _).trans ((sortK_perm xs).cons x)
abbrev leK (a b : List It1) : Prop := (listOrd itemOrd).kle a b
theorem insK_sorted (x : List It1) : ∀ ts : List (List It1), ts.Pairwise leK → (insK x ts).Pairwise leK
  | [], _ => List.pairwise_singleton _ _
  | y :: ys, h => by
    obtain ⟨h1, h2⟩ := List.pairwise_cons.mp h
    unfold insK
    by_cases hl : lexLt itemOrd y x = true
    · rw [if_pos hl]
      refine List.pairwise_cons.mpr ⟨fun z hz => ?_, insK_sorted x ys h2⟩
      rcases List.mem_cons.mp ((insK_perm x ys).mem_iff.mp hz) with rfl | hz
      · exact KeyOrd.kle_of_klt (O := listOrd itemOrd) hl
      · exact h1 z hz
    · rw [if_neg hl]
      have xy : leK x y := KeyOrd.kle_of_not_klt (O := listOrd itemOrd) hl
      refine List.pairwise_cons.mpr ⟨fun z hz => ?_, h⟩
      rcases List.mem_cons.mp hz with rfl | hz
      · exact xy
      · exact KeyOrd.kle_trans (O := listOrd itemOrd) xy (h1 z hz)
theorem sortK_sorted : ∀ ts : List (List It1), (sortK ts).Pairwise leK
  | [] => .nil
  | x :: xs => insK_sorted x _ (sortK_sorted xs)
theorem sortK_uniq {a b : List (List It1)} (hp : a.Perm b) (ha : a.Pairwise leK) : a = sortK b :=
  List.Perm.eq_of_pairwise (fun x y _ _ h1 h2 => KeyOrd.kle_antisymm (O := listOrd itemOrd) h1 h2) ha (sortK_sorted b) (hp.trans (sortK_perm b).symm)
theorem eqL_dOf : ∀ a b : List It1, eqL (a.map dOf) (b.map dOf) = decide (a = b)
  | [], [] => by simp [eqL]
  | [], .inl _ :: _ => by simp [eqL]
  | [], .inr _ :: _ => by simp [eqL]
  | .inl _ :: _, [] => by simp [eqL]
  | .inr _ :: _, [] => by simp [eqL]
  | .inl i :: r, .inl j :: t => by
    have q := eqL_dOf r t
    simp only [List.map_cons, dOf, eqL, eqD, q]
    by_cases h : i = j <;> by_cases k : r = t <;> simp [h, k]
  | .inr i :: r, .inr j :: t => by
    have q := eqL_dOf r t
    simp only [List.map_cons, dOf, eqL, eqD, q]
    by_cases h : i = j <;> by_cases k : r = t <;> simp [h, k]
  | .inl _ :: _, .inr _ :: _ => by simp [eqL, eqD, dOf]
  | .inr _ :: _, .inl _ :: _ => by simp [eqL, eqD, dOf]
theorem eqD_dT (a b : List It1) : eqD (dT a) (dT b) = decide (a = b) := by
  unfold dT
  rw [eqD]
  exact eqL_dOf a b
def dedupK : List (List It1) → List (List It1)
  | [] => []
  | x :: xs => x :: (dedupK xs).filter fun y => !decide (x = y)
theorem dedup_dT : ∀ ts : List (List It1), dedup (ts.map dT) = (dedupK ts).map dT
  | [] => rfl
  | x :: xs => by
    show dT x :: (dedup (xs.map dT)).filter (fun y => !eqD (dT x) y) = _
    rw [dedup_dT xs, List.filter_map]
    have e : ((fun y => !eqD (dT x) y) ∘ dT) = fun y => !decide (x = y) := funext fun y => congrArg not (eqD_dT x y)
    rw [e]
    rfl
theorem dedupK_mem : ∀ (ts : List (List It1)) (k : List It1), k ∈ dedupK ts ↔ k ∈ ts
  | [], k => .rfl
  | x :: xs, k => by
    unfold dedupK
    rw [List.mem_cons, List.mem_cons, List.mem_filter, dedupK_mem xs k]
    constructor
    · exact fun z => z.imp id (·.1)
    · intro z
      by_cases e : k = x
      · exact .inl e
      · exact .inr ⟨z.resolve_left e, by simpa using fun q : x = k => e q.symm⟩
theorem dedupK_nodup : ∀ ts : List (List It1), (dedupK ts).Nodup
  | [] => .nil
  | x :: xs => by
    unfold dedupK
    refine List.nodup_cons.mpr ⟨fun z => ?_, (dedupK_nodup xs).filter _⟩
    have q := (List.mem_filter.mp z).2
    simp at q
theorem dedupK_len : ∀ ts : List (List It1), (dedupK ts).length ≤ ts.length
  | [] => Nat.le_refl _
  | x :: xs => by
    unfold dedupK
    rw [List.length_cons, List.length_cons]
    exact Nat.succ_le_succ (Nat.le_trans (List.length_filter_le _ _) (dedupK_len xs))
theorem nodup_sub_len {α : Type} [DecidableEq α] : ∀ {l m : List α}, l.Nodup → (∀ x ∈ l, x ∈ m) → l.length ≤ m.length
  | [], _, _, _ => Nat.zero_le _
  | x :: l, m, hn, hs => by
    obtain ⟨h1, h2⟩ := List.nodup_cons.mp hn
    have hx : x ∈ m := hs x List.mem_cons_self
    have ih := nodup_sub_len (l := l) (m := m.erase x) h2 fun y hy => (List.mem_erase_of_ne (fun e : y = x => h1 (by rw [← e]; exact hy))).2 (hs y (List.mem_cons_of_mem _ hy))
    have e := List.length_erase_of_mem hx
    have p : 0 < m.length := List.length_pos_of_mem hx
    rw [List.length_cons]
    omega
theorem few_of {ps : List (Addr × List It1)} (h : (dedup ((ps.map Prod.snd).map dT)).length < 62) (L : List (Addr × List It1)) (sub : ∀ p ∈ L, p ∈ ps) (nd : (L.map Prod.snd).Nodup) : L.length + 1 < 64 := by
  rw [dedup_dT, List.length_map] at h
  have q := nodup_sub_len nd (m := dedupK (ps.map Prod.snd)) fun k hk => by
    obtain ⟨p, hp, rfl⟩ := List.mem_map.mp hk
    exact (dedupK_mem _ _).2 (List.mem_map.mpr ⟨p, sub p hp, rfl⟩)
  rw [List.length_map] at q
  omega
theorem perm_lift {α β : Type} (f : α → β) {l m : List β} (h : l.Perm m) : ∀ ps : List α, m = ps.map f → ∃ qs : List α, qs.Perm ps ∧ l = qs.map f := by
  induction h with
  | nil =>
    intro ps e
    cases ps with
    | nil => exact ⟨[], .nil, rfl⟩
    | cons _ _ => cases e
  | cons x _ ih =>
    intro ps e
    cases ps with
    | nil => cases e
    | cons p ps =>
      cases e
      obtain ⟨qs, h1, h2⟩ := ih ps rfl
      exact ⟨p :: qs, h1.cons p, by rw [h2]; rfl⟩
  | swap x y l =>
    intro ps e
    cases ps with
    | nil => cases e
    | cons p ps =>
      cases ps with
      | nil => cases e
      | cons p2 ps =>
        cases e
        exact ⟨p2 :: p :: ps, .swap p p2 ps, rfl⟩
  | trans _ _ ih1 ih2 =>
    intro ps e
    obtain ⟨qs, h1, h2⟩ := ih2 ps e
    obtain ⟨rs, g1, g2⟩ := ih1 qs h2
    exact ⟨rs, g1.trans h1, g2⟩
section
variable {K : PySem.W.Frag} {M : Addr → Prop} {H : Hp}
theorem flats_rep : ∀ {l : List It1} {vs : List V} {us : List Value}, RepL K M H vs (l.map dOf) → Vals vs us → Flats l us
  | [], _, _, r, v => by
    cases r
    cases v
    exact .nil
  | .inl i :: l, _, _, r, v => by
    cases r with
    | cons r t =>
      cases r
      cases v with
      | cons q w =>
        obtain ⟨tk, rfl⟩ := q
        exact .int (flats_rep t w)
  | .inr s :: l, _, _, r, v => by
    cases r with
    | cons r t =>
      cases r
      cases v with
      | cons q w =>
        obtain ⟨tk, rfl⟩ := q
        have e : s = (str0 s).cps.toList := (str0_cps s).symm
        rw [e]
        exact .str (flats_rep t w)
/-- a list of flat tuples: where each stands, and what it is -/
theorem rows_rep : ∀ {ts : List (List It1)} {vs : List V}, RepL K M H vs (ts.map dT) → ∃ ps : List (Addr × List It1), ps.map Prod.snd = ts ∧ vs = ps.map (fun p => V.ref p.1) ∧ ∀ p ∈ ps, Rep K M H (.ref p.1) (dT p.2)
  | [], _, r => by
    cases r
    exact ⟨[], rfl, rfl, fun p h => nomatch h⟩
  | t :: ts, _, r => by
    cases r with
    | cons r q =>
      obtain ⟨ps, rfl, rfl, h3⟩ := rows_rep q
      have r' := r
      unfold dT at r'
      cases r' with
      | tup h hl rr =>
        rename_i a xs
        refine ⟨(a, t) :: ps, rfl, rfl, fun p hp => ?_⟩
        rcases List.mem_cons.mp hp with rfl | hp
        · exact r
        · exact h3 p hp
theorem rep_rows : ∀ {ps : List (Addr × List It1)}, (∀ p ∈ ps, Rep K M H (.ref p.1) (dT p.2)) → RepL K M H (ps.map fun p => V.ref p.1) ((ps.map Prod.snd).map dT)
  | [], _ => .nil
  | p :: ps, h => .cons (h p List.mem_cons_self) (rep_rows fun q hq => h q (List.mem_cons_of_mem _ hq))
theorem vals_rows : ∀ ps : List (Addr × List It1), Vals (ps.map fun p => V.ref p.1) (ps.map fun p => Value.ref p.1)
  | [] => .nil
  | _ :: ps => .cons rfl (vals_rows ps)
theorem rows_vals : ∀ {ps : List (Addr × List It1)} {us : List Value}, Vals (ps.map fun p => V.ref p.1) us → us = ps.map fun p => Value.ref p.1
  | [], _, v => by cases v; rfl
  | p :: ps, _, v => by
    cases v with
    | cons q w =>
      cases q
      rw [rows_vals w]
      rfl
/-- put in order -/
theorem in_order {h : Heap} {S : List (List It1)} {ps : List (Addr × List It1)} {out : List Value} (tf : ∀ p ∈ ps, TupF h p.2 p.1) (ms : ∀ p ∈ ps, p.2 ∈ S) (pm : out.Perm (ps.map fun p => Value.ref p.1)) (as : AscF h S out) :
    ∃ qs : List (Addr × List It1), qs.Perm ps ∧ out = qs.map (fun p => Value.ref p.1) ∧ qs.map Prod.snd = sortK (ps.map Prod.snd) := by
  obtain ⟨qs, h1, h2⟩ := perm_lift _ pm ps rfl
  refine ⟨qs, h1, h2, sortK_uniq (h1.map Prod.snd) ?_⟩
  subst h2
  unfold AscF at as
  rw [List.pairwise_map] at as ⊢
  refine List.Pairwise.imp_of_mem (fun {p q} hp hq z => ?_) as
  have mp := h1.mem_iff.mp hp
  have mq := h1.mem_iff.mp hq
  exact z _ _ (keyF_of (tf p mp) (ms p mp)) (keyF_of (tf q mq) (ms q mq))
end
section
variable {X : Cx} {pins : List (Addr × Obj)} {σ : L2.St} {H : Hp} {s : Shared} {M : Addr → Prop}
theorem tupF_of (I : Inv X pins σ H s) {a : Addr} {l : List It1} (r : Rep X.K M H (.ref a) (dT l)) : TupF s.heap l a := by
  unfold dT at r
  cases r with
  | tup h hl rr =>
    obtain ⟨its, rv, ⟨o, e, c, n, d⟩, _⟩ := I.tuple h.sq
    exact ⟨o, its.toArray, n, e, c, d, by rw [List.toList_toArray]; exact flats_rep rr rv⟩
/-- sorted(xs), xs a list of flat tuples -/
theorem cr_sortF {ts : List (List It1)} : CallR X (.builtin "sorted") (fun vs H Q => ∃ (M : Addr → Prop) (a : Addr) (xs : List V), vs = [V.ref a] ∧ SqL X.K H a xs ∧ RepL X.K M H xs (ts.map dT) ∧ ts.length ≤ big ∧ (∀ l ∈ ts, l ≠ []) ∧ (∀ a ∈ ts, ∀ b ∈ ts, cmpK a b = true) ∧
    ∀ (ys : List V) (p : Addr), RepL X.K M H ys ((sortK ts).map dT) → H p = none → Q (.ref p) (upd H p (.lst ys))) := by
  intro pins s σ H vs us Q I r h
  obtain ⟨M, a, xs, rfl, hl, rp, ln, ne, cm, q⟩ := h
  obtain ⟨ps, rfl, rfl, h3⟩ := rows_rep rp
  obtain ⟨its, rv, pl, hz⟩ := I.list hl
  obtain rfl := rows_vals rv
  rw [Vals.ref1 r]
  have tf : ∀ p ∈ ps, TupF s.heap p.2 p.1 := fun p hp => tupF_of I (h3 p hp)
  have ms : ∀ p ∈ ps, p.2 ∈ ps.map Prod.snd := fun p hp => List.mem_map.mpr ⟨p, hp, rfl⟩
  have lz : (ps.map fun p => Value.ref p.1).length ≤ sizeLine := by
    rw [List.length_map] at ln ⊢
    exact big_line ln
  refine sorted_flats (S := ps.map Prod.snd) pl.isList (fun v hv => ?_) ne cm lz fun out pm as => ?_
  · obtain ⟨p, hp, rfl⟩ := List.mem_map.mp hv
    exact ⟨p.2, p.1, rfl, tf p hp, ms p hp⟩
  · obtain ⟨qs, h1, h2, h4⟩ := in_order tf ms pm as
    obtain ⟨ep, he⟩ := sortedAll_at s.heap (ps.map fun p => Value.ref p.1) out
    refine ⟨.ref _, upd H (s.heap.objs.size + 1) (.lst (qs.map fun p => V.ref p.1)), I.laid (t' := s.toks) (fun _ _ => sortedAll_old) (Nat.le_succ _) ⟨?_, out.toList, ep, by rw [h2]; exact vals_rows qs, he⟩, rfl, q _ _ ?_ (I.hok.fresh (Nat.le_succ _))⟩
    · rw [List.length_map, h1.length_eq]
      rw [List.length_map] at lz
      exact lz
    · rw [← h4]
      exact rep_rows fun p hp => h3 p (h1.mem_iff.mp hp)
/-- sorted of a set that was made of a list of flat tuples -/
theorem sorted_made_t {Q : VK} {a : Addr} {ps L : List (Addr × List It1)} (hc : X.calm = true) (I : Inv X pins σ H s) (T : Ms (mF X.prog X.w) s.heap a L) (g : Got1 ps L ps.length) (h3 : ∀ p ∈ ps, Rep X.K M H (.ref p.1) (dT p.2)) (ln : ps.length ≤ big)
    (ne : ∀ l ∈ ps.map Prod.snd, l ≠ []) (cm : ∀ a ∈ ps.map Prod.snd, ∀ b ∈ ps.map Prod.snd, cmpK a b = true)
    (q : ∀ (ys : List V) (p : Addr), RepL X.K M H ys ((sortK (dedupK (ps.map Prod.snd))).map dT) → H p = none → Q (.ref p) (upd H p (.lst ys))) :
    wpAny (model X.prog X.w) X.A (call (.builtin "sorted") [.ref a]) (EP X pins σ Q) X.xe s := by
  have sub : ∀ p ∈ L, p ∈ ps := fun p hp => List.mem_of_mem_take (g.sub p hp)
  have ms : ∀ p ∈ L, p.2 ∈ ps.map Prod.snd := fun p hp => List.mem_map.mpr ⟨p, sub p hp, rfl⟩
  have nd : (L.map Prod.snd).Nodup := by
    obtain ⟨_, _, _, _, _, _, _, R, _⟩ := T
    exact R.nd
  have same : (L.map Prod.snd).Perm (dedupK (ps.map Prod.snd)) := by
    refine (List.perm_ext_iff_of_nodup nd (dedupK_nodup _)).mpr fun k => ?_
    rw [dedupK_mem]
    constructor
    · intro hk
      obtain ⟨p, hp, rfl⟩ := List.mem_map.mp hk
      exact ms p hp
    · intro hk
      obtain ⟨p, hp, rfl⟩ := List.mem_map.mp hk
      exact g.all p (by rw [List.take_length]; exact hp)
  refine sorted_ms (I.ok.hd hc) T ms ne cm fun s' p out c k gn o hp at' pm as => ?_
  have tf : ∀ p ∈ L, TupF s'.heap p.2 p.1 := fun p hp => (tupF_of I (h3 p (sub p hp))).stay fun o e => k _ o e
  obtain ⟨qs, h1, h2, h4⟩ := in_order tf ms pm as
  have new := I.hok.fresh hp
  refine ⟨.ref p, upd H p (.lst (qs.map fun p => V.ref p.1)), I.call' (ch := []) o (Un.laid k hp new) (I.hok.laid k hp ⟨?_, out.toList, c, by rw [h2]; exact vals_rows qs, at'⟩) (by rw [gn]; exact I.bare) (fun _ z => nomatch z), rfl, q _ p ?_ new⟩
  · rw [List.length_map, h1.length_eq]
    refine big_line (Nat.le_trans g.len ln)
  · have e : qs.map Prod.snd = sortK (dedupK (ps.map Prod.snd)) := by
      rw [h4]
      exact sortK_uniq ((sortK_perm _).trans same) (sortK_sorted _)
    rw [← e]
    exact rep_rows fun p hp => h3 p (sub p (h1.mem_iff.mp hp))
end
end MP

set_option Elab.async false
set_option linter.all false
set_option maxRecDepth 100000
namespace MP
open PySem PySem.Spec PyProof.Rows L2
/-! xs[::-1] of a list or a tuple -/
section
variable {prog : Program} {w : World} {A : Around} {E : Value → Shared → Prop} {s : Shared}
theorem back_at {sl : Addr} {vl vu vs : Value} {n : Nat} {Q : Int × Int × Nat → Shared → Prop} (hs : s.heap.IsSliceOf sl vl vu vs) (pl : IsPart vl none) (pu : IsPart vu none) (ps : IsPart vs (some (-1)))
    (h : Q ((n : Int) - 1, -1, n) s) : wpAny (model prog w) A (Builtin.Slice.sliceApplied (.ref sl) (pure (n : Int))) Q E s := by
  obtain ⟨os, hos, hcs, hds⟩ := id hs
  unfold Builtin.Slice.sliceApplied Builtin.Slice.sliceFields
  refine wpAny_bind (wpAny_bind (wpAny_field hos hds (x := vl) rfl (wpAny_bind (wpAny_field hos hds (x := vu) rfl (wpAny_bind (wpAny_field hos hds (x := vs) rfl (wpAny_pure ?_)))))))
  refine wpAny_bind (HT.slicePart_ ps ?_)
  refine wp_if_neg (by decide) ?_
  try refine wpAny_bind (wpAny_pure ?_)
  refine wpAny_bind (HT.slicePart_ pl (wpAny_bind (HT.slicePart_ pu (wpAny_bind (wpAny_pure ?_)))))
  have e1 : Builtin.Slice.sliceAdjust none none (-1) (n : Int) = ((n : Int) - 1, -1) := rfl
  have e2 : Builtin.Slice.slicePlaces ((n : Int) - 1) (-1) (-1) = n := by
    unfold Builtin.Slice.slicePlaces
    rw [if_neg (by decide)]
    split
    · rw [show (-(-1 : Int)) = 1 by decide, Int.ediv_one]
      omega
    · omega
  show wpAny _ _ (match Builtin.Slice.sliceAdjust none none (-1) (n : Int) with | (lo, hi) => pure (lo, (-1 : Int), Builtin.Slice.slicePlaces lo hi (-1))) _ _ s
  rw [e1]
  show wpAny _ _ (pure ((n : Int) - 1, (-1 : Int), Builtin.Slice.slicePlaces ((n : Int) - 1) (-1) (-1))) _ _ s
  rw [e2]
  exact wpAny_pure h
theorem pick_back (xs : Array Value) : ((List.range xs.size).filterMap fun (m : Nat) => xs[(((xs.size : Int) - 1) + (m : Int) * (-1)).toNat]?).toArray = xs.toList.reverse.toArray := by
  have e : ((List.range xs.size).filterMap fun (m : Nat) => xs[(((xs.size : Int) - 1) + (m : Int) * (-1)).toNat]?) = ((List.range xs.size).map fun k => xs.size - 1 - k).filterMap (xs[·]?) := by
    rw [List.filterMap_map]
    congr 1
    funext m
    show _ = xs[xs.size - 1 - m]?
    congr 1
    omega
  rw [e, PySem.W.krv_range, List.filterMap_reverse, PySem.W.krv_all]
theorem getItem_tuple_back {t sl : Addr} {items : Array Value} {vl vu vs : Value} {Q : Value → Shared → Prop} (ht : IsTup s.heap t items) (hs : s.heap.IsSliceOf sl vl vu vs) (pl : IsPart vl none) (pu : IsPart vu none) (ps : IsPart vs (some (-1)))
    (h : Q (.ref s.heap.objs.size) { s with heap := s.heap.push { cls := .type "tuple", data := .seq items.toList.reverse.toArray } }) (hsz : items.size ≤ sizeLine) : wpAny (model prog w) A (getItem (.ref t) (.ref sl)) Q E s := by
  have room : sizeOk (.seq items.toList.reverse.toArray) := by
    show items.toList.reverse.toArray.size ≤ sizeLine
    rw [List.size_toArray, List.length_reverse, Array.length_toList]
    exact hsz
  obtain ⟨os, hos, hcs, hds⟩ := id hs
  have hTs : s.TypeIs (.ref sl) "slice" := ⟨os, hos, hcs⟩
  unfold getItem
  try with_reducible refine wpAny_holding ?_
  first | refine wpAny_bind (wpAny_pure ?_) | skip
  refine wpAny_bind (wpAny_sequenceKey ht.typeIs (by decide) (wpAny_bind (wpAny_callSpecial?_slot (name := Str.ofString "__getitem__") ht.typeIs PyProof.Rows.slot_tuple_getitem
    (wpAny_call_entry PyProof.Rows.slot_tuple_getitem ht.typeIs entry_tuple_getitem ?_ (args_tuple_getitem _ _)))))
  show wpAny _ _ (Builtin.Tuple.tupleItemsOf (.ref t) >>= _) _ _ s
  refine wpAny_bind (tupleItemsOf_ ht (wpAny_bind (wpAny_typeOf hTs ?_)))
  rw [if_pos (by decide)]
  refine wpAny_bind (back_at hs pl pu ps ?_)
  have no : ¬ ((((items.size : Int) - 1) == 0 && (-1 : Int) == 1 && items.size == items.size) = true) := by simp
  refine wp_if_neg no ?_
  rw [pick_back]
  first
    | exact wpAny_bind (m := Builtin.Tuple.tupleExact _) (wpAny_newObj_type (wpAny_pure ⟨_, rfl, wpAny_pure h⟩) room)
    | exact wpAny_bind (m := Builtin.Tuple.tupleExact _) (wpAny_newObj_type (wpAny_bind (wpAny_pure (wpAny_pure ⟨_, rfl, wpAny_pure h⟩))) room)
    | exact wpAny_bind (wpAny_bind (m := Builtin.Tuple.tupleExact _) (wpAny_newObj_type (wpAny_pure (wpAny_pure ⟨_, rfl, wpAny_pure h⟩)) room))
    | exact wpAny_bind (wpAny_bind (m := Builtin.Tuple.tupleExact _) (wpAny_newObj_type (wpAny_pure ⟨_, rfl, wpAny_pure h⟩) room))
end
section
variable {X : Cx}
/-- xs[::-1] -/
def tBack (K : PySem.W.Frag) (te : TE) : TE := fun σ H Q => te σ H fun x H1 => (∃ z : Str, x = .str z ∧ z.length ≤ sizeLine ∧ Q (.str (revS z)) H1) ∨ ∃ a xs, x = .ref a ∧
  ((SqL K H1 a xs ∧ ∀ p, H1 p = none → Q (.ref p) (upd H1 p (.lst xs.reverse))) ∨ (SqT K H1 a xs ∧ NT Q H1 xs.reverse))
theorem pe_back {e : Expr} {te : TE} {k : Nat} {p1 p2 p3 pos : Pos} (he : PE X e te) : PE X (.Subscript e (.Slice none none (some (.UnaryOp .USub (.Constant (.int 1) k p1) p2)) p3) pos) (tBack X.K te) := by
  refine ⟨fun pins s σ H Q I h => ?_⟩
  refine Subscript_ (thn (he.run pins s σ H _ I h) fun v s1 ⟨x, H1, I1, r1, q1⟩ => ?_)
  have hst : PO X (some (.UnaryOp .USub (.Constant (.int 1) k p1) p2)) (tPart (tUn (rU fun i => .int (-i)) (tC (.int 1)))) := po_some (pe_un un_neg pe_int)
  refine wpAny_Slice (thn (po_none.run pins s1 σ H1 (fun o H2 => o = none ∧ H2 = H1) I1 ⟨rfl, rfl⟩) fun vl s2 ⟨l, H2, I2, pl, el, e2⟩ => ?_)
  subst el e2
  refine thn (po_none.run pins s2 σ H2 (fun o H3 => o = none ∧ H3 = H2) I2 ⟨rfl, rfl⟩) fun vu s3 ⟨u, H3, I3, pu, eu, e3⟩ => ?_
  subst eu e3
  refine thn (hst.run pins s3 σ H3 (fun o H4 => o = some (-1) ∧ H4 = H3) I3 ⟨1, rfl, -1, rfl, rfl, rfl⟩) fun vs s4 ⟨o, H4, I4, ps, eo, e4⟩ => ?_
  subst eo e4
  have I5 : Inv X pins σ H4 { s4 with heap := s4.heap.push { cls := .type "slice", data := .fields #[vl, vu, vs] } } := I4.kept (t' := s4.toks) fun b ob q => Heap.get?_push_of_some _ q
  show wpAny (model X.prog X.w) X.A (subscriptTail e (.Slice none none (some (.UnaryOp .USub (.Constant (.int 1) k p1) p2)) p3) v (.ref s4.heap.objs.size)) (EP X pins σ Q) X.xe { s4 with heap := s4.heap.push { cls := .type "slice", data := .fields #[vl, vu, vs] } }
  rcases q1 with ⟨z, rfl, hz, q⟩ | ⟨a, xs, rfl, q1⟩
  · obtain ⟨t, rfl⟩ := (show ∃ t, v = Value.str z t from r1)
    refine tail_any (ops := [.str z t, .ref s4.heap.objs.size]) (typeIs_str s4 z t) (F.slot_str_getitem.lookup) ?_ (by with_unfolding_all rfl)
    exact item_back I5 (Heap.IsSliceOf.new _ vl vu vs) pl pu ps hz q
  cases r1
  rcases q1 with ⟨hx, q⟩ | ⟨hx, q⟩
  · obtain ⟨its, r, ht, hz⟩ := I5.list hx
    have hlen := r.length
    refine tail_any (ops := [.ref a, .ref s4.heap.objs.size]) ht.isList.typeIs (PySem.slot_list_getitem.lookup) ?_ (by with_unfolding_all rfl)
    refine wpAny_getItem_list_slice ht.isList (Heap.IsSliceOf.new _ vl vu vs) pl pu ps (by decide) ?_ (by rw [List.size_toArray]; omega)
    rw [PySem.W.krv_pick]
    exact ⟨.ref _, _, I5.laid (t' := s4.toks) (o := .lst xs.reverse) (fun b ob q => Heap.get?_push_of_some _ q) (Nat.le_refl _) ⟨by rw [List.length_reverse]; exact hz, _, 0, r.reverse, Heap.get?_push_size _ rfl⟩, rfl, q _ (I5.hok.fresh (Nat.le_refl _))⟩
  · obtain ⟨its, r, ht, hz⟩ := I5.tuple hx
    have hlen := r.length
    refine tail_any (ops := [.ref a, .ref s4.heap.objs.size]) ht.typeIs (PyProof.Rows.slot_tuple_getitem.lookup) ?_ (by with_unfolding_all rfl)
    refine getItem_tuple_back ht (Heap.IsSliceOf.new _ vl vu vs) pl pu ps ?_ (by rw [List.size_toArray]; omega)
    exact made I5 r.reverse (by rw [List.length_reverse]; exact hz) q
end
end MP

set_option Elab.async false
set_option linter.all false
set_option maxRecDepth 100000
namespace MP
open PySem PySem.Spec PyProof.Rows L2
def WRL (K : PySem.W.Frag) (M : Addr → Prop) (H : Hp) : List V → List D → Prop
  | [], [] => True
  | v :: vs, d :: ds => WR K M H v d ∧ WRL K M H vs ds
  | _, _ => False
def rBi (K : PySem.W.Frag) (b : Bi) : List V → Hp → VK → Prop := fun xs H Q => ∃ M ds r, MOk M H ∧ WRL K M H xs ds ∧ biD b ds = some r ∧ ∀ v H', New K M H v H' r → Q v H'
section
variable {K : PySem.W.Frag} {M : Addr → Prop} {H : Hp}
theorem WRL.one {vs : List V} {d : D} (h : WRL K M H vs [d]) : ∃ v, vs = [v] ∧ WR K M H v d := by
  cases vs with
  | nil => exact h.elim
  | cons v vs =>
    cases vs with
    | nil => exact ⟨v, rfl, h.1⟩
    | cons _ _ => exact h.2.elim
theorem WRL.two {vs : List V} {d e : D} (h : WRL K M H vs [d, e]) : ∃ v u, vs = [v, u] ∧ WR K M H v d ∧ WR K M H u e := by
  cases vs with
  | nil => exact h.elim
  | cons v vs =>
    obtain ⟨u, rfl, r⟩ := WRL.one h.2
    exact ⟨v, u, rfl, h.1, r⟩
theorem allI_map : ∀ {ds : List D}, allI ds = true → ∃ ns : List Int, ds = ns.map D.int
  | [], _ => ⟨[], rfl⟩
  | .int i :: r, h => by
    obtain ⟨ns, e⟩ := allI_map (ds := r) h
    exact ⟨i :: ns, by rw [e]; rfl⟩
  | .non :: _, h => by cases h
  | .bl _ :: _, h => by cases h
  | .str _ :: _, h => by cases h
  | .lst _ :: _, h => by cases h
  | .tup _ :: _, h => by cases h
  | .scr _ :: _, h => by cases h
  | .duo _ :: _, h => by cases h
theorem allS_map : ∀ {ds : List D}, allS ds = true → ∃ ns : List (List Nat), ds = ns.map D.str
  | [], _ => ⟨[], rfl⟩
  | .str i :: r, h => by
    obtain ⟨ns, e⟩ := allS_map (ds := r) h
    exact ⟨i :: ns, by rw [e]; rfl⟩
  | .non :: _, h => by cases h
  | .bl _ :: _, h => by cases h
  | .int _ :: _, h => by cases h
  | .lst _ :: _, h => by cases h
  | .tup _ :: _, h => by cases h
  | .scr _ :: _, h => by cases h
  | .duo _ :: _, h => by cases h
theorem allB_map : ∀ {ds : List D}, allB ds = true → ∃ ns : List Bool, ds = ns.map D.bl
  | [], _ => ⟨[], rfl⟩
  | .bl i :: r, h => by
    obtain ⟨ns, e⟩ := allB_map (ds := r) h
    exact ⟨i :: ns, by rw [e]; rfl⟩
  | .non :: _, h => by cases h
  | .int _ :: _, h => by cases h
  | .str _ :: _, h => by cases h
  | .lst _ :: _, h => by cases h
  | .tup _ :: _, h => by cases h
  | .scr _ :: _, h => by cases h
  | .duo _ :: _, h => by cases h
theorem RepL.ints : ∀ {xs : List V} {ns : List Int}, RepL K M H xs (ns.map D.int) → xs = ns.map V.int
  | _, [], .nil => rfl
  | _, _ :: _, .cons r t => by cases r; rw [RepL.ints t]; rfl
theorem RepL.bls : ∀ {xs : List V} {ns : List Bool}, RepL K M H xs (ns.map D.bl) → xs = ns.map V.bl
  | _, [], .nil => rfl
  | _, _ :: _, .cons r t => by cases r; rw [RepL.bls t]; rfl
theorem RepL.strs : ∀ {xs : List V} {ns : List (List Nat)}, RepL K M H xs (ns.map D.str) → xs = (ns.map str0).map V.str ∧ ∀ s ∈ ns, okS s = true ∧ s.length ≤ big
  | _, [], .nil => ⟨rfl, fun _ h => by cases h⟩
  | _, _ :: _, .cons r t => by
    cases r with
    | str s h hl =>
      obtain ⟨e, g⟩ := RepL.strs t
      refine ⟨by rw [e]; rfl, fun s' hs => ?_⟩
      rcases List.mem_cons.mp hs with rfl | hs
      · exact ⟨h, hl⟩
      · exact g s' hs
theorem repL_ints : ∀ ns : List Int, RepL K M H (ns.map V.int) (ns.map D.int)
  | [] => .nil
  | _ :: r => .cons (.int _) (repL_ints r)
theorem repL_strs : ∀ {ns : List (List Nat)}, (∀ s ∈ ns, okS s = true ∧ s.length ≤ big) → RepL K M H ((ns.map str0).map V.str) (ns.map D.str)
  | [], _ => .nil
  | s :: r, h => .cons (.str _ (h s List.mem_cons_self).1 (h s List.mem_cons_self).2) (repL_strs fun x hx => h x (List.mem_cons_of_mem _ hx))
end
/-! sorting ints and texts -/
def insI (x : Int) : List Int → List Int
  | [] => [x]
  | y :: ys => if y < x then y :: insI x ys else x :: y :: ys
def sortI : List Int → List Int
  | [] => []
  | x :: xs => insI x (sortI xs)
theorem ins_int (x : Int) : ∀ ns : List Int, ins (.int x) (ns.map D.int) = (insI x ns).map D.int
  | [] => rfl
  | y :: ys => by
    show (if ltD (.int y) (.int x) then .int y :: ins (.int x) (ys.map D.int) else _) = _
    unfold insI
    rw [ins_int x ys]
    show (if decide (y < x) = true then _ else _) = _
    by_cases h : y < x
    · rw [if_pos (decide_eq_true h), if_pos h]; rfl
    · rw [if_neg (by simpa using h), if_neg h]; rfl
theorem isort_int : ∀ ns : List Int, isort (ns.map D.int) = (sortI ns).map D.int
  | [] => rfl
  | x :: xs => by
    show ins (.int x) (isort (xs.map D.int)) = _
    rw [isort_int xs, ins_int]
    rfl
theorem insI_perm (x : Int) : ∀ ns, (insI x ns).Perm (x :: ns)
  | [] => .refl _
  | y :: ys => by
    unfold insI
    split
    · exact ((insI_perm x ys).cons y).trans (.swap x y ys)
    · exact .refl _
theorem sortI_perm : ∀ ns, (sortI ns).Perm ns
  | [] => .refl _
  | x :: xs => (insI_perm x _).trans ((sortI_perm xs).cons x)
theorem insI_sorted (x : Int) : ∀ ns : List Int, ns.Pairwise (· ≤ ·) → (insI x ns).Pairwise (· ≤ ·)
  | [], _ => List.pairwise_singleton _ _
  | y :: ys, h => by
    obtain ⟨h1, h2⟩ := List.pairwise_cons.mp h
    unfold insI
    split
    · rename_i hl
      refine List.pairwise_cons.mpr ⟨fun z hz => ?_, insI_sorted x ys h2⟩
      rcases List.mem_cons.mp ((insI_perm x ys).mem_iff.mp hz) with rfl | hz
      · omega
      · exact h1 z hz
    · rename_i hl
      refine List.pairwise_cons.mpr ⟨fun z hz => ?_, h⟩
      rcases List.mem_cons.mp hz with rfl | hz
      · omega
      · have := h1 z hz; omega
theorem sortI_sorted : ∀ ns : List Int, (sortI ns).Pairwise (· ≤ ·)
  | [] => .nil
  | x :: xs => insI_sorted x _ (sortI_sorted xs)
theorem sortI_uniq {a b : List Int} (hp : a.Perm b) (ha : a.Pairwise (· ≤ ·)) : a = sortI b :=
  List.Perm.eq_of_pairwise (fun x y _ _ h1 h2 => Int.le_antisymm h1 h2) ha (sortI_sorted b) (hp.trans (sortI_perm b).symm)
def insT (x : List Nat) : List (List Nat) → List (List Nat)
  | [] => [x]
  | y :: ys => if ltS y x then y :: insT x ys else x :: y :: ys
def sortT : List (List Nat) → List (List Nat)
  | [] => []
  | x :: xs => insT x (sortT xs)
theorem ins_str (x : List Nat) : ∀ ns : List (List Nat), ins (.str x) (ns.map D.str) = (insT x ns).map D.str
  | [] => rfl
  | y :: ys => by
    show (if ltS y x then D.str y :: ins (.str x) (ys.map D.str) else _) = _
    unfold insT
    rw [ins_str x ys]
    cases ltS y x <;> rfl
theorem isort_str : ∀ ns : List (List Nat), isort (ns.map D.str) = (sortT ns).map D.str
  | [] => rfl
  | x :: xs => by
    show ins (.str x) (isort (xs.map D.str)) = _
    rw [isort_str xs, ins_str]
    rfl
theorem insT_perm (x : List Nat) : ∀ ns, (insT x ns).Perm (x :: ns)
  | [] => .refl _
  | y :: ys => by
    unfold insT
    split
    · exact ((insT_perm x ys).cons y).trans (.swap x y ys)
    · exact .refl _
theorem sortT_perm : ∀ ns, (sortT ns).Perm ns
  | [] => .refl _
  | x :: xs => (insT_perm x _).trans ((sortT_perm xs).cons x)
theorem ltS_ff {x y : List Nat} : ltS x y = false ↔ y ≤ x := by
  rw [ltS_eq, decide_eq_false_iff_not, List.not_lt]
theorem insT_sorted (x : List Nat) : ∀ ns : List (List Nat), ns.Pairwise (· ≤ ·) → (insT x ns).Pairwise (· ≤ ·)
  | [], _ => List.pairwise_singleton _ _
  | y :: ys, h => by
    obtain ⟨h1, h2⟩ := List.pairwise_cons.mp h
    unfold insT
    cases hl : ltS y x with
    | true =>
      have yx : y ≤ x := List.le_of_lt (by rw [ltS_eq] at hl; exact of_decide_eq_true hl)
      refine List.pairwise_cons.mpr ⟨fun z hz => ?_, insT_sorted x ys h2⟩
      rcases List.mem_cons.mp ((insT_perm x ys).mem_iff.mp hz) with rfl | hz
      · exact yx
      · exact h1 z hz
    | false =>
      have xy := ltS_ff.mp hl
      refine List.pairwise_cons.mpr ⟨fun z hz => ?_, h⟩
      rcases List.mem_cons.mp hz with rfl | hz
      · exact xy
      · exact List.le_trans xy (h1 z hz)
theorem sortT_sorted : ∀ ns : List (List Nat), (sortT ns).Pairwise (· ≤ ·)
  | [] => .nil
  | x :: xs => insT_sorted x _ (sortT_sorted xs)
theorem sortT_uniq {a b : List (List Nat)} (hp : a.Perm b) (ha : a.Pairwise (· ≤ ·)) : a = sortT b :=
  List.Perm.eq_of_pairwise (fun x y _ _ h1 h2 => List.le_antisymm h1 h2) ha (sortT_sorted b) (hp.trans (sortT_perm b).symm)
def un0 (s : Str) : List Nat := s.cps.toList
theorem un0_str0 (x : List Nat) : un0 (str0 x) = x := str0_cps x
theorem str0_un0 (s : Str) : str0 (un0 s) = s := by cases s; simp [un0, str0]
theorem map_un0 (xs : List (List Nat)) : (xs.map str0).map un0 = xs := by
  rw [List.map_map]
  exact (List.map_congr_left fun x _ => un0_str0 x).trans (List.map_id _)
theorem map_str0 (xs : List Str) : (xs.map un0).map str0 = xs := by
  rw [List.map_map]
  exact (List.map_congr_left fun x _ => str0_un0 x).trans (List.map_id _)
theorem risingS_pw : ∀ (r : List Str) (p : Str), risingS p r = true → ((p :: r).map un0).Pairwise (· ≤ ·)
  | [], _, _ => List.pairwise_singleton _ _
  | x :: r, p, h => by
    have h' : (!ltCps x.cps.toList p.cps.toList && risingS x r) = true := h
    rw [Bool.and_eq_true, Bool.not_eq_true', ltCps_eq, decide_eq_false_iff_not, List.not_lt] at h'
    have t := risingS_pw r x h'.2
    rw [List.map_cons] at t ⊢
    obtain ⟨t1, t2⟩ := List.pairwise_cons.mp t
    rw [List.map_cons]
    refine List.pairwise_cons.mpr ⟨fun z hz => ?_, t⟩
    rcases List.mem_cons.mp hz with rfl | hz
    · exact h'.1
    · exact List.le_trans h'.1 (t1 z hz)
theorem sortedS_pw : ∀ r : List Str, sortedS r = true → (r.map un0).Pairwise (· ≤ ·)
  | [], _ => .nil
  | x :: r, h => risingS_pw r x h
theorem sorted_texts {ys : List Str} {ns : List (List Nat)} (hp : ys.Perm (ns.map str0)) (hs : sortedS ys = true) : ys = (sortT ns).map str0 := by
  have e := sortT_uniq (b := ns) (by rw [← map_un0 ns]; exact hp.map un0) (sortedS_pw ys hs)
  rw [← e, map_str0]
section
variable {X : Cx}
/-- sorted(xs), texts, any number of them -/
theorem cr_sortTx : CallR X (.builtin "sorted") (fun vs H Q => ∃ (a : Addr) (xs : List Str), vs = [V.ref a] ∧ SqL X.K H a (xs.map V.str) ∧
    ∀ (ys : List Str) (p : Addr), ys.Perm xs → sortedS ys = true → H p = none → Q (.ref p) (upd H p (.lst (ys.map V.str)))) := by
  intro pins s σ H vs us Q I r h
  obtain ⟨a, xs, rfl, hs, q⟩ := h
  obtain ⟨its, rv, hl, hz⟩ := I.list hs
  rw [Vals.ref1 r]
  refine sorted_strsAny hl.isList rv.strs (by rw [← rv.length]; exact hz) fun out ys h1 h2 h3 => ?_
  obtain ⟨ep, at'⟩ := sortedAll_at s.heap its out
  have len : (ys.map V.str).length ≤ sizeLine := by
    rw [List.length_map, h2.length_eq, ← List.length_map (f := V.str)]
    exact hz
  exact ⟨.ref _, upd H (s.heap.objs.size + 1) (.lst (ys.map V.str)), I.laid (t' := s.toks) (fun _ _ => sortedAll_old) (Nat.le_succ _) ⟨len, out.toList, ep, vals_of_strs h1, at'⟩, rfl, q ys _ h2 h3 (I.hok.fresh (Nat.le_succ _))⟩
end
section
variable {P : Program} {w : World} {A : Around} {E : Value → Shared → Prop} {s : Shared}
theorem strs_perm {us vs : List Value} {xs : List Str} (h : StrsAre us xs) (p : vs.Perm us) : ∃ ys, StrsAre vs ys ∧ ys.Perm xs := by
  refine ⟨vs.map strOf, strsAre_map vs fun v hv => h.all v (p.mem_iff.mp hv), ?_⟩
  have q := p.map strOf
  rwa [h.strs] at q
theorem sorted_tuple {t : Addr} {vs : List Value} {xs : List Str} {Q : Value → Shared → Prop} (ht : IsTup s.heap t vs.toArray) (hx : StrsAre vs xs) (len : vs.length ≤ sizeLine)
    (q : ∀ (h' : Heap) (s' : Shared) out c ys, (∀ b o, s.heap.get? b = some o → h'.get? b = some o) → (∀ b o, h'.get? b = some o → s'.heap.get? b = some o) → s'.gens = s.gens → s'.os = s.os → s'.heap.get? h'.objs.size = some (seqObj "list" out c) →
      StrsAre out.toList ys → ys.Perm xs → sortedS ys = true → Q (.ref h'.objs.size) s') : wpAny (model P w) A (call (.builtin "sorted") [.ref t]) Q E s := by
  obtain ⟨o, ho, hc, n, hd⟩ := ht
  refine Calls.call_function_entry kind_sorted plain_sorted entry_sorted (args_sorted1 _) ?_
  unfold Builtin.«sorted»
  refine wpAny_bind (m := checkCount "sorted" 1 1 _) (wpAny_pure (wpAny_bind (wpAny_collect_seq (A := A.in1) t (.inr rfl) ho hc hd (fun h' k1 => ?_) (by rw [List.size_toArray]; exact len))))
  show wpAny _ _ (newList vs >>= _) _ _ _
  refine wpAny_bind (wpAny_newList ?_ len)
  have ol : (h'.push (seqObj "list" vs.toArray 0)).get? h'.objs.size = some (seqObj "list" vs.toArray 0) := Heap.get?_push_size _ rfl
  refine wpAny_bind (wpAny_holding (wpAny_call_entry slot_list_sort ⟨_, ol, rfl⟩ entry_list_sort (list_sort_treeKAny strKind_oneLt ol hx.keysOf (fun v1 v2 r e => keyKind_strs (by rw [← e]; exact hx)) len fun st hp hs => ⟨_, rfl, ?_⟩) (args_list_sort _)))
  obtain ⟨ys, a1, a2, a3⟩ := sorted_out_str hx hp hs
  obtain ⟨c, hc⟩ := sortedHeap_at (vs := vs) (out := (arrOf st).map (·.2)) ol
  refine wpAny_pure ⟨_, rfl, q h' _ _ c ys k1 (fun b u e => ?_) rfl rfl hc a1 a2 a3⟩
  have lt := Heap.lt_size e
  show (sortedHeap (h'.push (seqObj "list" vs.toArray 0)) h'.objs.size vs ((arrOf st).map (·.2))).get? b = some u
  rw [sortedHeap_old (Nat.ne_of_lt lt) (by rw [size_push']; exact Nat.lt_succ_of_lt lt)]
  exact Heap.get?_push_of_some _ e
end
section
variable {X : Cx}
/-- sorted(t), texts -/
theorem cr_sortTt : CallR X (.builtin "sorted") (fun vs H Q => ∃ (a : Addr) (xs : List Str), vs = [V.ref a] ∧ SqT X.K H a (xs.map V.str) ∧
    ∀ (ys : List Str) (p : Addr), ys.Perm xs → sortedS ys = true → H p = none → Q (.ref p) (upd H p (.lst (ys.map V.str)))) := by
  intro pins s σ H vs us Q I r h
  obtain ⟨a, xs, rfl, hs, q⟩ := h
  obtain ⟨its, rv, hl, hz⟩ := I.tuple hs
  rw [Vals.ref1 r]
  refine sorted_tuple hl rv.strs (by rw [← rv.length]; exact hz) fun h' s' out c ys k1 k g o at' hs pm so => ?_
  have J : Inv X pins σ H { s with heap := h' } := I.kept (t' := s.toks) k1
  have hp : ({ s with heap := h' } : Shared).heap.objs.size ≤ h'.objs.size := Nat.le_refl _
  have new := J.hok.fresh hp
  refine ⟨.ref h'.objs.size, upd H h'.objs.size (.lst (ys.map V.str)), J.call' (ch := []) o (Un.laid k hp new) (J.hok.laid k hp ⟨?_, out.toList, c, vals_of_strs hs, at'⟩) (by rw [g]; exact J.bare) (fun _ z => nomatch z), rfl, q ys _ pm so new⟩
  rw [List.length_map, pm.length_eq, ← List.length_map (f := V.str)]
  exact hz
/-- the built-in functions that are no types -/
def bName : Bi → Option String
  | .len => some "len" | .abs => some "abs" | .sorted => some "sorted" | .all => some "all" | .any => some "any" | .min => some "min" | .max => some "max"
  | _ => none
def tName : Bi → Option String
  | .int => some "int" | .list => some "list" | .tuple => some "tuple" | .str => some "str"
  | _ => none
theorem all_isB : ∀ ns : List Bool, (ns.map D.bl).all MP.isB = ns.all id
  | [] => rfl
  | b :: r => by
    simp only [List.map_cons, List.all_cons, all_isB r]
    cases b <;> rfl
theorem any_isB : ∀ ns : List Bool, (ns.map D.bl).any MP.isB = ns.any id
  | [] => rfl
  | b :: r => by
    simp only [List.map_cons, List.any_cons, any_isB r]
    cases b <;> rfl
theorem call_bi (hc : X.calm = true) (b : Bi) (n : String) (hb : bName b = some n) : CallR X (.builtin n) (rBi X.K b) := by
  intro pins s σ H xs us Q I rs h
  obtain ⟨M, ds, r, mok, wx, hr, q⟩ := h
  unfold biD at hr
  split at hr
  · cases hb; cases hr
    obtain ⟨v, rfl, w⟩ := wx.one
    obtain ⟨a, ys, rfl, h, r1, l⟩ := w.lst
    refine call_len_seq pins s σ H _ us Q I rs ⟨a, ys, rfl, .inl (SqL.of h), ?_⟩
    rw [r1.length]
    exact q _ _ (new_int _)
  · cases hb; cases hr
    obtain ⟨v, rfl, w⟩ := wx.one
    obtain ⟨a, ys, rfl, h, r1, l⟩ := w.scr
    refine call_len_seq pins s σ H _ us Q I rs ⟨a, ys, rfl, .inl h, ?_⟩
    rw [r1.length]
    exact q _ _ (new_int _)
  · cases hb; cases hr
    obtain ⟨v, rfl, w⟩ := wx.one
    obtain ⟨a, ys, rfl, h, r1, l⟩ := w.tup
    refine call_len_seq pins s σ H _ us Q I rs ⟨a, ys, rfl, .inr h.sq, ?_⟩
    rw [r1.length]
    exact q _ _ (new_int _)
  · cases hb; cases hr
    obtain ⟨v, rfl, w⟩ := wx.one
    obtain ⟨a, ys, rfl, h, r1, l⟩ := w.duo
    refine call_len_seq pins s σ H _ us Q I rs ⟨a, ys, rfl, .inr (SqT.of h), ?_⟩
    rw [r1.length]
    exact q _ _ (new_int _)
  · cases hb; cases hr
    obtain ⟨v, rfl, w⟩ := wx.one
    obtain ⟨rfl, o, l⟩ := w.str
    refine call_len_str pins s σ H _ us Q I rs ⟨_, rfl, ?_, ?_⟩
    · rw [str0_len]; exact big_line l
    · rw [str0_len]; exact q _ _ (new_int _)
  · cases hb; cases hr
    obtain ⟨v, rfl, w⟩ := wx.one
    cases w.int
    exact call_abs pins s σ H _ us Q I rs ⟨_, rfl, q _ _ (new_int _)⟩
  · cases hb
  · cases hb
  · cases hb
  · cases hb
  · cases hb
  · cases hb
  · cases hb
  · cases hb
  · cases hb
    split at hr
    · rename_i hl
      cases hr
      obtain ⟨v, rfl, w⟩ := wx.one
      obtain ⟨a, ys, rfl, h, r1, l⟩ := w.lst
      obtain ⟨ns, rfl⟩ := allI_map hl
      cases r1.ints
      refine cr_sortedI pins s σ H _ us Q I rs ⟨a, ns, rfl, SqL.of h, fun ns' p hp hs hn => ?_⟩
      have e := sortI_uniq hp hs
      subst e
      rw [isort_int] at q
      refine q _ _ (new_lst hn (repL_ints _) ?_)
      rw [List.length_map, hp.length_eq]
      simpa using l
    · split at hr
      · rename_i hl
        cases hr
        obtain ⟨v, rfl, w⟩ := wx.one
        obtain ⟨a, ys, rfl, h, r1, l⟩ := w.lst
        obtain ⟨ns, rfl⟩ := allS_map hl
        obtain ⟨e, g⟩ := r1.strs
        subst e
        refine cr_sortTx pins s σ H _ us Q I rs ⟨a, ns.map str0, rfl, SqL.of h, fun ys p hp hs hn => ?_⟩
        have e := sorted_texts hp hs
        subst e
        rw [isort_str] at q
        refine q _ _ (new_lst hn (repL_strs fun t ht => g t ((sortT_perm ns).mem_iff.mp ht)) ?_)
        rw [List.length_map, (sortT_perm ns).length_eq]
        simpa using l
      · split at hr
        · rename_i hl
          cases hr
          obtain ⟨v, rfl, w⟩ := wx.one
          obtain ⟨a, ys, rfl, h, r1, l⟩ := w.lst
          obtain ⟨ts, rfl, ne, cm⟩ := allT_map hl
          rw [isort_dT] at q
          refine cr_sortF pins s σ H _ us Q I rs ⟨_, a, ys, rfl, SqL.of h, r1, by simpa using l, ne, cm, fun ys p r2 hn => ?_⟩
          refine q _ _ (new_lst hn r2 ?_)
          rw [List.length_map, (sortK_perm ts).length_eq]
          simpa using l
        · cases hr
  · cases hb
    split at hr
    · rename_i hl
      cases hr
      obtain ⟨v, rfl, w⟩ := wx.one
      obtain ⟨a, ys, rfl, h, r1, l⟩ := w.tup
      obtain ⟨ns, rfl⟩ := allS_map hl
      obtain ⟨e, g⟩ := r1.strs
      subst e
      refine cr_sortTt pins s σ H _ us Q I rs ⟨a, ns.map str0, rfl, h.sq, fun ys p hp hs hn => ?_⟩
      have e := sorted_texts hp hs
      subst e
      rw [isort_str] at q
      refine q _ _ (new_lst hn (repL_strs fun t ht => g t ((sortT_perm ns).mem_iff.mp ht)) ?_)
      rw [List.length_map, (sortT_perm ns).length_eq]
      simpa using l
    · cases hr
  · cases hb
  · cases hb
  · cases hb
    split at hr
    · rename_i hl
      cases hr
      obtain ⟨v, rfl, w⟩ := wx.one
      obtain ⟨a, ys, rfl, h, r1, l⟩ := w.lst
      obtain ⟨ns, rfl⟩ := allB_map hl
      cases r1.bls
      refine cr_all hc pins s σ H _ us Q I rs ⟨a, ns, rfl, SqL.of h, ?_⟩
      rw [all_isB] at q
      exact q _ _ (new_bl _)
    · cases hr
  · cases hb
    split at hr
    · rename_i hl
      cases hr
      obtain ⟨v, rfl, w⟩ := wx.one
      obtain ⟨a, ys, rfl, h, r1, l⟩ := w.lst
      obtain ⟨ns, rfl⟩ := allB_map hl
      cases r1.bls
      refine cr_any hc pins s σ H _ us Q I rs ⟨a, ns, rfl, SqL.of h, ?_⟩
      rw [any_isB] at q
      exact q _ _ (new_bl _)
    · cases hr
  · cases hb; cases hr
    obtain ⟨v, u, rfl, w1, w2⟩ := wx.two
    cases w1.int; cases w2.int
    exact call_min2 hc pins s σ H _ us Q I rs ⟨_, _, rfl, q _ _ (new_int _)⟩
  · cases hb; cases hr
    obtain ⟨v, u, rfl, w1, w2⟩ := wx.two
    cases w1.int; cases w2.int
    exact call_max2 hc pins s σ H _ us Q I rs ⟨_, _, rfl, q _ _ (new_int _)⟩
  · cases hb
  · cases hr
theorem chars_get : ∀ {s : List Nat} {i : Nat} {d : D}, (chars s)[i]? = some d → ∃ c, s[i]? = some c ∧ d = .str [c]
  | [], i, d, h => by simp [chars] at h
  | c :: r, 0, d, h => by simp [chars] at h; exact ⟨c, rfl, h.symm⟩
  | c :: r, i + 1, d, h => by
    simp only [chars, List.getElem?_cons_succ] at h
    obtain ⟨c', h1, h2⟩ := chars_get h
    exact ⟨c', by simpa using h1, h2⟩
theorem chars_len : ∀ s : List Nat, (chars s).length = s.length
  | [] => rfl
  | c :: r => by simp [chars, chars_len r]
theorem signs_rep {K : PySem.W.Frag} {M : Addr → Prop} {H : Hp} {s : List Nat} (o : okS s = true) : RepL K M H (signsV (str0 s)) (chars s) := by
  have key : ∀ r : List Nat, (∀ c ∈ r, okS [c] = true) → RepL K M H (r.map fun c => V.str ⟨#[c]⟩) (chars r) := by
    intro r
    induction r with
    | nil => exact fun _ => .nil
    | cons c r ih => exact fun h => .cons (.str [c] (h c List.mem_cons_self) (by show 1 ≤ 1000000; decide)) (ih fun d hd => h d (List.mem_cons_of_mem _ hd))
  refine key s fun c hc => ?_
  obtain ⟨j, hj, e⟩ := List.getElem_of_mem hc
  exact ok_one o (List.getElem?_eq_some_iff.mpr ⟨hj, e⟩)
theorem call_ti (hc : X.calm = true) (b : Bi) (n : String) (hb : tName b = some n) : CallR X (.type n) (rBi X.K b) := by
  intro pins s σ H xs us Q I rs h
  obtain ⟨M, ds, r, mok, wx, hr, q⟩ := h
  unfold biD at hr
  split at hr
  · cases hb
  · cases hb
  · cases hb
  · cases hb
  · cases hb
  · cases hb
  · cases hb; cases hr
    obtain ⟨v, rfl, w⟩ := wx.one
    cases w.int
    exact call_int1 pins s σ H _ us Q I rs (.inl ⟨_, rfl, q _ _ (new_int _)⟩)
  · cases hb; cases hr
    obtain ⟨v, rfl, w⟩ := wx.one
    cases w.bl
    exact call_int1 pins s σ H _ us Q I rs (.inr ⟨_, rfl, q _ _ (new_int _)⟩)
  · cases hb; cases hr
    obtain ⟨v, rfl, w⟩ := wx.one
    obtain ⟨a, ys, rfl, h, r1, l⟩ := w.lst
    exact call_list_of pins s σ H _ us Q I rs ⟨a, ys, rfl, .inl (SqL.of h), fun p hp => q _ _ (new_lst hp r1 l)⟩
  · cases hb; cases hr
    obtain ⟨v, rfl, w⟩ := wx.one
    obtain ⟨a, ys, rfl, h, r1, l⟩ := w.tup
    exact call_list_of pins s σ H _ us Q I rs ⟨a, ys, rfl, .inr h.sq, fun p hp => q _ _ (new_lst hp r1 l)⟩
  · cases hb; cases hr
    obtain ⟨v, rfl, w⟩ := wx.one
    obtain ⟨a, ys, rfl, h, r1, l⟩ := w.lst
    exact call_tupleE pins s σ H _ us Q I rs ⟨a, ys, rfl, .inl ⟨SqL.of h, fun p o hp hc hd => q _ _ (new_tup mok hp hc hd r1 l)⟩⟩
  · cases hb; cases hr
    obtain ⟨v, rfl, w⟩ := wx.one
    obtain ⟨a, ys, rfl, h, r1, l⟩ := w.tup
    exact call_tupleE pins s σ H _ us Q I rs ⟨a, ys, rfl, .inr ⟨h.sq, q _ _ (new_same (.tup h l r1))⟩⟩
  · cases hb; cases hr
    obtain ⟨v, rfl, w⟩ := wx.one
    obtain ⟨rfl, o, l⟩ := w.str
    exact cr_list_str hc pins s σ H _ us Q I rs ⟨_, rfl, by have := big_line l; rw [← str0_len] at this; exact this, fun p hp => q _ _ (new_lst hp (signs_rep o) (by rw [chars_len]; exact l))⟩
  · cases hb; cases hr
    obtain ⟨v, rfl, w⟩ := wx.one
    obtain ⟨rfl, o, l⟩ := w.str
    exact cr_tuple_str hc pins s σ H _ us Q I rs ⟨_, rfl, by have := big_line l; rw [← str0_len] at this; exact this, fun p ob hp h1 h2 => q _ _ (new_tup mok hp h1 h2 (signs_rep o) (by rw [chars_len]; exact l))⟩
  all_goals first | (cases hr; done) | (cases hb; done) | skip
  cases hb
  cases hr
  obtain ⟨v, rfl, w⟩ := wx.one
  obtain ⟨rfl, o, l⟩ := w.str
  exact SkE.call_str_str pins s σ H _ us Q I rs ⟨_, rfl, q _ _ (new_same (.str _ o l))⟩

/-! isinstance -/
def tyS : Ty → String
  | .bool => "bool" | .int => "int" | .str => "str" | .list => "list" | .tuple => "tuple" | .dict => "dict"
def dTy : D → String
  | .non => "NoneType" | .bl _ => "bool" | .int _ => "int" | .str _ => "str" | .lst _ => "list" | .tup _ => "tuple" | .scr _ => "list" | .duo _ => "tuple"
theorem kit_d (c : Ty) (d : D) : kitB (dTy d) (tyS c) = some (isTy c d) := by
  cases d <;> cases c <;> simp only [dTy, tyS, isTy] <;> decide +kernel
theorem tyx {K : PySem.W.Frag} {M : Addr → Prop} {H : Hp} {v : V} {d : D} (w : WR K M H v d) : TyX K H v (.type (dTy d)) := by
  cases d with
  | non => cases w; exact .base .non
  | bl b => cases w; exact .base (.bl b)
  | int i => cases w; exact .base (.int i)
  | str s => obtain ⟨rfl, _⟩ := w.str; exact .base (.str _)
  | lst ds => obtain ⟨a, xs, rfl, h, _⟩ := w.lst; exact .base (.lst h)
  | tup ds => obtain ⟨a, xs, rfl, ⟨o, h, _⟩, _⟩ := w.tup; exact .fTuple h
  | duo ds => obtain ⟨a, xs, rfl, h, _⟩ := w.duo; exact .base (.tup h)
  | scr ds =>
    obtain ⟨a, xs, rfl, h, _⟩ := w.scr
    rcases h with (h | ⟨o, h⟩) | ⟨o, its, n, h1, h2, _⟩
    · exact .base (.lst h)
    · exact .base (.frz h)
    · exact .kList h1 h2
theorem kitAny_d {K : PySem.W.Frag} (d : D) : ∀ cs : List Ty, PySem.W.kitAny K (.type (dTy d)) (cs.map fun c => .type (tyS c)) = some (cs.any fun c => isTy c d)
  | [] => kitAny_nil
  | c :: r => by
    rw [List.map_cons, List.any_cons]
    refine kitAny_cons (kit_ty (kit_d c d)) (fun e => ?_) fun e => by rw [e]; rfl
    rw [e, Bool.false_or]
    exact kitAny_d d r
end
end MP

set_option Elab.async false
set_option linter.all false
set_option maxRecDepth 100000
namespace MP
open PySem PySem.Spec PyProof.Rows L2
abbrev Cx := L2.Cx
abbrev Inv := @L2.Inv
theorem PE.imp {X : Cx} {e : Expr} {t t' : TE} (h : PE X e t) (i : ∀ σ H Q, t' σ H Q → t σ H Q) : PE X e t' := ⟨fun pins s σ H Q I q => h.run pins s σ H Q I (i σ H Q q)⟩
theorem PT.imp {X : Cx} {e : Expr} {t t' : TT} (h : PT X e t) (i : ∀ σ H Q, t' σ H Q → t σ H Q) : PT X e t' := ⟨fun pins s σ H Q I q => h.run pins s σ H Q I (i σ H Q q)⟩
theorem PW.imp {X : Cx} {e : Expr} {t t' : TT} (h : PW X e t) (i : ∀ σ H Q, t' σ H Q → t σ H Q) : PW X e t' := ⟨fun wh pins s σ H Q I q => h.run wh pins s σ H Q I (i σ H Q q)⟩
theorem PA.imp {X : Cx} {e : List Expr} {t t' : TA} (h : PA X e t) (i : ∀ σ H Q, t' σ H Q → t σ H Q) : PA X e t' := ⟨fun pos pins s σ H Q I q => h.run pos pins s σ H Q I (i σ H Q q)⟩
theorem PS.imp {X : Cx} {e : Stmt} {t t' : TS} (h : PS X e t) (i : ∀ D σ H, t' D σ H → t D σ H) : PS X e t' := ⟨fun pins s σ H D I q => h.run pins s σ H D I (i D σ H q)⟩
theorem PSs.imp {X : Cx} {e : List Stmt} {t t' : TS} (h : PSs X e t) (i : ∀ D σ H, t' D σ H → t D σ H) : PSs X e t' := ⟨fun pins s σ H D I q => h.run pins s σ H D I (i D σ H q)⟩
theorem PI.imp {X : Cx} {tg e : Expr} {t t' : TI} (h : PI X tg e t) (i : ∀ σ H R, t' σ H R → t σ H R) : PI X tg e t' := ⟨fun pins s σ H R I q => h.run pins s σ H R I (i σ H R q)⟩

/-! ### readings by meaning -/
section
variable (K : PySem.W.Frag) (mo : Nat → List Bool) (cf : CF)
def tE (m : ME) : TE := fun σ H Q => ∃ F M env env' r, Fr.Ok F ∧ SR K F M env σ H ∧ evR mo cf m env = some (env', r) ∧ ∀ M' H' v, SR K F M' env' σ H' → RR K F M' env' σ H' v r → Q v H'
def tT (m : ME) : TT := fun σ H Q => ∃ F M env env' r, Fr.Ok F ∧ SR K F M env σ H ∧ evR mo cf m env = some (env', r) ∧ ∀ M' H', SR K F M' env' σ H' → Q (tru r.fz) H'
def tO : ME → TE
  | .var i => tVar i
  | m => tE K mo cf m
/-- a value as an operand holds it -/
def OV (M : Addr → Prop) (σ : St) (H : Hp) (v : V) : OP → Prop
  | .rd i => σ[i]? = some (some v)
  | .dv d => Rep K M H v d
def OVL (M : Addr → Prop) (σ : St) (H : Hp) : List V → List OP → Prop
  | [], [] => True
  | v :: vs, o :: os => OV K M σ H v o ∧ OVL M σ H vs os
  | _, _ => False
def tL (m : ME) : TA := fun σ H Q => ∃ F M env env' ds, Fr.Ok F ∧ SR K F M env σ H ∧ evL mo cf m env = some (env', ds) ∧ ∀ M' H' vs, SR K F M' env' σ H' → RepL K M' H' vs ds → Q vs H'
def tOs (m : ME) : TA := fun σ H Q => ∃ F M env env' os, Fr.Ok F ∧ SR K F M env σ H ∧ evO mo cf m env = some (env', os) ∧ ∀ M' H' vs, SR K F M' env' σ H' → OVL K M' σ H' vs os → Q vs H'
end
section
variable {K : PySem.W.Frag} {mo : Nat → List Bool} {cf : CF} {F : Fr} {M M' : Addr → Prop} {env env' e1 : En} {σ σ' : St} {H H' : Hp} {m : ME} {r : RV} {Q : VK}
theorem tE_go (ok : F.Ok) (S : SR K F M env σ H) (e : evR mo cf m env = some (e1, r)) (h : ∀ M' H' v, SR K (snap F M env σ H) M' e1 σ H' → SR K F M' e1 σ H' → RR K F M' e1 σ H' v r → Q v H') : tE K mo cf m σ H Q :=
  ⟨_, M, env, e1, r, S.snapOk, S.snap, e, fun M' H' v T R => h M' H' v T (S.trans T) (R.trans S)⟩
theorem tV_go (ok : F.Ok) (S : SR K F M env σ H) (e : evR mo cf m env = some (e1, r)) (h : ∀ M' H' v, SR K (snap F M env σ H) M' e1 σ H' → SR K F M' e1 σ H' → Rep K M' H' v r.fz → Q v H') : tE K mo cf m σ H Q := by
  refine ⟨_, M, env, e1, r, S.snapOk, S.snap, e, fun M' H' v T R => ?_⟩
  obtain ⟨M2, T2, R2, _⟩ := T.fz S.snapOk R
  exact h M2 H' v T2 (S.trans T2) R2
theorem tT_go {Q : Bool → Hp → Prop} (ok : F.Ok) (S : SR K F M env σ H) (e : evR mo cf m env = some (e1, r)) (h : ∀ M' H', SR K (snap F M env σ H) M' e1 σ H' → SR K F M' e1 σ H' → Q (tru r.fz) H') : tT K mo cf m σ H Q :=
  ⟨_, M, env, e1, r, S.snapOk, S.snap, e, fun M' H' T => h M' H' T (S.trans T)⟩
theorem tO_go {oa : OP} (ok : F.Ok) (S : SR K F M env σ H) (e : opd m (evR mo cf m env) env = some (e1, oa)) (h : ∀ M' H' v, SR K (snap F M env σ H) M' e1 σ H' → SR K F M' e1 σ H' → OV K M' σ H' v oa → Q v H') : tO K mo cf m σ H Q := by
  cases m with
  | var i =>
    simp only [opd] at e
    split at e
    case h_2 => cases e
    rename_i d hd
    cases e
    obtain ⟨v, ev, _⟩ := S.peek hd
    exact ⟨v, ev, h M H v S.snap S ev⟩
  | _ =>
    simp only [opd] at e
    split at e
    · rename_i e2 r e3
      cases e
      exact tV_go ok S e3 h
    · cases e
theorem OV.next {v : V} {o : OP} (S : SR K F M env σ H) (h : OV K M σ H v o) (T : SR K (snap F M env σ H) M' env' σ H') : OV K M' σ H' v o := by
  cases o with
  | rd i => exact h
  | dv d => exact S.rep T h
theorem OV.wr {v : V} {o : OP} {x : D} (S : SR K F M env σ H) (h : OV K M σ H v o) (e : rdO env o = some x) : WR K M H v x := by
  cases o with
  | rd i =>
    obtain ⟨v', e2, w⟩ := S.peek e
    have h : σ[i]? = some (some v) := h
    rw [h] at e2
    cases e2
    exact w
  | dv d =>
    cases e
    exact .of h
end
end MP

set_option Elab.async false
set_option linter.all false
set_option maxRecDepth 100000
namespace MP
open PySem PySem.Spec PyProof.Rows L2
section
variable {X : Cx} {mo : Nat → List Bool} {cf : CF}

theorem snd_op {m : ME} {e : Expr} (h : PE X e (tE X.K mo cf m)) (hv : ∀ i, m = .var i → PE X e (tVar i)) : PE X e (tO X.K mo cf m) := by
  cases m with
  | var i => exact hv i rfl
  | _ => exact h
theorem snd_var {i : Nat} {e : Expr} (h : PE X e (tVar i)) : PE X e (tE X.K mo cf (.var i)) := PE.imp h fun σ H Q q => by
  obtain ⟨F, M, env, env', r, ok, S, e, q⟩ := q
  simp only [evR] at e
  split at e
  · rename_i d e2
    cases e
    obtain ⟨v, e3, rp⟩ := S.sh _ _ e2
    exact ⟨v, e3, q M H v S rp⟩
  · rename_i ds e2
    cases e
    obtain ⟨M', a, S', e3, rp, _⟩ := S.fzSlot e2
    exact ⟨_, e3, q M' H _ S' rp⟩
  · cases e
/-- a constant's value -/
def kV : D → Option V
  | .non => some .non
  | .bl b => some (.bl b)
  | .int i => some (.int i)
  | .str s => if okS s && lenOk s.length then some (.str (str0 s)) else none
  | _ => none
theorem snd_k {d : D} {v : V} {e : Expr} (h : PE X e (tC v)) (hv : kV d = some v) : PE X e (tE X.K mo cf (.k d)) := PE.imp h fun σ H Q q => by
  obtain ⟨F, M, env, env', r, ok, S, e, q⟩ := q
  simp only [evR] at e
  cases e
  refine q M H v S ?_
  cases d with
  | non => cases hv; exact .non
  | bl b => cases hv; exact .bl b
  | int i => cases hv; exact .int i
  | str s =>
    simp only [kV] at hv
    split at hv
    · rename_i hs
      cases hv
      rw [Bool.and_eq_true] at hs
      exact .str s hs.1 (lenOk_le hs.2)
    · cases hv
  | _ => cases hv
theorem snd_bin {op : BOp} {a b : ME} {x y : Expr} {p : Pos} (ha : PE X x (tO X.K mo cf a)) (hb : PE X y (tO X.K mo cf b)) : PE X (.BinOp x (pyOp op) y p) (tE X.K mo cf (.bin op a b)) :=
  PE.imp (pe_op (op_bin op) ha hb) fun σ H Q q => by
    obtain ⟨F, M, env, env', r, ok, S, e, q⟩ := q
    simp only [evR] at e
    split at e
    case h_2 => cases e
    rename_i e1 oa h1
    split at e
    case h_2 => cases e
    rename_i e2 ob h2
    split at e
    case h_2 => cases e
    rename_i dx dy hx hy
    split at e
    case h_2 => cases e
    rename_i r2 hr
    cases e
    refine tO_go ok S h1 fun M1 H1 v T1 S1 o1 => tO_go ok S1 h2 fun M2 H2 u T2 S2 o2 => ?_
    refine ⟨M2, dx, dy, r, S2.mok, (o1.next S1 T2).wr S2 hx, o2.wr S2 hy, hr, fun w H' n => ?_⟩
    obtain ⟨M3, S3, R3⟩ := S2.new n
    exact q M3 H' w S3 R3
theorem snd_neg {a : ME} {x : Expr} {p : Pos} (ha : PE X x (tE X.K mo cf a)) : PE X (.UnaryOp .USub x p) (tE X.K mo cf (.neg a)) :=
  PE.imp (pe_un un_neg ha) fun σ H Q q => by
    obtain ⟨F, M, env, env', r, ok, S, e, q⟩ := q
    simp only [evR] at e
    split at e
    case h_2 => cases e
    rename_i e1 i h1
    cases e
    refine tE_go ok S h1 fun M1 H1 v T1 S1 R1 => ?_
    cases R1
    exact ⟨i, rfl, q M1 H1 _ S1 (.int _)⟩
theorem snd_not {a : ME} {x : Expr} {p : Pos} (ha : PE X x (tO X.K mo cf a)) : PE X (.UnaryOp .Not x p) (tE X.K mo cf (.not a)) :=
  PE.imp (pe_notT ha) fun σ H Q q => by
    obtain ⟨F, M, env, env', r, ok, S, e, q⟩ := q
    simp only [evR] at e
    split at e
    case h_2 => cases e
    rename_i e1 oa h1
    split at e
    case h_2 => cases e
    rename_i d hd
    cases e
    exact tO_go ok S h1 fun M1 H1 v T1 S1 o1 => ⟨_, tru_w (o1.wr S1 hd), q M1 H1 _ S1 (.bl _)⟩
theorem snd_one {a : ME} {x : Expr} {op : BoolOp} {p : Pos} (ha : PE X x (tE X.K mo cf a)) : PE X (.BoolOp op [x] p) (tE X.K mo cf (.one a)) := PE.imp (pe_one ha) fun _ _ _ q => by
  obtain ⟨F, M, env, env', r, ok, S, e, q⟩ := q
  simp only [evR] at e
  exact ⟨F, M, env, env', r, ok, S, e, q⟩
theorem rr_wr {K : PySem.W.Frag} {F : Fr} {M : Addr → Prop} {env : En} {σ : St} {H : Hp} {v : V} {r : RV} (h : RR K F M env σ H v r) : WR K M H v r.fz := by
  cases r with
  | sh d => exact .of h
  | own ds =>
    obtain ⟨a, rfl, h⟩ := h
    obtain ⟨xs, e, r⟩ := h.at_
    exact ⟨a, xs, rfl, e, r, h.l⟩
theorem snd_and {a b : ME} {x y : Expr} {r : List Expr} {p : Pos} (ha : PE X x (tE X.K mo cf a)) (hb : PE X (.BoolOp .And (y :: r) p) (tE X.K mo cf b)) : PE X (.BoolOp .And (x :: y :: r) p) (tE X.K mo cf (.and a b)) :=
  PE.imp (pe_andT ha hb) fun σ H Q q => by
    obtain ⟨F, M, env, env', r, ok, S, e, q⟩ := q
    simp only [evR] at e
    split at e
    case h_2 => cases e
    rename_i e1 ra h1
    refine tE_go ok S h1 fun M1 H1 v T1 S1 R1 => ⟨_, tru_w (rr_wr R1), ?_⟩
    split at e
    · rename_i ht
      rw [if_pos ht]
      exact ⟨F, M1, e1, env', r, ok, S1, e, q⟩
    · rename_i ht
      rw [if_neg ht]
      cases e
      exact q M1 H1 v S1 R1
theorem snd_or {a b : ME} {x y : Expr} {r : List Expr} {p : Pos} (ha : PE X x (tE X.K mo cf a)) (hb : PE X (.BoolOp .Or (y :: r) p) (tE X.K mo cf b)) : PE X (.BoolOp .Or (x :: y :: r) p) (tE X.K mo cf (.or a b)) :=
  PE.imp (pe_orT ha hb) fun σ H Q q => by
    obtain ⟨F, M, env, env', r, ok, S, e, q⟩ := q
    simp only [evR] at e
    split at e
    case h_2 => cases e
    rename_i e1 ra h1
    refine tE_go ok S h1 fun M1 H1 v T1 S1 R1 => ⟨_, tru_w (rr_wr R1), ?_⟩
    split at e
    · rename_i ht
      rw [if_pos ht]
      cases e
      exact q M1 H1 v S1 R1
    · rename_i ht
      rw [if_neg ht]
      exact ⟨F, M1, e1, env', r, ok, S1, e, q⟩
theorem snd_cmp (hu : X.A.units + 66 < cLine) {op : COp} {a b : ME} {x y : Expr} {p : Pos} (ha : PE X x (tO X.K mo cf a)) (hb : PE X y (tO X.K mo cf b)) (hm : behindInMarks (pyC op) y = false) :
    PE X (.Compare x [pyC op] [y] p) (tE X.K mo cf (.cmp op a b)) ∧ PT X (.Compare x [pyC op] [y] p) (tT X.K mo cf (.cmp op a b)) := by
  have key : ∀ {σ H} {Q : VK}, (∃ F M env env' r, Fr.Ok F ∧ SR X.K F M env σ H ∧ evR mo cf (.cmp op a b) env = some (env', r) ∧ ∀ M' H' v, SR X.K F M' env' σ H' → ∀ c, r = .sh (.bl c) → v = .bl c → Q v H') →
      tOp (rCmp X.K op) (tO X.K mo cf a) (tO X.K mo cf b) σ H Q := fun {σ H Q} q => by
    obtain ⟨F, M, env, env', r, ok, S, e, q⟩ := q
    simp only [evR] at e
    split at e
    case h_2 => cases e
    rename_i e1 oa h1
    split at e
    case h_2 => cases e
    rename_i e2 ob h2
    split at e
    case h_2 => cases e
    rename_i dx dy hx hy
    split at e
    case h_2 => cases e
    rename_i r2 hr
    cases e
    exact tO_go ok S h1 fun M1 H1 v T1 S1 o1 => tO_go ok S1 h2 fun M2 H2 u T2 S2 o2 => ⟨M2, dx, dy, r2, S2.mok, (o1.next S1 T2).wr S2 hx, o2.wr S2 hy, hr, q M2 H2 _ S2 _ rfl rfl⟩
  refine ⟨PE.imp (pe_cmpR (op_cmp hu op) ha hb hm) fun σ H Q q => key ?_, PT.imp (pt_cmpR (op_cmp hu op) ha hb hm) fun σ H Q q => key ?_⟩
  · obtain ⟨F, M, env, env', r, ok, S, e, q⟩ := q
    exact ⟨F, M, env, env', r, ok, S, e, fun M' H' v S' c hr hv => q M' H' v S' (by rw [hr, hv]; exact .bl c)⟩
  · obtain ⟨F, M, env, env', r, ok, S, e, q⟩ := q
    exact ⟨F, M, env, env', r, ok, S, e, fun M' H' v S' c hr hv => ⟨c, hv, by have := q M' H' S'; rw [hr] at this; exact this⟩⟩
theorem snd_chain (hu : X.A.units + 66 < cLine) {o1 o2 : COp} {a b c : ME} {x y z : Expr} {p : Pos} (ha : PE X x (tE X.K mo cf a)) (hb : PE X y (tE X.K mo cf b)) (hc : PE X z (tE X.K mo cf c)) (hm : lastMarks [pyC o1, pyC o2] [y, z] = false) :
    PE X (.Compare x [pyC o1, pyC o2] [y, z] p) (tE X.K mo cf (.chain o1 o2 a b c)) ∧ PT X (.Compare x [pyC o1, pyC o2] [y, z] p) (tT X.K mo cf (.chain o1 o2 a b c)) := by
  have key : ∀ {σ H} {Q : VK}, (∃ F M env env' r, Fr.Ok F ∧ SR X.K F M env σ H ∧ evR mo cf (.chain o1 o2 a b c) env = some (env', r) ∧ ∀ M' H' v, SR X.K F M' env' σ H' → ∀ c, r = .sh (.bl c) → v = .bl c → Q v H') →
      tChain (rCmp X.K o1) (rCmp X.K o2) (tE X.K mo cf a) (tE X.K mo cf b) (tE X.K mo cf c) σ H Q := fun {σ H Q} q => by
    obtain ⟨F, M, env, env', r, ok, S, e, q⟩ := q
    simp only [evR] at e
    split at e
    case h_2 => cases e
    rename_i e1 ra h1
    split at e
    case h_2 => cases e
    rename_i e2 rb h2
    refine tV_go ok S h1 fun M1 H1 v T1 S1 R1 => tV_go ok S1 h2 fun M2 H2 u T2 S2 R2 => ?_
    have R1' := S1.rep T2 R1
    split at e
    · rename_i hk
      split at e
      case h_2 => cases e
      rename_i e3 rc h3
      split at e
      case h_2 => cases e
      rename_i r2 hr
      cases e
      refine ⟨M2, _, _, true, S2.mok, .of R1', .of R2, hk, true, rfl, ?_⟩
      rw [if_pos rfl]
      refine tV_go ok S2 h3 fun M3 H3 w T3 S3 R3 => ?_
      exact ⟨M3, _, _, r2, S3.mok, .of (S2.rep T3 R2), .of R3, hr, q M3 H3 _ S3 _ rfl rfl⟩
    · rename_i hk
      cases e
      refine ⟨M2, _, _, false, S2.mok, .of R1', .of R2, hk, false, rfl, ?_⟩
      rw [if_neg Bool.false_ne_true]
      exact q M2 H2 _ S2 _ rfl rfl
    · cases e
  refine ⟨PE.imp (pe_chain (op_cmp hu o1) (op_cmp hu o2) ha hb hc hm) fun σ H Q q => key ?_, PT.imp (pt_chain (op_cmp hu o1) (op_cmp hu o2) ha hb hc hm) fun σ H Q q => key ?_⟩
  · obtain ⟨F, M, env, env', r, ok, S, e, q⟩ := q
    exact ⟨F, M, env, env', r, ok, S, e, fun M' H' v S' c hr hv => q M' H' v S' (by rw [hr, hv]; exact .bl c)⟩
  · obtain ⟨F, M, env, env', r, ok, S, e, q⟩ := q
    exact ⟨F, M, env, env', r, ok, S, e, fun M' H' v S' c hr hv => ⟨c, hv, by have := q M' H' S'; rw [hr] at this; exact this⟩⟩
/-- a value's truth -/
theorem snd_truth {m : ME} {e : Expr} (h : PE X e (tE X.K mo cf m)) (he : ∀ whole, isTrue e X.env whole = (do let v ← whole; standAt e.pos; holding [v] (truthy v))) : PT X e (tT X.K mo cf m) :=
  PT.imp (pt_truth h he) fun σ H Q q => by
    obtain ⟨F, M, env, env', r, ok, S, e, q⟩ := q
    exact ⟨F, M, env, env', r, ok, S, e, fun M' H' v S' R => ⟨_, tru_w (rr_wr R), q M' H' S'⟩⟩
/-- a test at a name looks at it -/
def tP (K : PySem.W.Frag) (mo : Nat → List Bool) (cf : CF) (m : ME) : TT := fun σ H Q => ∃ F M env env' b, Fr.Ok F ∧ SR K F M env σ H ∧ tst m (evR mo cf m env) env = some (env', b) ∧ ∀ M' H', SR K F M' env' σ H' → Q b H'
theorem snd_peekT {i : Nat} {e : Expr} (h : PE X e (tVar i)) (he : ∀ whole, isTrue e X.env whole = (do let v ← whole; standAt e.pos; holding [v] (truthy v))) : PT X e (tP X.K mo cf (.var i)) :=
  PT.imp (pt_truth h he) fun σ H Q q => by
    obtain ⟨F, M, env, env', b, ok, S, e, q⟩ := q
    simp only [tst] at e
    split at e
    case h_2 => cases e
    rename_i d hd
    cases e
    obtain ⟨v, e2, w⟩ := S.peek hd
    exact ⟨v, e2, _, tru_w w, q M H S⟩
theorem snd_tst {m : ME} {e : Expr} (h : PT X e (tT X.K mo cf m)) (hv : ∀ i, m = .var i → PT X e (tP X.K mo cf (.var i))) (hn : m ≠ .nop) : PT X e (tP X.K mo cf m) := by
  have key : (∀ i, m ≠ .var i) → PT X e (tP X.K mo cf m) := fun hne => PT.imp h fun σ H Q q => by
    obtain ⟨F, M, env, env', b, ok, S, e, q⟩ := q
    have e' : ∃ r, evR mo cf m env = some (env', r) ∧ b = tru r.fz := by
      cases m with
      | var i => exact absurd rfl (hne i)
      | nop => exact absurd rfl hn
      | _ =>
        simp only [tst] at e
        split at e
        case h_2 => cases e
        rename_i e2 r h2
        cases e
        exact ⟨r, h2, rfl⟩
    obtain ⟨r, e2, rfl⟩ := e'
    exact ⟨F, M, env, env', r, ok, S, e2, q⟩
  cases m with
  | var i => exact hv i rfl
  | _ => exact key fun i z => by cases z
theorem snd_ite {c a b : ME} {t x y : Expr} {p : Pos} (hc : PT X t (tP X.K mo cf c)) (ha : PE X x (tE X.K mo cf a)) (hb : PE X y (tE X.K mo cf b)) : PE X (.IfExp t x y p) (tE X.K mo cf (.ite c a b)) :=
  PE.imp (pe_ifExp hc ha hb) fun σ H Q q => by
    obtain ⟨F, M, env, env', r, ok, S, e, q⟩ := q
    simp only [evR] at e
    split at e
    case h_2 => cases e
    rename_i e1 k h1
    refine ⟨F, M, env, e1, k, ok, S, h1, fun M1 H1 S1 => ?_⟩
    split at e
    · rename_i hk
      rw [if_pos hk]
      exact ⟨F, M1, e1, env', r, ok, S1, e, q⟩
    · rename_i hk
      rw [if_neg hk]
      exact ⟨F, M1, e1, env', r, ok, S1, e, q⟩
theorem snd_iteT {c a b : ME} {t x y : Expr} {p : Pos} (hc : PT X t (tP X.K mo cf c)) (ha : PT X x (tT X.K mo cf a)) (hb : PT X y (tT X.K mo cf b)) : PT X (.IfExp t x y p) (tT X.K mo cf (.ite c a b)) := by
  refine ⟨fun pins s σ H Q I q => ?_⟩
  obtain ⟨F, M, env, env', r, ok, S, e, q⟩ := q
  simp only [evR] at e
  split at e
  case h_2 => cases e
  rename_i e1 k h1
  refine isTrue_IfExp (thn (hc.run pins s σ H (fun b H' => b = k ∧ ∃ M', SR X.K F M' e1 σ H') I ⟨F, M, env, e1, k, ok, S, h1, fun M' H' S' => ⟨rfl, M', S'⟩⟩) fun c' s' h => ?_)
  obtain ⟨H1, I1, rfl, M1, S1⟩ := h
  cases c' with
  | true =>
    rw [if_pos rfl] at e ⊢
    exact ha.run pins s' σ H1 Q I1 ⟨F, M1, e1, env', r, ok, S1, e, q⟩
  | false =>
    rw [if_neg Bool.false_ne_true] at e ⊢
    exact hb.run pins s' σ H1 Q I1 ⟨F, M1, e1, env', r, ok, S1, e, q⟩
theorem snd_notT {a : ME} {x : Expr} {p : Pos} (ha : PT X x (tT X.K mo cf a)) (hv : ∀ i, a = .var i → PT X x (tP X.K mo cf (.var i))) (hn : a ≠ .nop) : PT X (.UnaryOp .Not x p) (tT X.K mo cf (.not a)) := by
  have h := snd_tst ha hv hn
  refine PT.imp (pt_not h) fun σ H Q q => ?_
  obtain ⟨F, M, env, env', r, ok, S, e, q⟩ := q
  simp only [evR] at e
  split at e
  case h_2 => cases e
  rename_i e1 oa h1
  split at e
  case h_2 => cases e
  rename_i d hd
  cases e
  refine ⟨F, M, env, env', tru d, ok, S, ?_, fun M' H' S' => q M' H' S'⟩
  cases a with
  | var i =>
    simp only [opd] at h1
    split at h1
    case h_2 => cases h1
    rename_i d' hd'
    cases h1
    have e2 : peek env i = some d := hd
    simp only [tst, e2]
  | nop => exact absurd rfl hn
  | _ =>
    simp only [opd] at h1
    split at h1
    case h_2 => cases h1
    rename_i e2 r2 h2
    cases h1
    cases hd
    simp only [tst, h2]
theorem snd_andW {a b : ME} {x y : Expr} {r : List Expr} {p : Pos} (ha : PT X x (tT X.K mo cf a)) (hb : PW X (.BoolOp .And (y :: r) p) (tT X.K mo cf b)) : PW X (.BoolOp .And (x :: y :: r) p) (tT X.K mo cf (.and a b)) :=
  PW.imp (pw_and ha hb) fun σ H Q q => by
    obtain ⟨F, M, env, env', r, ok, S, e, q⟩ := q
    simp only [evR] at e
    split at e
    case h_2 => cases e
    rename_i e1 ra h1
    refine tT_go ok S h1 fun M1 H1 T1 S1 => ?_
    split at e
    · rename_i ht
      rw [if_pos ht]
      exact ⟨F, M1, e1, env', r, ok, S1, e, q⟩
    · rename_i ht
      rw [if_neg ht]
      cases e
      have := q M1 H1 S1
      rw [Bool.not_eq_true] at ht
      rw [ht] at this
      exact this
theorem snd_orW {a b : ME} {x y : Expr} {r : List Expr} {p : Pos} (ha : PT X x (tT X.K mo cf a)) (hb : PW X (.BoolOp .Or (y :: r) p) (tT X.K mo cf b)) : PW X (.BoolOp .Or (x :: y :: r) p) (tT X.K mo cf (.or a b)) :=
  PW.imp (pw_or ha hb) fun σ H Q q => by
    obtain ⟨F, M, env, env', r, ok, S, e, q⟩ := q
    simp only [evR] at e
    split at e
    case h_2 => cases e
    rename_i e1 ra h1
    refine tT_go ok S h1 fun M1 H1 T1 S1 => ?_
    split at e
    · rename_i ht
      rw [if_pos ht]
      cases e
      have := q M1 H1 S1
      rw [ht] at this
      exact this
    · rename_i ht
      rw [if_neg ht]
      exact ⟨F, M1, e1, env', r, ok, S1, e, q⟩
theorem snd_oneW {a : ME} {x : Expr} {op : BoolOp} {p : Pos} (ha : PT X x (tT X.K mo cf a)) : PW X (.BoolOp op [x] p) (tT X.K mo cf (.one a)) := by
  have h : PW X (.BoolOp op [x] p) (tT X.K mo cf a) := by
    cases op with
    | And => exact pw_and1 ha
    | Or => exact pw_or1 ha
  exact PW.imp h fun σ H Q q => by
    obtain ⟨F, M, env, env', r, ok, S, e, q⟩ := q
    simp only [evR] at e
    exact ⟨F, M, env, env', r, ok, S, e, q⟩
/-! displays -/
theorem snd_nil : PA X [] (tL X.K mo cf .nil) := PA.imp pa_nil fun σ H Q q => by
  obtain ⟨F, M, env, env', ds, ok, S, e, q⟩ := q
  simp only [evL] at e
  cases e
  exact q M H [] S .nil
theorem snd_cons {a b : ME} {x : Expr} {xs : List Expr} (ha : PE X x (tE X.K mo cf a)) (hb : PA X xs (tL X.K mo cf b)) (hs : starEach (x :: xs) X.env = (false, eval x X.env) :: starEach xs X.env) : PA X (x :: xs) (tL X.K mo cf (.cons a b)) :=
  PA.imp (pa_cons ha hb hs) fun σ H Q q => by
    obtain ⟨F, M, env, env', ds, ok, S, e, q⟩ := q
    simp only [evL] at e
    split at e
    case h_2 => cases e
    rename_i e1 ra h1
    split at e
    case h_2 => cases e
    rename_i e2 xs2 h2
    cases e
    refine tV_go ok S h1 fun M1 H1 v T1 S1 R1 => ?_
    exact ⟨_, M1, e1, env', _, S1.snapOk, S1.snap, h2, fun M2 H2 vs T2 R2 => q M2 H2 (v :: vs) (S1.trans T2) (.cons (S1.rep T2 R1) R2)⟩
theorem snd_cat {a b : ME} {x : Expr} {p : Pos} {xs : List Expr} (ha : PE X x (tE X.K mo cf a)) (hb : PA X xs (tL X.K mo cf b)) : PA X (.Starred x p :: xs) (tL X.K mo cf (.cat a b)) :=
  PA.imp (StX.pa_star ha hb) fun σ H Q q => by
    obtain ⟨F, M, env, env', ds, ok, S, e, q⟩ := q
    simp only [evL] at e
    split at e
    case h_2 => cases e
    rename_i e1 ra h1
    split at e
    case h_2 => cases e
    rename_i zs hz
    split at e
    case h_2 => cases e
    rename_i e2 ys h2
    cases e
    refine tV_go ok S h1 fun M1 H1 v T1 S1 R1 => ?_
    have key : ∃ (p : Addr) (us : List V), v = V.ref p ∧ (SqT X.K H1 p us ∨ SqL X.K H1 p us) ∧ RepL X.K M1 H1 us zs := by
      generalize ra.fz = d at hz R1
      cases R1 with
      | @lst a us ds h hm hl r =>
        cases hz
        exact ⟨a, us, rfl, .inr (SqL.of h), r⟩
      | @tup a us ds h hl r =>
        cases hz
        exact ⟨a, us, rfl, .inl h.sq, r⟩
      | @duo a us ds h hl r =>
        cases hz
        exact ⟨a, us, rfl, .inl (SqT.of h), r⟩
      | _ => cases hz
    obtain ⟨p, us, rfl, hs, ru⟩ := key
    exact ⟨p, us, rfl, hs, _, M1, e1, env', _, S1.snapOk, S1.snap, h2, fun M2 H2 vs T2 R2 => q M2 H2 (us ++ vs) (S1.trans T2) ((S1.repL T2 ru).append R2)⟩
theorem snd_onil : PA X [] (tOs X.K mo cf .nil) := PA.imp pa_nil fun σ H Q q => by
  obtain ⟨F, M, env, env', ds, ok, S, e, q⟩ := q
  simp only [evO] at e
  cases e
  exact q M H [] S trivial
theorem OVL.next {K : PySem.W.Frag} {F : Fr} {M M' : Addr → Prop} {env env' : En} {σ : St} {H H' : Hp} (S : SR K F M env σ H) (T : SR K (snap F M env σ H) M' env' σ H') : ∀ {vs : List V} {os : List OP}, OVL K M σ H vs os → OVL K M' σ H' vs os
  | [], [], _ => trivial
  | _ :: _, _ :: _, h => ⟨h.1.next S T, OVL.next S T h.2⟩
  | [], _ :: _, h => h.elim
  | _ :: _, [], h => h.elim
theorem snd_ocons {a b : ME} {x : Expr} {xs : List Expr} (ha : PE X x (tO X.K mo cf a)) (hb : PA X xs (tOs X.K mo cf b)) (hs : starEach (x :: xs) X.env = (false, eval x X.env) :: starEach xs X.env) : PA X (x :: xs) (tOs X.K mo cf (.cons a b)) :=
  PA.imp (pa_cons ha hb hs) fun σ H Q q => by
    obtain ⟨F, M, env, env', ds, ok, S, e, q⟩ := q
    simp only [evO] at e
    split at e
    case h_2 => cases e
    rename_i e1 ra h1
    split at e
    case h_2 => cases e
    rename_i e2 xs2 h2
    cases e
    refine tO_go ok S h1 fun M1 H1 v T1 S1 R1 => ?_
    exact ⟨_, M1, e1, env', _, S1.snapOk, S1.snap, h2, fun M2 H2 vs T2 R2 => q M2 H2 (v :: vs) (S1.trans T2) ⟨R1.next S1 T2, R2⟩⟩
theorem snd_tup {es : ME} {xs : List Expr} {k : Nat} {p : Pos} (h : PA X xs (tL X.K mo cf es)) : PE X (.Tuple xs k p) (tE X.K mo cf (.tup es)) :=
  PE.imp (pe_tupE h) fun σ H Q q => by
    obtain ⟨F, M, env, env', r, ok, S, e, q⟩ := q
    simp only [evR] at e
    split at e
    case h_2 => cases e
    rename_i e1 ds h1
    split at e
    case isFalse => cases e
    rename_i hl
    cases e
    refine ⟨F, M, env, env', ds, ok, S, h1, fun M1 H1 vs S1 R1 => ⟨?_, fun p o hp hc hd => ?_⟩⟩
    · rw [R1.length]; exact big_line (lenOk_le hl)
    · obtain ⟨M3, S3, R3⟩ := S1.new (new_tup S1.mok hp hc hd R1 (lenOk_le hl))
      exact q M3 _ _ S3 R3
theorem snd_lst {es : ME} {xs : List Expr} {p : Pos} (h : PA X xs (tL X.K mo cf es)) : PE X (.List xs p) (tE X.K mo cf (.lst es)) :=
  PE.imp (pe_lst h) fun σ H Q q => by
    obtain ⟨F, M, env, env', r, ok, S, e, q⟩ := q
    simp only [evR] at e
    split at e
    case h_2 => cases e
    rename_i e1 ds h1
    split at e
    case isFalse => cases e
    rename_i hl
    cases e
    refine ⟨F, M, env, env', ds, ok, S, h1, fun M1 H1 vs S1 R1 => ⟨?_, fun p hp => ?_⟩⟩
    · rw [R1.length]; exact big_line (lenOk_le hl)
    · obtain ⟨M3, S3, R3⟩ := S1.new (new_lst hp R1 (lenOk_le hl))
      exact q M3 _ _ S3 R3
theorem rep_rg {K : PySem.W.Frag} {M : Addr → Prop} {H : Hp} : ∀ (n : Nat) (lo : Int), RepL K M H ((List.range n).map fun i : Nat => V.int (lo + (i : Nat))) (rangeL lo n)
  | 0, _ => .nil
  | n + 1, lo => by
    rw [List.range_succ_eq_map, List.map_cons, List.map_map]
    refine .cons ?_ ?_
    · rw [show lo + ((0 : Nat) : Int) = lo by omega]
      exact .int lo
    · have := rep_rg (K := K) (M := M) (H := H) n (lo + 1)
      rw [show (fun i : Nat => V.int (lo + 1 + (i : Nat))) = ((fun i : Nat => V.int (lo + (i : Nat))) ∘ Nat.succ) from funext fun i => by
        show V.int _ = V.int _
        congr 1
        omega] at this
      exact this
theorem rangeL_len0 : ∀ (lo : Int) (n : Nat), (rangeL lo n).length = n
  | _, 0 => rfl
  | lo, n + 1 => by rw [rangeL, List.length_cons, rangeL_len0]
/-- list(range(a)) -/
theorem snd_lrng {a : ME} {e : Expr} (h : PE X e (tLstRg (tRg1 (tE X.K mo cf a)))) : PE X e (tE X.K mo cf (.lrng a)) :=
  PE.imp h fun σ H Q q => by
    obtain ⟨F, M, env, env', r, ok, S, e, q⟩ := q
    simp only [evR] at e
    split at e
    case h_2 => cases e
    rename_i e1 j h1
    split at e
    case isFalse => cases e
    rename_i hb
    rw [Bool.and_eq_true] at hb
    have b1 := of_decide_eq_true hb.1
    have b2 := of_decide_eq_true hb.2
    cases e
    refine tE_go ok S h1 fun M1 H1 v T1 S1 R1 => ?_
    cases R1
    refine ⟨j, rfl, ⟨by omega, by omega, by omega, by omega, by omega⟩, fun p hp => ?_⟩
    have rr := rep_rg (K := X.K) (M := M1) (H := H1) j.toNat 0
    have e0 : rgV 0 j = (List.range j.toNat).map fun i : Nat => V.int (0 + (i : Nat)) := by
      unfold rgV
      rw [show (j - 0).toNat = j.toNat by omega]
    rw [e0]
    obtain ⟨M3, S3, R3⟩ := S1.new (new_lst hp rr (by rw [rangeL_len0]; show j.toNat ≤ 1000000; omega))
    exact q M3 _ _ S3 R3
theorem snd_ix {a b : ME} {x y : Expr} {p : Pos} (ha : PE X x (tO X.K mo cf a)) (hb : PE X y (tO X.K mo cf b)) (hs : PlainIx y) : PE X (.Subscript x y p) (tE X.K mo cf (.ix a b)) :=
  PE.imp (pe_ix ix_d ha hb hs) fun σ H Q q => by
    obtain ⟨F, M, env, env', r, ok, S, e, q⟩ := q
    simp only [evR] at e
    split at e
    case h_2 => cases e
    rename_i e1 oa h1
    split at e
    case h_2 => cases e
    rename_i e2 ob h2
    split at e
    case h_2 => cases e
    rename_i dx dy hx hy
    split at e
    case h_2 => cases e
    rename_i r2 hr
    cases e
    refine tO_go ok S h1 fun M1 H1 v T1 S1 o1 => tO_go ok S1 h2 fun M2 H2 u T2 S2 o2 => ?_
    exact ⟨M2, dx, dy, r2, S2.mok, (o1.next S1 T2).wr S2 hx, o2.wr S2 hy, hr, fun w R => q M2 H2 w S2 R⟩
theorem posL_at : ∀ {xs : List D} {y : D} {j : Nat}, posL y xs = some j → (∃ z, xs[j]? = some z ∧ eqD z y = true) ∧ ∀ m z, m < j → xs[m]? = some z → eqD z y = false
  | [], _, _, h => by cases h
  | x :: xs, y, j, h => by
    unfold posL at h
    split at h
    · cases h
      exact ⟨⟨x, rfl, ‹_›⟩, fun m z hm => by omega⟩
    · rename_i hx
      cases e : posL y xs with
      | none => rw [e] at h; cases h
      | some i =>
        rw [e] at h
        cases h
        obtain ⟨⟨z, h1, h2⟩, h3⟩ := posL_at e
        refine ⟨⟨z, by rw [List.getElem?_cons_succ]; exact h1, h2⟩, fun m z' hm e' => ?_⟩
        cases m with
        | zero => cases e'; exact Bool.eq_false_iff.mpr hx
        | succ m => exact h3 m z' (Nat.lt_of_succ_lt_succ hm) (by rw [List.getElem?_cons_succ] at e'; exact e')
theorem pyL_at : ∀ {xs : List D} {m : Nat} {p : PyData}, (pyL xs)[m]? = some p → ∃ z, xs[m]? = some z ∧ p = z.py
  | [], _, _, h => by simp [pyL] at h
  | x :: xs, 0, p, h => by simp only [pyL, List.getElem?_cons_zero] at h; cases h; exact ⟨x, rfl, rfl⟩
  | x :: xs, m + 1, p, h => by
    simp only [pyL, List.getElem?_cons_succ] at h
    obtain ⟨z, h1, h2⟩ := pyL_at h
    exact ⟨z, by rw [List.getElem?_cons_succ]; exact h1, h2⟩
theorem pyL_get : ∀ {xs : List D} {m : Nat} {z : D}, xs[m]? = some z → (pyL xs)[m]? = some z.py
  | [], _, _, h => by simp at h
  | x :: xs, 0, z, h => by simp only [List.getElem?_cons_zero] at h; cases h; rfl
  | x :: xs, m + 1, z, h => by
    rw [List.getElem?_cons_succ] at h
    simp only [pyL, List.getElem?_cons_succ]
    exact pyL_get h
theorem dep_in : ∀ {xs : List D} {m : Nat} {z : D}, xs[m]? = some z → dep z ≤ depL xs
  | [], _, _, h => by simp at h
  | x :: xs, 0, z, h => by simp only [List.getElem?_cons_zero] at h; cases h; simp only [depL]; omega
  | x :: xs, m + 1, z, h => by
    rw [List.getElem?_cons_succ] at h
    have := dep_in h
    simp only [depL]; omega
theorem pos_facts {xs : List D} {y : D} {j : Nat} (h : posL y xs = some j) (hx : depL xs < 1000) (hy : dep y < 1000) : ∃ z, (pyL xs)[j]? = some z ∧ PyData.eqv z y.py = true ∧ ∀ (m : Nat) (z' : PyData), m < j → (pyL xs)[m]? = some z' → PyData.eqv z' y.py = false := by
  obtain ⟨⟨z, h1, h2⟩, h3⟩ := posL_at h
  refine ⟨z.py, pyL_get h1, by rw [eqv_py _ _ (by have := dep_in h1; omega) hy]; exact h2, fun m z' hm e => ?_⟩
  obtain ⟨w, e1, rfl⟩ := pyL_at e
  rw [eqv_py _ _ (by have := dep_in e1; omega) hy]
  exact h3 m w hm e1
theorem snd_idx {a b : ME} {x y : Expr} {p1 p2 : Pos} (hu : X.A.units + 65 < cLine) (ha : PE X x (tO X.K mo cf a)) (hb : PE X y (tO X.K mo cf b))
    (h1 : attributeBase x "index" X.env (eval x X.env) = eval x X.env)
    (h2 : ((backTo p2 (starEach [y] X.env)).all (fun x => !x.1) && (backToKw p2 (keywordEach [] X.env)).all (fun x => x.1.isSome) && decide (([y] : List Expr).length + ([] : List Keyword).length + (if ([] : List Keyword).isEmpty then 0 else 1) < 30)) = true)
    (h3 : (p1.endLine == p2.line) = true) (h4 : starEach [y] X.env = (false, eval y X.env) :: starEach [] X.env) : PE X (.Call (.Attribute x "index" p1) [y] [] p2) (tE X.K mo cf (.idx a b)) :=
  PE.imp (pe_idx hu ha (pa_cons hb pa_nil h4) h1 h2 h3 h4) fun σ H Q q => by
    obtain ⟨F, M, env, env', r, ok, S, e, q⟩ := q
    simp only [evR] at e
    split at e
    case h_2 => cases e
    rename_i e1 oa g1
    split at e
    case h_2 => cases e
    rename_i x1 hx1
    split at e
    case h_2 => cases e
    rename_i e2 ob g2
    split at e
    case h_2 => cases e
    rename_i dx dy hx hy
    split at e
    case h_2 => cases e
    rename_i r2 hr
    cases e
    refine tO_go ok S g1 fun M1 H1 v T1 S1 o1 => ?_
    have w1 := o1.wr S1 hx1
    unfold idxD at hr
    split at hr
    · rename_i us zs
      split at hr
      case isFalse => cases hr
      rename_i hs
      obtain ⟨as, vs, rfl, hl1, _, _⟩ := w1.lst
      refine .inl ⟨.inl ⟨rfl, vs, SqL.of hl1⟩, tO_go ok S1 g2 fun M2 H2 u T2 S2 o2 => ?_⟩
      cases hp : posL dy zs with
      | none => rw [hp] at hr; cases hr
      | some j =>
        rw [hp] at hr
        cases hr
        have wx := (o1.next S1 T2).wr S2 hx
        have wy := o2.wr S2 hy
        simp only [shal, Bool.and_eq_true, decide_eq_true_eq] at hs
        obtain ⟨z, f1, f2, f3⟩ := pos_facts hp (by have := hs.2; simp only [dep] at this; omega) (by omega)
        exact ⟨as, u, dy.py, pyL zs, j, z, rfl, rfl, wx.dp (by omega), wy.dp (by omega), wx.shaped (by omega), wy.shaped (by omega), f1, f2, f3, q M2 H2 _ S2 (.int _)⟩
    · rename_i us zs
      split at hr
      case isFalse => cases hr
      rename_i hs
      obtain ⟨as, vs, rfl, hl1, _, _⟩ := w1.tup
      refine .inr ⟨⟨as, vs, rfl, hl1⟩, tO_go ok S1 g2 fun M2 H2 u T2 S2 o2 => ?_⟩
      cases hp : posL dy zs with
      | none => rw [hp] at hr; cases hr
      | some j =>
        rw [hp] at hr
        cases hr
        have wx := (o1.next S1 T2).wr S2 hx
        have wy := o2.wr S2 hy
        simp only [shal, Bool.and_eq_true, decide_eq_true_eq] at hs
        have hd : depL zs < 1000 := by have := hs.2; simp only [dep] at this; omega
        obtain ⟨z, f1, f2, f3⟩ := pos_facts hp hd (by omega)
        have sh := wx.shaped (by omega)
        obtain ⟨as2, ws, e0, ht, rl, _⟩ := wx.tup
        cases e0
        exact ⟨as, ws, u, dy.py, pyL zs, j, z, rfl, rfl, ht.sq, rl.dp hd, wy.dp (by omega), sh, wy.shaped (by omega), f1, f2, f3, q M2 H2 _ S2 (.int _)⟩
    · cases hr
/-- a part of a slice -/
def tPt (K : PySem.W.Frag) (mo : Nat → List Bool) (cf : CF) (m : ME) : TO := fun σ H Q => ∃ F M env env' r o, Fr.Ok F ∧ SR K F M env σ H ∧ evR mo cf m env = some (env', r) ∧ part m r.fz = some o ∧ ∀ M' H', SR K (snap F M env σ H) M' env' σ H' → SR K F M' env' σ H' → Q o H'
theorem snd_nopart : PO X none (tPt X.K mo cf .nop) := ⟨fun pins s σ H Q I q => by
  obtain ⟨F, M, env, env', r, o, ok, S, e, ho, q⟩ := q
  simp only [evR] at e
  cases e
  cases ho
  exact po_none.run pins s σ H Q I (q M H S.snap S)⟩
theorem snd_part {m : ME} {e : Expr} (h : PE X e (tE X.K mo cf m)) (hn : m ≠ .nop) : PO X (some e) (tPt X.K mo cf m) := ⟨fun pins s σ H Q I q => by
  obtain ⟨F, M, env, env', r, o, ok, S, e, ho, q⟩ := q
  refine (po_some h).run pins s σ H Q I ?_
  refine tV_go ok S e fun M1 H1 v T1 S1 R1 => ?_
  cases hr : r.fz with
  | int i =>
    rw [hr] at ho R1
    have ho' : o = some i := by
      cases m <;> first | (exact absurd rfl hn) | (cases ho; rfl)
    subst ho'
    cases R1
    exact ⟨i, rfl, q M1 H1 T1 S1⟩
  | _ =>
    rw [hr] at ho
    cases m <;> first | (exact absurd rfl hn) | (cases ho)⟩
theorem snd_sl {a lo hi : ME} {x : Expr} {l u : Option Expr} {p p2 : Pos} (ha : PE X x (tO X.K mo cf a)) (hl : PO X l (tPt X.K mo cf lo)) (hu : PO X u (tPt X.K mo cf hi)) : PE X (.Subscript x (.Slice l u none p2) p) (tE X.K mo cf (.sl a lo hi)) :=
  PE.imp (pe_slice sl_d ha hl hu) fun σ H Q q => by
    obtain ⟨F, M, env, env', r, ok, S, e, q⟩ := q
    simp only [evR] at e
    split at e
    case h_2 => cases e
    rename_i e1 oa h1
    split at e
    case h_2 => cases e
    rename_i e2 rl h2
    split at e
    case h_2 => cases e
    rename_i e3 rh h3
    split at e
    case h_2 => cases e
    rename_i dx ol oh hx hol hoh
    split at e
    case h_2 => cases e
    rename_i r2 hr
    cases e
    refine tO_go ok S h1 fun M1 H1 v T1 S1 o1 => ?_
    refine ⟨F, M1, e1, e2, rl, ol, ok, S1, h2, hol, fun M2 H2 T2 S2 => ?_⟩
    refine ⟨F, M2, e2, env', rh, oh, ok, S2, h3, hoh, fun M3 H3 T3 S3 => ?_⟩
    refine ⟨M3, dx, r, S3.mok, ((o1.next S1 T2).next S2 T3).wr S3 hx, hr, fun w H' n => ?_⟩
    obtain ⟨M4, S4, R4⟩ := S3.new n
    exact q M4 H' w S4 R4
theorem OVL.wr {K : PySem.W.Frag} {F : Fr} {M : Addr → Prop} {env : En} {σ : St} {H : Hp} (S : SR K F M env σ H) : ∀ {vs : List V} {os : List OP} {ds : List D}, OVL K M σ H vs os → rdL env os = some ds → WRL K M H vs ds
  | [], [], ds, _, e => by
    simp only [rdL] at e
    cases e
    trivial
  | v :: vs, o :: os, ds, h, e => by
    simp only [rdL] at e
    split at e
    case h_2 => cases e
    rename_i d ds' h1 h2
    cases e
    exact ⟨h.1.wr S h1, OVL.wr S h.2 h2⟩
  | [], _ :: _, _, h, _ => h.elim
  | _ :: _, [], _, h, _ => h.elim
theorem big_line' {s : List Nat} (l : s.length ≤ big) : (str0 s).length ≤ sizeLine := by rw [str0_len]; exact big_line l
theorem snd_rev {a : ME} {x : Expr} {k : Nat} {p1 p2 p3 p : Pos} (ha : PE X x (tO X.K mo cf a)) : PE X (.Subscript x (.Slice none none (some (.UnaryOp .USub (.Constant (.int 1) k p1) p2)) p3) p) (tE X.K mo cf (.rev a)) :=
  PE.imp (pe_back ha) fun σ H Q q => by
    obtain ⟨F, M, env, env', r, ok, S, e, q⟩ := q
    simp only [evR] at e
    split at e
    case h_2 => cases e
    rename_i e1 oa h1
    split at e
    case h_2 => cases e
    rename_i d hd
    split at e
    case h_2 => cases e
    rename_i r2 hr
    cases e
    refine tO_go ok S h1 fun M1 H1 v T1 S1 o1 => ?_
    have w := o1.wr S1 hd
    unfold revD at hr
    split at hr
    · cases hr
      obtain ⟨b, xs, rfl, hb, r1, l⟩ := w.lst
      refine .inr ⟨b, xs, rfl, .inl ⟨SqL.of hb, fun p hp => ?_⟩⟩
      obtain ⟨M4, S4, R4⟩ := S1.new (new_lst hp r1.rev (by rw [List.length_reverse]; exact l))
      exact q M4 _ _ S4 R4
    · cases hr
      obtain ⟨b, xs, rfl, hb, r1, l⟩ := w.tup
      refine .inr ⟨b, xs, rfl, .inr ⟨hb.sq, fun p o hp hc hd => ?_⟩⟩
      obtain ⟨M4, S4, R4⟩ := S1.new (new_tup S1.mok hp hc hd r1.rev (by rw [List.length_reverse]; exact l))
      exact q M4 _ _ S4 R4
    · cases hr
      obtain ⟨rfl, o, l⟩ := w.str
      refine .inl ⟨_, rfl, big_line' l, q M1 H1 _ S1 ?_⟩
      exact .str _ (by unfold okS at *; rw [List.all_reverse]; exact o) (by rw [List.length_reverse]; exact l)
    · cases hr
/-- isinstance -/
theorem snd_isi1 {a : ME} {c : Ty} {e : Expr} (h : PE X e (tCB (rIsi X.K) (tCons (tO X.K mo cf a) (tCons (tC (.ty (tyS c))) tNil)))) : PE X e (tE X.K mo cf (.isi a [c] true)) :=
  PE.imp h fun σ H Q q => by
    obtain ⟨F, M, env, env', r, ok, S, e, q⟩ := q
    simp only [evR] at e
    split at e
    case h_2 => cases e
    rename_i e1 oa h1
    split at e
    case h_2 => cases e
    rename_i d hd
    cases e
    refine tO_go ok S h1 fun M1 H1 v T1 S1 o1 => ?_
    refine ⟨v, .ty (tyS c), _, _, _, rfl, .ty _, tyx (o1.wr S1 hd), kit_ty (kit_d c d), ?_⟩
    have := q M1 H1 (.bl (isTy c d)) S1 (by simp only [List.any_cons, List.any_nil, Bool.or_false]; exact .bl _)
    exact this
def tTys (cs : List Ty) : TA := fun _ H Q => Q (cs.map fun c => .ty (tyS c)) H
theorem paired_tys : ∀ cs : List Ty, Paired ClsV (cs.map fun c => V.ty (tyS c)) (cs.map fun c => Value.type (tyS c))
  | [] => .nil
  | _ :: r => .cons (.ty _) (paired_tys r)
theorem snd_isi2 {a : ME} {cs : List Ty} {e : Expr} (hl : cs.length ≤ 100) (h : PE X e (tCB (rIsiT X.K) (tCons (tO X.K mo cf a) (tCons (tTup (tTys cs)) tNil)))) : PE X e (tE X.K mo cf (.isi a cs false)) :=
  PE.imp h fun σ H Q q => by
    obtain ⟨F, M, env, env', r, ok, S, e, q⟩ := q
    simp only [evR] at e
    split at e
    case h_2 => cases e
    rename_i e1 oa h1
    split at e
    case h_2 => cases e
    rename_i d hd
    cases e
    refine tO_go ok S h1 fun M1 H1 v T1 S1 o1 => ⟨?_, fun p hp => ?_⟩
    · rw [List.length_map]
      have : (100 : Nat) ≤ sizeLine := by decide
      omega
    · have S2 := S1.upd_new (o := .tup (cs.map fun c => V.ty (tyS c))) hp
      have w : WR X.K M1 (upd H1 p (.tup (cs.map fun c => V.ty (tyS c)))) v d := by
        cases oa with
        | rd i => exact OV.wr (o := .rd i) S2 o1 hd
        | dv x => exact OV.wr (o := .dv x) S2 (rep_new S1.mok hp o1) hd
      exact ⟨v, p, _, _, _, _, rfl, upd_same, paired_tys cs, tyx w, kitAny_d d cs, q M1 _ _ S2 (.bl _)⟩
/-- the built-in functions -/
theorem snd_bi {b : Bi} {es : ME} {e : Expr} (h : PE X e (tCB (rBi X.K b) (tOs X.K mo cf es))) : PE X e (tE X.K mo cf (.bi b es)) :=
  PE.imp h fun σ H Q q => by
    obtain ⟨F, M, env, env', r, ok, S, e, q⟩ := q
    simp only [evR] at e
    split at e
    case h_2 => cases e
    rename_i e1 os h1
    split at e
    case h_2 => cases e
    rename_i ds hd
    split at e
    case h_2 => cases e
    rename_i r2 hr
    cases e
    refine ⟨F, M, env, env', os, ok, S, h1, fun M1 H1 vs S1 R1 => ⟨M1, ds, r, S1.mok, OVL.wr S1 R1 hd, hr, fun w H' n => ?_⟩⟩
    obtain ⟨M4, S4, R4⟩ := S1.new n
    exact q M4 H' w S4 R4
end
end MP

set_option Elab.async false
set_option linter.all false
set_option maxRecDepth 100000
namespace MP
open PySem PySem.Spec PyProof.Rows L2
/-! Sets of texts: made from a list, then sorted. -/
def txt (e : Int × Value) : Str := match e.2 with
  | .str k _ => k
  | _ => ⟨#[]⟩
def IsTx (w : World) (e : Int × Value) : Prop := ∃ k u, e.2 = Value.str k u ∧ e.1 = hashStr w k
/-- es, t: a table of the texts S in some order, that may be walked -/
structure TxT (w : World) (es : Array (Int × Value)) (t : SetTable) (S : List Str) : Prop where
  all : ∀ e ∈ es.toList, IsTx w e
  perm : (es.toList.map txt).Perm S
  nd : S.Nodup
  few : S.length < scanBound
  fit : t.fits es.size = true
  ris : Ris t.place.toList
  led : w.params.followText "set-order" = true ∨ t.led = true
def TxS (w : World) (h : Heap) (a : Addr) (S : List Str) : Prop := ∃ o es ep t, h.get? a = some o ∧ o.ExactSet ∧ o.data = .set es ep t ∧ TxT w es t S
section
variable {P : Program} {w : World} {A : Around} {E : Value → Shared → Prop} {s : Shared} {a : Addr} {S : List Str} {es : Array (Int × Value)} {t : SetTable}
theorem TxT.size (R : TxT w es t S) : es.size = S.length := by
  have q := R.perm.length_eq
  rwa [List.length_map, Array.length_toList] at q
theorem TxT.elems (R : TxT w es t S) : ElemsOf (strKind P w) es.toList := fun e he => by
  obtain ⟨k, u, h1, h2⟩ := R.all e he
  exact ⟨⟨k, by rw [h1]; exact strKind_is P w k u, h2⟩, by rw [h1] <;> rfl⟩
theorem tx_is {e : Int × Value} (h : IsTx w e) (k : Str) : (strKind P w).is k e.2 = true ↔ txt e = k := by
  obtain ⟨k0, u, h1, _⟩ := h
  unfold txt
  rw [h1]
  constructor
  · intro q
    obtain ⟨u', q'⟩ := Value.isStrOf_shape (x := k) (v := .str k0 u) q
    cases q'
    rfl
  · intro q
    have q' : k0 = k := q
    rw [q']
    exact strKind_is P w k u
theorem TxT.mem (R : TxT w es t S) (k : Str) : k ∈ S ↔ ∃ e ∈ es.toList, (strKind P w).is k e.2 = true := by
  rw [← R.perm.mem_iff, List.mem_map]
  exact ⟨fun ⟨e, he, q⟩ => ⟨e, he, (tx_is (R.all e he) k).2 q⟩, fun ⟨e, he, q⟩ => ⟨e, he, (tx_is (R.all e he) k).1 q⟩⟩
theorem TxT.move {es' : Array (Int × Value)} {t' : SetTable} (R : TxT w es t S) (p : es'.toList.Perm es.toList) (f : t'.fits es'.size = true) (r : Ris t'.place.toList) (l : t'.led = t.led) : TxT w es' t' S :=
  ⟨fun e he => R.all e (p.mem_iff.mp he), (p.map txt).trans R.perm, R.nd, R.few, f, r, R.led.imp id fun z => l.trans z⟩
theorem TxT.plain (R : TxT w es t S) : TxT w es { t with plain := false } S := ⟨R.all, R.perm, R.nd, R.few, SetTable.fits_plain_off R.fit, R.ris, R.led⟩
/-- the end of an add: the table is stored, and laid again when it is too full -/
theorem tx_tail {g : Bool → Sem Unit} (hg : ∀ (b : Bool) (s₁ : Shared) (Q' : Unit → Shared → Prop), Q' () s₁ → wpAny (model P w) A (g b) Q' E s₁)
    {o : Obj} {es0 : Array (Int × Value)} {ep : Nat} {t0 : SetTable} (ho : s.heap.get? a = some o) (hex : o.ExactSet) (hd : o.data = .set es0 ep t0) (R : TxT w es t S) {dum : Bool} {F : Option Bool → Shared → Prop}
    (hF : ∀ h', Heap.SameBut a s.heap h' → TxS w h' a S → F (some true) { s with heap := h' }) :
    wpAny (model P w) A (do
        storeSet a es t
        if (!dum && t.tooFull) = true then do
            g (relayAll t es (SetTable.grown es.size)).2.2
            storeSet a (relayAll t es (SetTable.grown es.size)).1 (relayAll t es (SetTable.grown es.size)).2.1
            pure (some true)
          else pure (some true)) F E s := by
  have room : es.size ≤ sizeLine := fits_of_scanBound (by rw [R.size]; exact R.few)
  refine wpAny_bind (wpAny_storeSet_of ho hd ?_ room)
  have at1 := L2.store_at (es' := es) (t' := t) ho hd
  have sb := Heap.SameBut.update s.heap a (Obj.putSet es t)
  by_cases full : (!dum && t.tooFull) = true
  · rw [if_pos full]
    have R2 := R.move (relayAll_perm t es (SetTable.grown es.size)) (relayAll_fits t es (SetTable.grown es.size)) (L2.relayAll_ris t es (SetTable.grown es.size)) (L2.relayAll_led t es (SetTable.grown es.size))
    refine wpAny_bind (hg _ _ _ ?_)
    refine wpAny_bind (wpAny_storeSet_of at1 rfl ?_ (fits_of_scanBound (by rw [R2.size]; exact R2.few)))
    exact wpAny_pure (hF _ (sb.trans (Heap.SameBut.update _ a _)) ⟨_, _, _, _, L2.store_at at1 rfl, hex, rfl, R2⟩)
  · rw [if_neg full]
    exact wpAny_pure (hF _ sb ⟨_, _, _, _, at1, hex, rfl, R⟩)
theorem tx_add {k : Str} {u : Tok} {Q : Bool → Shared → Prop} (R : TxS w s.heap a S) (room : S.length + 1 < scanBound)
    (hQ : ∀ b h', Heap.SameBut a s.heap h' → TxS w h' a (if k ∈ S then S else k :: S) → Q b { s with heap := h' }) :
    wpAny (model P w) A (setAddHashed a (.str k u) ((strKind P w).hash k)) Q E s := by
  obtain ⟨o, es, ep, t, ho, hex, hd, T⟩ := R
  have isk : (strKind P w).is k (.str k u) = true := strKind_is P w k u
  have el : ElemsOf (strKind P w) es.toList := T.elems
  have bnd : es.size < scanBound := by rw [T.size]; exact T.few
  unfold setAddHashed setAddHashedIn
  refine wpAny_holding (wpAny_bind (wpAny_setState_of ho hd T.fit ?_))
  dsimp only
  rw [byScan_of (x := .str k u) rfl bnd el]
  simp only [↓reduceIte]
  unfold setAddByScan
  refine wpAny_bind (wpAny_bind (wpAny_rule (wpAny_bind (wpAny_setScan_of isk ho hd T.fit el ?_))))
  cases met : List.findIdx? (fun e => (strKind P w).is k e.2) es.toList with
  | some j =>
    dsimp only
    obtain ⟨hj, pj, _⟩ := List.findIdx?_eq_some_iff_getElem.mp met
    have kin : k ∈ S := (T.mem (P := P) k).2 ⟨_, List.getElem_mem hj, pj⟩
    have q := hQ false s.heap (Heap.SameBut.refl a s.heap)
    rw [if_pos kin] at q
    exact wpAny_pure (wpAny_pure (q ⟨o, es, ep, t, ho, hex, hd, T⟩))
  | none =>
    dsimp only
    have kout : k ∉ S := fun z => by
      obtain ⟨e, he, q⟩ := (T.mem (P := P) k).1 z
      have c := List.findIdx?_eq_none_iff.mp met e he
      rw [q] at c
      cases c
    rw [if_neg kout] at hQ
    have pm := layNew_perm t es ((strKind P w).hash k) (.str k u)
    have f1 := layNew_fits t es ((strKind P w).hash k) (.str k u)
    have r1 := L2.layNew_ris t es ((strKind P w).hash k) (.str k u) T.ris
    have l1 := L2.layNew_led t es ((strKind P w).hash k) (.str k u)
    generalize layNew t es ((strKind P w).hash k) (.str k u) = Z at pm f1 r1 l1 ⊢
    obtain ⟨es1, t1, dum, gave⟩ := Z
    dsimp only at pm f1 r1 l1 ⊢
    rw [Array.toList_push] at pm
    have pc := pm.trans (List.perm_append_singleton _ _)
    have T1 : TxT w es1 t1 (k :: S) := ⟨fun e he => by
      rcases List.mem_cons.mp (pc.mem_iff.mp he) with z | z
      · rw [z]; exact ⟨k, u, rfl, rfl⟩
      · exact T.all e z, (pc.map txt).trans (T.perm.cons k), List.nodup_cons.mpr ⟨kout, T.nd⟩, room, f1, r1, T.led.imp id fun z => l1.trans z⟩
    refine wpAny_bind ?_
    have gw : ∀ (b : Bool) {s₁ : Shared} {Q' : Unit → Shared → Prop}, Q' () s₁ → wpAny (model P w) A (match b with | true => rule "set.scan.the-table-gave-way" | false => pure ()) Q' E s₁ := fun b s₁ Q' q => by
      cases b
      · exact wpAny_pure q
      · exact wpAny_rule q
    refine gw _ ?_
    split
    · refine wpAny_bind ?_
      rw [hashByValue_scannable 8 (x := .str k u) rfl]
      refine wpAny_pure ?_
      refine tx_tail (es := es1) (S := k :: S) ?_ ho hex hd ?_ fun h' sb r => wpAny_pure (hQ true h' sb r)
      · intro b s₁ Q' q
        cases b
        · exact wpAny_pure q
        · exact wpAny_rule q
      · split <;> first | exact T1 | exact T1.plain
    · refine wpAny_bind (wpAny_pure ?_)
      simp only [↓reduceIte]
      refine tx_tail (es := es1) (S := k :: S) ?_ ho hex hd T1 fun h' sb r => wpAny_pure (hQ true h' sb r)
      intro b s₁ Q' q
      cases b
      · exact wpAny_pure q
      · exact wpAny_rule q
theorem tx_fresh {h : Heap} (w : World) (ho : h.get? a = some { cls := .type "set", dict := none, data := .set #[] 0 (.fresh 0 0 (!w.params.followText "set-order")) }) : TxS w h a [] :=
  ⟨_, #[], 0, _, ho, ⟨rfl, rfl, rfl⟩, rfl, ⟨fun e he => by simp at he, .refl _, .nil, by decide, rfl, .nil, by
    cases w.params.followText "set-order"
    · exact .inr rfl
    · exact .inl rfl⟩⟩
theorem TxS.at {h h' : Heap} (R : TxS w h a S) (k : ∀ o, h.get? a = some o → h'.get? a = some o) : TxS w h' a S := by
  obtain ⟨o, es, ep, t, ho, r⟩ := R
  exact ⟨o, es, ep, t, k o ho, r⟩
/-- the texts of a list's first so many places, once each -/
def Met (xs S : List Str) (i : Nat) : Prop := S.length ≤ i ∧ ∀ k, k ∈ S ↔ k ∈ xs.take i
theorem Met.next {xs S : List Str} {i : Nat} {k : Str} (m : Met xs S i) (h : xs[i]? = some k) : Met xs (if k ∈ S then S else k :: S) (i + 1) := by
  have e : xs.take (i + 1) = xs.take i ++ [k] := by rw [List.take_add_one, h]; rfl
  refine ⟨?_, fun j => ?_⟩
  · have := m.1
    split
    · omega
    · rw [List.length_cons]; omega
  · rw [e, List.mem_append, List.mem_singleton, ← m.2 j]
    split
    · rename_i hk
      exact ⟨.inl, fun z => z.elim id fun q => q ▸ hk⟩
    · rw [List.mem_cons]; exact Or.comm
theorem tx_loop {I : Addr} {fp wr : List Addr} {G : Array GenState → Array GenState → Prop} {n : Nat} {Pv : Nat → Value → Prop} {St : Nat → Shared → Prop} {R : Result → Shared → Prop} (W : WalksS P w A.in1 I fp wr G n Pv St)
    (a : Addr) (out : a ∉ fp) (xs : List Str) (hn : xs.length = n) (hb : n + 1 < scanBound) (hv : ∀ i v, Pv i v → ∃ k u, xs[i]? = some k ∧ v = .str k u) :
    ∀ (k i : Nat) (s : Shared) (S : List Str), i + k = n → St i s → TxS w s.heap a S → Met xs S i →
      (∀ s' S', Moved (a :: wr) G s s' → TxS w s'.heap a S' → Met xs S' n → R (.ok (.ret .none)) s') →
      codeAny (model P w) A (.builtin "set.update.loop" ⟨[.ref a, .ref I], []⟩) R s
  | 0, i, s, S, hk, st, T, m, hR => by
    obtain rfl : i = n := hk
    refine codeAny_builtin F.entry_set_update_loop ?_
    rw [Around.under_plainId F.plain_set_update_loop _]
    show wpAny _ A.in1 (pyNext (.ref I) >>= _) _ _ s
    refine wpAny_bind (W.done s _ _ st fun s' mv => ?_)
    show wpAny _ A.in1 (ret Value.none) _ _ s'
    exact wpAny_pure (hR s' S (mv.mono fun b hb => List.mem_cons_of_mem _ hb) (T.at fun o e => mv.heap a o (fun z => out (W.sub _ z)) e) m)
  | k + 1, i, s, S, hk, st, T, m, hR => by
    refine codeAny_builtin F.entry_set_update_loop ?_
    rw [Around.under_plainId F.plain_set_update_loop _]
    show wpAny _ A.in1 (pyNext (.ref I) >>= _) _ _ s
    refine wpAny_bind (W.item i s _ _ (by omega) st fun v s1 hp st1 mv => ?_)
    obtain ⟨x, u, hx, rfl⟩ := hv i v hp
    have T1 : TxS w s1.heap a S := T.at fun o e => mv.heap a o (fun z => out (W.sub _ z)) e
    show wpAny _ A.in1 (holding [Value.str x u] (setAdd a (.str x u)) >>= _) _ _ s1
    unfold setAdd
    refine wpAny_bind (wpAny_holding (wpAny_holding (wpAny_bind ((strKind P w).pyHash (k := x) (strKind_is _ _ _ _) ?_))))
    have := m.1
    refine tx_add (s := { s1 with toks := s1.toks + 1 }) T1 (by omega) fun _ h' sb T2 => ?_
    refine wpAny_pure ⟨plainId_quiet F.plain_set_update_loop _, tx_loop W a out xs hn hb hv k (i + 1) _ _ (by omega) (W.frame _ s1 _ _ st1 (Nat.le_succ _) fun b hb o e => ?_) T2 (m.next hx) fun s2 S2 mv2 T3 m3 => ?_⟩
    · exact (sb.2 b fun z => out (z ▸ hb)).trans e
    · refine hR s2 S2 (Moved.trans W.gtrans ((mv.mono fun b hb => List.mem_cons_of_mem _ hb).then_heap (Nat.le_succ _) fun b o hb e => ?_) mv2) T3 m3
      exact (sb.2 b fun z => hb (z ▸ List.mem_cons_self)).trans e

set_option maxHeartbeats 3200000 in
theorem set_lst {l : Addr} {items : Array Value} {xs : List Str} {Q : Value → Shared → Prop} (hh : A.handled = none) (hl : s.heap.IsList l items) (hx : StrsAre items.toList xs) (hb : xs.length + 1 < scanBound)
    (q : ∀ h' tk S', TxS w h' s.heap.objs.size S' → Met xs S' xs.length → (∀ b o, s.heap.get? b = some o → h'.get? b = some o) → Q (.ref s.heap.objs.size) { s with heap := h', toks := tk }) :
    wpAny (model P w) A (call (.type "set") [.ref l]) Q E s := by
  have isz : xs.length = items.size := by rw [← StrsAre.len_eq hx, Array.length_toList]
  have ⟨_, _, hm⟩ := PySem.F.called_set.mro
  have made := PySem.F.called_set.made
  have below := PySem.F.called_set.sub
  have nt := PySem.F.called_set.notType
  have cc := PySem.F.called_set.canCreate
  have tc := F.typeCall_set_1 (.ref l)
  refine wpAny_call (codeAny_of_tree ?_)
  show wpAny _ _ (callAny (.type "set") _) _ _ _
  refine wpAny_pure ⟨Code.quiet_builtin _ (by decide +kernel), codeAny_builtin PySem.F.entry_type_call ?_⟩
  rw [Around.under_plain (weight_type_call_type "set" [.ref l] []) rfl]
  repeat (any_goals (first | assumption | wp_step))
  let nw : Obj := { cls := .type "set", dict := none, data := .set #[] 0 (.fresh 0 0 (!w.params.followText "set-order")) }
  refine codeAny_mono (L2.code_set_led1 (.ref l) (E := E) (Q₁ := fun v s1 => v = .ref s.heap.objs.size ∧ s1 = { s with heap := s.heap.push nw }) ⟨rfl, rfl⟩) fun r s1 hr => ?_
  cases r with
  | error e => exact hr
  | ok fl =>
    cases fl with
    | ret v =>
      obtain ⟨rfl, rfl⟩ := hr
      have at0 : (s.heap.push nw).get? s.heap.objs.size = some nw := Heap.get?_push_size _ rfl
      have ty : Shared.TypeIs { s with heap := s.heap.push nw } (.ref s.heap.objs.size) "set" := ⟨_, at0, rfl⟩
      have lk := PySem.F.called_set.init.lookup
      have bd := PySem.F.called_set.init.bind (.ref s.heap.objs.size)
      repeat (any_goals (first | assumption | wp_step))
      refine codeAny_mono (codeAny_call_builtin (R := wants (fun v s2 => v = .none ∧ ∃ h' tk S', s2 = { s with heap := h', toks := tk } ∧ TxS w h' s.heap.objs.size S' ∧ Met xs S' xs.length ∧ ∀ b o, s.heap.get? b = some o → h'.get? b = some o) E)
        PySem.F.called_set.init.plain PySem.F.entry_set_init (check_set_init_1 ty ?_)) fun r2 s2 hr2 => ?_
      · obtain ⟨⟨cls, dict, data, slots⟩, ol, cl, nl, dl⟩ := hl
        simp only at cl dl
        subst cl dl
        have ol1 : (s.heap.push nw).get? l = some { cls := .type "list", dict := dict, data := .seq items nl, slots := slots } := Heap.get?_push_of_some _ ol
        have n1 := PySem.F.sub_list_set
        have n2 := PySem.F.sub_list_frozenset
        have n3 : (Value.type "list" == Value.type "dict") = false := by decide
        have hl1 : (s.heap.push nw).IsList l items := ⟨_, ol1, rfl, nl, rfl⟩
        unfold Builtin.«set.__init__» noKeywords Builtin.Frozenset.updateFrom
        generalize it : pyIter = IT
        wp_walk
        subst it
        refine wpAny_pyIter_list hl1 ?_
        refine wpAny_bind (wpAny_runValue ?_)
        have lS : l < s.heap.objs.size := Heap.lt_size ol
        have z1 : (s.heap.push nw).objs.size = s.heap.objs.size + 1 := Heap.size_push ..
        have nI : l ≠ (s.heap.push nw).objs.size := by rw [z1]; exact Nat.ne_of_lt (Nat.lt_succ_of_lt lS)
        refine tx_loop ((Walks.list (show A.in1.in1.in1.handled = none by simp [hh]) _ l nI items).toS) s.heap.objs.size ?_ xs isz (by rw [← isz]; exact hb) (fun i v hv => ?_) items.size 0 _ [] (by omega)
          ⟨⟨_, Heap.get?_push_size _ rfl, rfl, rfl⟩, hl1.push _⟩ (tx_fresh w (Heap.get?_push_of_some _ at0)) ⟨Nat.zero_le _, fun k => by simp⟩ fun s' S' mv T m => ?_
        · rw [z1]
          exact fun z => (List.mem_cons.mp z).elim (Nat.ne_of_lt (Nat.lt_succ_self _)) fun z => Nat.ne_of_gt lS (List.mem_singleton.mp z)
        · have hi : i < xs.length := by rw [isz]; exact (Array.getElem?_eq_some_iff.mp hv).1
          obtain ⟨u, e⟩ := SS.strs_at hx i v (by rw [Array.getElem?_toList]; exact hv)
          refine ⟨xs[i], u, List.getElem?_eq_getElem hi, ?_⟩
          rw [e, List.getD_eq_getElem?_getD, List.getElem?_eq_getElem hi] <;> rfl
        · obtain ⟨h', g2, d2, tk, os2⟩ := s'
          obtain rfl : g2 = s.gens := mv.gens
          obtain rfl : d2 = s.drawn := mv.drawn
          obtain rfl : os2 = s.os := mv.os
          show wpAny _ _ _ _ _ _
          refine wpAny_pure ?_
          show wpAny _ _ (ret Value.none) _ _ _
          refine wpAny_pure ⟨rfl, h', tk, S', rfl, T, by rw [isz]; exact m, fun b o e => ?_⟩
          have lb := Heap.lt_size e
          refine mv.heap b o ?_ (Heap.get?_push_of_some _ (Heap.get?_push_of_some _ e))
          rw [z1]
          exact fun z => (List.mem_cons.mp z).elim (Nat.ne_of_lt lb) fun z => Nat.ne_of_lt (Nat.lt_succ_of_lt lb) (List.mem_singleton.mp z)
      · cases r2 with
        | error e => exact hr2
        | ok fl2 =>
          cases fl2 with
          | ret v =>
            obtain ⟨rfl, h', tk, S', rfl, T, m, k⟩ := hr2
            repeat (any_goals (first | assumption | wp_step))
            exact q _ _ _ T m k
          | _ => exact hr2.elim
    | _ => exact hr.elim

set_option maxHeartbeats 3200000 in
theorem set_tup {l : Addr} {items : Array Value} {xs : List Str} {Q : Value → Shared → Prop} (hh : A.handled = none) (hl : s.heap.IsTuple l items) (hx : StrsAre items.toList xs) (hb : xs.length + 1 < scanBound)
    (q : ∀ h' tk S', TxS w h' s.heap.objs.size S' → Met xs S' xs.length → (∀ b o, s.heap.get? b = some o → h'.get? b = some o) → Q (.ref s.heap.objs.size) { s with heap := h', toks := tk }) :
    wpAny (model P w) A (call (.type "set") [.ref l]) Q E s := by
  have isz : xs.length = items.size := by rw [← StrsAre.len_eq hx, Array.length_toList]
  have ⟨_, _, hm⟩ := PySem.F.called_set.mro
  have made := PySem.F.called_set.made
  have below := PySem.F.called_set.sub
  have nt := PySem.F.called_set.notType
  have cc := PySem.F.called_set.canCreate
  have tc := F.typeCall_set_1 (.ref l)
  refine wpAny_call (codeAny_of_tree ?_)
  show wpAny _ _ (callAny (.type "set") _) _ _ _
  refine wpAny_pure ⟨Code.quiet_builtin _ (by decide +kernel), codeAny_builtin PySem.F.entry_type_call ?_⟩
  rw [Around.under_plain (weight_type_call_type "set" [.ref l] []) rfl]
  repeat (any_goals (first | assumption | wp_step))
  let nw : Obj := { cls := .type "set", dict := none, data := .set #[] 0 (.fresh 0 0 (!w.params.followText "set-order")) }
  refine codeAny_mono (L2.code_set_led1 (.ref l) (E := E) (Q₁ := fun v s1 => v = .ref s.heap.objs.size ∧ s1 = { s with heap := s.heap.push nw }) ⟨rfl, rfl⟩) fun r s1 hr => ?_
  cases r with
  | error e => exact hr
  | ok fl =>
    cases fl with
    | ret v =>
      obtain ⟨rfl, rfl⟩ := hr
      have at0 : (s.heap.push nw).get? s.heap.objs.size = some nw := Heap.get?_push_size _ rfl
      have ty : Shared.TypeIs { s with heap := s.heap.push nw } (.ref s.heap.objs.size) "set" := ⟨_, at0, rfl⟩
      have lk := PySem.F.called_set.init.lookup
      have bd := PySem.F.called_set.init.bind (.ref s.heap.objs.size)
      repeat (any_goals (first | assumption | wp_step))
      refine codeAny_mono (codeAny_call_builtin (R := wants (fun v s2 => v = .none ∧ ∃ h' tk S', s2 = { s with heap := h', toks := tk } ∧ TxS w h' s.heap.objs.size S' ∧ Met xs S' xs.length ∧ ∀ b o, s.heap.get? b = some o → h'.get? b = some o) E)
        PySem.F.called_set.init.plain PySem.F.entry_set_init (check_set_init_1 ty ?_)) fun r2 s2 hr2 => ?_
      · obtain ⟨⟨cls, dict, data, slots⟩, ol, cl, nl, dl⟩ := hl
        simp only at cl dl
        subst cl dl
        have ol1 : (s.heap.push nw).get? l = some { cls := .type "tuple", dict := dict, data := .seq items nl, slots := slots } := Heap.get?_push_of_some _ ol
        have n1 := PySem.F.sub_tuple_set
        have n2 := PySem.F.sub_tuple_frozenset
        have n3 : (Value.type "tuple" == Value.type "dict") = false := by decide
        have hl1 : (s.heap.push nw).IsTuple l items := ⟨_, ol1, rfl, nl, rfl⟩
        unfold Builtin.«set.__init__» noKeywords Builtin.Frozenset.updateFrom
        generalize it : pyIter = IT
        wp_walk
        subst it
        refine wpAny_pyIter_tuple hl1 ?_
        refine wpAny_bind (wpAny_runValue ?_)
        have lS : l < s.heap.objs.size := Heap.lt_size ol
        have z1 : (s.heap.push nw).objs.size = s.heap.objs.size + 1 := Heap.size_push ..
        have nI : l ≠ (s.heap.push nw).objs.size := by rw [z1]; exact Nat.ne_of_lt (Nat.lt_succ_of_lt lS)
        refine tx_loop ((Walks.tuple (show A.in1.in1.in1.handled = none by simp [hh]) _ l nI items).toS) s.heap.objs.size ?_ xs isz (by rw [← isz]; exact hb) (fun i v hv => ?_) items.size 0 _ [] (by omega)
          ⟨⟨_, Heap.get?_push_size _ rfl, rfl, rfl⟩, hl1.push _⟩ (tx_fresh w (Heap.get?_push_of_some _ at0)) ⟨Nat.zero_le _, fun k => by simp⟩ fun s' S' mv T m => ?_
        · rw [z1]
          exact fun z => (List.mem_cons.mp z).elim (Nat.ne_of_lt (Nat.lt_succ_self _)) fun z => Nat.ne_of_gt lS (List.mem_singleton.mp z)
        · have hi : i < xs.length := by rw [isz]; exact (Array.getElem?_eq_some_iff.mp hv).1
          obtain ⟨u, e⟩ := SS.strs_at hx i v (by rw [Array.getElem?_toList]; exact hv)
          refine ⟨xs[i], u, List.getElem?_eq_getElem hi, ?_⟩
          rw [e, List.getD_eq_getElem?_getD, List.getElem?_eq_getElem hi] <;> rfl
        · obtain ⟨h', g2, d2, tk, os2⟩ := s'
          obtain rfl : g2 = s.gens := mv.gens
          obtain rfl : d2 = s.drawn := mv.drawn
          obtain rfl : os2 = s.os := mv.os
          show wpAny _ _ _ _ _ _
          refine wpAny_pure ?_
          show wpAny _ _ (ret Value.none) _ _ _
          refine wpAny_pure ⟨rfl, h', tk, S', rfl, T, by rw [isz]; exact m, fun b o e => ?_⟩
          have lb := Heap.lt_size e
          refine mv.heap b o ?_ (Heap.get?_push_of_some _ (Heap.get?_push_of_some _ e))
          rw [z1]
          exact fun z => (List.mem_cons.mp z).elim (Nat.ne_of_lt lb) fun z => Nat.ne_of_lt (Nat.lt_succ_of_lt lb) (List.mem_singleton.mp z)
      · cases r2 with
        | error e => exact hr2
        | ok fl2 =>
          cases fl2 with
          | ret v =>
            obtain ⟨rfl, h', tk, S', rfl, T, m, k⟩ := hr2
            repeat (any_goals (first | assumption | wp_step))
            exact q _ _ _ T m k
          | _ => exact hr2.elim
    | _ => exact hr.elim

end
end MP

set_option Elab.async false
set_option linter.all false
set_option maxRecDepth 100000
namespace MP
open PySem PySem.Spec PyProof.Rows L2
/-! Sets of numbers, made from a list. -/
theorem ints_len : ∀ {vs : List Value} {ns : List Int}, IntsAre vs ns → vs.length = ns.length
  | _, _, .nil => rfl
  | _, _, .cons _ _ h => by rw [List.length_cons, List.length_cons, ints_len h]
section
variable {P : Program} {w : World} {A : Around} {E : Value → Shared → Prop} {s : Shared} {a : Addr}
set_option maxHeartbeats 3200000 in
theorem set_lstI {l : Addr} {items : Array Value} {xs : List Int} {Q : Value → Shared → Prop} (hh : A.handled = none) (hl : s.heap.IsList l items) (hx : IntsAre items.toList xs) (hb : xs.length + 1 < scanBound)
    (q : ∀ h' tk c, SetR w h' s.heap.objs.size (fun j => decide (j ∈ xs)) c → c ≤ xs.length → (∀ b o, s.heap.get? b = some o → h'.get? b = some o) → Q (.ref s.heap.objs.size) { s with heap := h', toks := tk }) :
    wpAny (model P w) A (call (.type "set") [.ref l]) Q E s := by
  have isz : xs.length = items.size := by rw [← ints_len hx, Array.length_toList]
  have ⟨_, _, hm⟩ := PySem.F.called_set.mro
  have made := PySem.F.called_set.made
  have below := PySem.F.called_set.sub
  have nt := PySem.F.called_set.notType
  have cc := PySem.F.called_set.canCreate
  have tc := F.typeCall_set_1 (.ref l)
  refine wpAny_call (codeAny_of_tree ?_)
  show wpAny _ _ (callAny (.type "set") _) _ _ _
  refine wpAny_pure ⟨Code.quiet_builtin _ (by decide +kernel), codeAny_builtin PySem.F.entry_type_call ?_⟩
  rw [Around.under_plain (weight_type_call_type "set" [.ref l] []) rfl]
  repeat (any_goals (first | assumption | wp_step))
  let nw : Obj := { cls := .type "set", dict := none, data := .set #[] 0 (.fresh 0 0 (!w.params.followText "set-order")) }
  refine codeAny_mono (L2.code_set_led1 (.ref l) (E := E) (Q₁ := fun v s1 => v = .ref s.heap.objs.size ∧ s1 = { s with heap := s.heap.push nw }) ⟨rfl, rfl⟩) fun r s1 hr => ?_
  cases r with
  | error e => exact hr
  | ok fl =>
    cases fl with
    | ret v =>
      obtain ⟨rfl, rfl⟩ := hr
      have at0 : (s.heap.push nw).get? s.heap.objs.size = some nw := Heap.get?_push_size _ rfl
      have ty : Shared.TypeIs { s with heap := s.heap.push nw } (.ref s.heap.objs.size) "set" := ⟨_, at0, rfl⟩
      have lk := PySem.F.called_set.init.lookup
      have bd := PySem.F.called_set.init.bind (.ref s.heap.objs.size)
      repeat (any_goals (first | assumption | wp_step))
      refine codeAny_mono (codeAny_call_builtin (R := wants (fun v s2 => v = .none ∧ ∃ h' tk c, s2 = { s with heap := h', toks := tk } ∧ SetR w h' s.heap.objs.size (fun j => decide (j ∈ xs)) c ∧ c ≤ xs.length ∧ ∀ b o, s.heap.get? b = some o → h'.get? b = some o) E)
        PySem.F.called_set.init.plain PySem.F.entry_set_init (check_set_init_1 ty ?_)) fun r2 s2 hr2 => ?_
      · obtain ⟨⟨cls, dict, data, slots⟩, ol, cl, nl, dl⟩ := hl
        simp only at cl dl
        subst cl dl
        have ol1 : (s.heap.push nw).get? l = some { cls := .type "list", dict := dict, data := .seq items nl, slots := slots } := Heap.get?_push_of_some _ ol
        have n1 := PySem.F.sub_list_set
        have n2 := PySem.F.sub_list_frozenset
        have n3 : (Value.type "list" == Value.type "dict") = false := by decide
        have hl1 : (s.heap.push nw).IsList l items := ⟨_, ol1, rfl, nl, rfl⟩
        unfold Builtin.«set.__init__» noKeywords Builtin.Frozenset.updateFrom
        generalize it : pyIter = IT
        wp_walk
        subst it
        refine wpAny_pyIter_list hl1 ?_
        refine wpAny_bind (wpAny_runValue ?_)
        have lS : l < s.heap.objs.size := Heap.lt_size ol
        have z1 : (s.heap.push nw).objs.size = s.heap.objs.size + 1 := Heap.size_push ..
        have nI : l ≠ (s.heap.push nw).objs.size := by rw [z1]; exact Nat.ne_of_lt (Nat.lt_succ_of_lt lS)
        refine set_update_ints ((Walks.list (show A.in1.in1.in1.handled = none by simp [hh]) _ l nI items).toS) s.heap.objs.size ?_ xs isz.symm hb (fun i v hv => ?_) items.size 0 _ (by omega) (Nat.zero_le _)
          ⟨⟨_, Heap.get?_push_size _ rfl, rfl, rfl⟩, hl1.push _⟩ ⟨0, Nat.zero_le _, setR_new_at (Heap.get?_push_of_some _ at0)⟩ fun s' c mv lc T => ?_
        · rw [z1]
          exact fun z => (List.mem_cons.mp z).elim (Nat.ne_of_lt (Nat.lt_succ_self _)) fun z => Nat.ne_of_gt lS (List.mem_singleton.mp z)
        · have hi : i < xs.length := by rw [isz]; exact (Array.getElem?_eq_some_iff.mp hv).1
          obtain ⟨k, u, e1, e2⟩ := hx.at i v (by rw [Array.getElem?_toList]; exact hv)
          exact ⟨k, u, e2, e1⟩
        · obtain ⟨h', g2, d2, tk, os2⟩ := s'
          obtain rfl : g2 = s.gens := mv.gens
          obtain rfl : d2 = s.drawn := mv.drawn
          obtain rfl : os2 = s.os := mv.os
          show wpAny _ _ _ _ _ _
          refine wpAny_pure ?_
          show wpAny _ _ (ret Value.none) _ _ _
          refine wpAny_pure ⟨rfl, h', tk, c, rfl, T, by rw [isz]; exact lc, fun b o e => ?_⟩
          have lb := Heap.lt_size e
          refine mv.heap b o ?_ (Heap.get?_push_of_some _ (Heap.get?_push_of_some _ e))
          rw [z1]
          exact fun z => (List.mem_cons.mp z).elim (Nat.ne_of_lt lb) fun z => Nat.ne_of_lt (Nat.lt_succ_of_lt lb) (List.mem_singleton.mp z)
      · cases r2 with
        | error e => exact hr2
        | ok fl2 =>
          cases fl2 with
          | ret v =>
            obtain ⟨rfl, h', tk, c, rfl, T, m, k⟩ := hr2
            repeat (any_goals (first | assumption | wp_step))
            exact q _ _ _ T m k
          | _ => exact hr2.elim
    | _ => exact hr.elim

end
/-! the data -/
def dedupI : List Int → List Int
  | [] => []
  | x :: xs => x :: (dedupI xs).filter fun y => !(x == y)
theorem dedup_int : ∀ ns : List Int, dedup (ns.map D.int) = (dedupI ns).map D.int
  | [] => rfl
  | x :: xs => by
    show D.int x :: (dedup (xs.map D.int)).filter _ = _
    rw [dedup_int xs, List.filter_map]
    rfl
theorem dedupI_mem : ∀ (ns : List Int) (k : Int), k ∈ dedupI ns ↔ k ∈ ns
  | [], k => .rfl
  | x :: xs, k => by
    unfold dedupI
    rw [List.mem_cons, List.mem_cons, List.mem_filter, dedupI_mem xs k]
    constructor
    · exact fun z => z.imp id (·.1)
    · intro z
      by_cases e : k = x
      · exact .inl e
      · exact .inr ⟨z.resolve_left e, by simpa using fun q : x = k => e q.symm⟩
theorem dedupI_nodup : ∀ ns : List Int, (dedupI ns).Nodup
  | [] => .nil
  | x :: xs => by
    unfold dedupI
    refine List.nodup_cons.mpr ⟨fun z => ?_, (dedupI_nodup xs).filter _⟩
    have q := (List.mem_filter.mp z).2
    simp at q
theorem dedupI_len : ∀ ns : List Int, (dedupI ns).length ≤ ns.length
  | [] => Nat.le_refl _
  | x :: xs => by
    unfold dedupI
    rw [List.length_cons, List.length_cons]
    exact Nat.succ_le_succ (Nat.le_trans (List.length_filter_le _ _) (dedupI_len xs))
/-- so many are in it -/
theorem setR_count {w : World} {h : Heap} {a : Addr} {S : Int → Bool} {c : Nat} {ns : List Int} (R : SetR w h a S c) (m : ∀ k, S k = true ↔ k ∈ ns) : c = (dedupI ns).length := by
  obtain ⟨o, es, ep, t, _, _, _, _, nd, mem, _, _, sz, _⟩ := R
  have p : (es.toList.map keyOf).Perm (dedupI ns) := (List.perm_ext_iff_of_nodup nd (dedupI_nodup ns)).mpr fun k => by rw [← mem, m, dedupI_mem]
  have := p.length_eq
  rw [List.length_map, Array.length_toList] at this
  omega
theorem set_ints {ns ys : List Int} (h : ys.Pairwise (· < ·)) (m : ∀ k, k ∈ ys ↔ k ∈ ns) : ys = sortI (dedupI ns) := by
  have nd : ys.Nodup := h.imp fun {a b} z e => by omega
  exact sortI_uniq ((List.perm_ext_iff_of_nodup nd (dedupI_nodup ns)).mpr fun k => by rw [m, dedupI_mem]) (h.imp fun {a b} z => by omega)
section
variable {X : Cx}
/-- sorted of a set of numbers -/
theorem sorted_madeI {pins : List (Addr × Obj)} {σ : St} {H : Hp} {s : Shared} {Q : VK} {a : Addr} {S : Int → Bool} {c : Nat} {ns : List Int} (hc : X.calm = true) (I : Inv X pins σ H s) (T : SetR X.w s.heap a S c) (m : ∀ k, S k = true ↔ k ∈ ns) (few : (dedupI ns).length < 64)
    (q : ∀ p, H p = none → Q (.ref p) (upd H p (.lst ((sortI (dedupI ns)).map V.int)))) : wpAny (model X.prog X.w) X.A (call (.builtin "sorted") [.ref a]) (EP X pins σ Q) X.xe s := by
  have ce := setR_count T m
  refine sorted_set T (I.ok.hd hc) (by omega) fun s' p out c' ys k g o hp at' hs pw mem len => ?_
  have e := set_ints (ns := ns) pw fun k => (mem k).trans (m k)
  subst e
  have new := I.hok.fresh hp
  refine ⟨.ref p, upd H p (.lst ((sortI (dedupI ns)).map V.int)), I.call' (ch := []) o (Un.laid k hp new) (I.hok.laid k hp ⟨?_, out.toList, c', vals_of_ints hs, at'⟩) (by rw [g]; exact I.bare) (fun _ z => nomatch z), rfl, q p new⟩
  rw [List.length_map, (sortI_perm _).length_eq, sizeLine_eq]
  omega
end
end MP

set_option Elab.async false
set_option linter.all false
set_option maxRecDepth 100000
namespace MP
open PySem PySem.Spec PyProof.Rows L2
section
variable {P : Program} {w : World} {A : Around} {E : Value → Shared → Prop} {s : Shared} {a : Addr} {S : List Str}
theorem texts_of : ∀ l : List (Int × Value), (∀ e ∈ l, IsTx w e) → StrsAre (l.map (·.2)) (l.map txt)
  | [], _ => .nil
  | e :: l, h => by
    obtain ⟨k, u, h1, h2⟩ := h e List.mem_cons_self
    have e2 : txt e = k := by unfold txt; rw [h1]
    rw [List.map_cons, List.map_cons, h1, e2]
    exact .cons k u (texts_of l fun x hx => h x (List.mem_cons_of_mem _ hx))
theorem strsAre_perm {us vs : List Value} {xs : List Str} (h : StrsAre us xs) (p : vs.Perm us) : ∃ ys, StrsAre vs ys ∧ ys.Perm xs := by
  refine ⟨vs.map strOf, strsAre_map vs fun v hv => h.all v (p.mem_iff.mp hv), ?_⟩
  have q := p.map strOf
  rwa [h.strs] at q
theorem sorted_tx {Q : Value → Shared → Prop} (hh : A.handled = none) (T : TxS w s.heap a S)
    (q : ∀ s' p out c ys, (∀ b o, s.heap.get? b = some o → s'.heap.get? b = some o) → s'.gens = s.gens → s'.os = s.os → s.heap.objs.size ≤ p → s'.heap.get? p = some (seqObj "list" out c) →
      StrsAre out.toList ys → ys.Perm S → sortedS ys = true → Q (.ref p) s') :
    wpAny (model P w) A (call (.builtin "sorted") [.ref a]) Q E s := by
  obtain ⟨o, es, ep, t, ho, hex, hd, R⟩ := T
  have few : es.size < scanBound := by rw [R.size]; exact R.few
  refine Calls.call_function_entry kind_sorted plain_sorted entry_sorted (args_sorted1 _) ?_
  unfold Builtin.«sorted»
  refine wpAny_bind (m := checkCount "sorted" 1 1 _) (wpAny_pure (wpAny_bind (L2.collect_set (A := A.in1) hh ⟨o, ho, hex.1, hd⟩ R.fit few R.ris R.led fun s1 vs k1 z1 g1 o1 pm => ?_)))
  obtain ⟨xs, hx, px⟩ := strsAre_perm (texts_of es.toList R.all) pm
  have len : vs.length ≤ sizeLine := by
    rw [pm.length_eq, List.length_map, Array.length_toList]
    exact fits_of_scanBound few
  refine wpAny_bind (wpAny_newList ?_ len)
  have ol : (s1.heap.push (seqObj "list" vs.toArray 0)).get? s1.heap.objs.size = some (seqObj "list" vs.toArray 0) := Heap.get?_push_size _ rfl
  refine wpAny_bind (wpAny_holding (wpAny_call_entry slot_list_sort ⟨_, ol, rfl⟩ entry_list_sort (list_sort_treeKAny strKind_oneLt ol hx.keysOf (fun v1 v2 r e => keyKind_strs (by rw [← e]; exact hx)) len fun st hp hs => ⟨_, rfl, ?_⟩) (args_list_sort _)))
  obtain ⟨ys, a1, a2, a3⟩ := sorted_out_str hx hp hs
  obtain ⟨c, hc⟩ := sortedHeap_at (vs := vs) (out := (arrOf st).map (·.2)) ol
  refine wpAny_pure ⟨_, rfl, q _ s1.heap.objs.size _ c ys (fun b u e => ?_) g1 o1 z1 hc a1 (a2.trans (px.trans R.perm)) a3⟩
  have lt := Heap.lt_size (k1 b u e)
  show (sortedHeap (s1.heap.push (seqObj "list" vs.toArray 0)) s1.heap.objs.size vs ((arrOf st).map (·.2))).get? b = some u
  rw [sortedHeap_old (Nat.ne_of_lt lt) (by rw [size_push']; exact Nat.lt_succ_of_lt lt)]
  exact Heap.get?_push_of_some _ (k1 b u e)
end
/-! the data -/
def dedupT : List (List Nat) → List (List Nat)
  | [] => []
  | x :: xs => x :: (dedupT xs).filter fun y => !(x == y)
theorem dedup_str : ∀ ns : List (List Nat), dedup (ns.map D.str) = (dedupT ns).map D.str
  | [] => rfl
  | x :: xs => by
    show D.str x :: (dedup (xs.map D.str)).filter _ = _
    rw [dedup_str xs, List.filter_map]
    rfl
theorem dedupT_mem : ∀ (ns : List (List Nat)) (k : List Nat), k ∈ dedupT ns ↔ k ∈ ns
  | [], k => .rfl
  | x :: xs, k => by
    unfold dedupT
    rw [List.mem_cons, List.mem_cons, List.mem_filter, dedupT_mem xs k]
    constructor
    · exact fun z => z.imp id (·.1)
    · intro z
      by_cases e : k = x
      · exact .inl e
      · exact .inr ⟨z.resolve_left e, by simpa using fun q : x = k => e q.symm⟩
theorem dedupT_nodup : ∀ ns : List (List Nat), (dedupT ns).Nodup
  | [] => .nil
  | x :: xs => by
    unfold dedupT
    refine List.nodup_cons.mpr ⟨fun z => ?_, (dedupT_nodup xs).filter _⟩
    have q := (List.mem_filter.mp z).2
    simp at q
theorem dedupT_len : ∀ ns : List (List Nat), (dedupT ns).length ≤ ns.length
  | [] => Nat.le_refl _
  | x :: xs => by
    unfold dedupT
    rw [List.length_cons, List.length_cons]
    exact Nat.succ_le_succ (Nat.le_trans (List.length_filter_le _ _) (dedupT_len xs))
theorem str0_inj' {x y : List Nat} (h : str0 x = str0 y) : x = y := by
  have q := congrArg un0 h
  rwa [un0_str0, un0_str0] at q
theorem set_texts {ns : List (List Nat)} {S ys : List Str} (nd : S.Nodup) (m : Met (ns.map str0) S (ns.map str0).length) (p : ys.Perm S) (h : sortedS ys = true) : ys = (sortT (dedupT ns)).map str0 := by
  refine sorted_texts (p.trans ?_) h
  refine (List.perm_ext_iff_of_nodup nd ?_).mpr fun k => ?_
  · exact List.Pairwise.map _ (fun a b ne e => ne (str0_inj' e)) (dedupT_nodup ns)
  · have q := m.2 k
    rw [List.take_length] at q
    rw [q, List.mem_map, List.mem_map]
    exact ⟨fun ⟨x, hx, e⟩ => ⟨x, (dedupT_mem ns x).2 hx, e⟩, fun ⟨x, hx, e⟩ => ⟨x, (dedupT_mem ns x).1 hx, e⟩⟩
section
variable {X : Cx}
/-- sorted of a set that stands in no abstract heap -/
theorem sorted_made {pins : List (Addr × Obj)} {σ : St} {H : Hp} {s : Shared} {Q : VK} {a : Addr} {S : List Str} (hc : X.calm = true) (I : Inv X pins σ H s) (T : TxS X.w s.heap a S) (few : S.length ≤ big)
    (q : ∀ p ys, ys.Perm S → sortedS ys = true → H p = none → Q (.ref p) (upd H p (.lst (ys.map V.str)))) : wpAny (model X.prog X.w) X.A (call (.builtin "sorted") [.ref a]) (EP X pins σ Q) X.xe s := by
  refine sorted_tx (I.ok.hd hc) T fun s' p out c ys k g o hp at' hs pm so => ?_
  have new := I.hok.fresh hp
  refine ⟨.ref p, upd H p (.lst (ys.map V.str)), I.call' (ch := []) o (Un.laid k hp new) (I.hok.laid k hp ⟨?_, out.toList, c, vals_of_strs hs, at'⟩) (by rw [g]; exact I.bare) (fun _ z => nomatch z), rfl, q p ys pm so new⟩
  rw [List.length_map, pm.length_eq]
  exact big_line few

theorem pe_sset {a : Expr} {as : List Expr} {t : TA} {p p2 pos pos2 : Pos} (hc : X.calm = true) (hu : X.A.units + 66 < cLine) (gs : Gl X "sorted") (ms : X.mg "sorted" = none) (gt : Gl X "set") (mt : X.mg "set" = none) (bs : bootBuiltins "sorted" = some (.builtin "sorted")) (bt : bootBuiltins "set" = some (.type "set")) (ha : PA X (a :: as) t)
    (he : starEach (a :: as) X.env = (false, eval a X.env) :: starEach as X.env) (hp : (backTo pos2 (starEach as X.env)).any (·.1) = false) :
    PE X (.Call (.Name "sorted" p) [.Call (.Name "set" p2) (a :: as) [] pos2] [] pos) (tCB (rBi X.K .sortedset) t) := by
  refine ⟨fun pins s σ H Q I h => ?_⟩
  refine wpAny_Call_Name_kw (ld_blt I gs ms bs ?_)
  refine callWith_builtin1 (args_cons ?_ rfl) rfl rfl
  refine wpAny_Call_Name_kw (ld_blt I gt mt bt ?_)
  refine callWith_type1 (thn (ha.run pos2 pins s σ H _ I h) fun us s1 ⟨vs, H1, I1, r1, M, ds, r, mok, wx, hr, q⟩ => ?_) he hp
  have goal : ∀ (ns : List (List Nat)) (h' : Heap) (tk : Nat) (S' : List Str), r = .own (isort (dedup (ns.map D.str))) → (ns.map D.str).length ≤ big → (∀ x ∈ ns, okS x = true ∧ x.length ≤ big) →
      TxS X.w h' s1.heap.objs.size S' → Met (ns.map str0) S' (ns.map str0).length → (∀ b o, s1.heap.get? b = some o → h'.get? b = some o) →
      wpAny (model X.prog X.w) X.A (spliced (backTo pos (starEach [] X.env))) (fun vs s2 => wpAny (model X.prog X.w) X.A (call (.builtin "sorted") (Value.ref s1.heap.objs.size :: vs)) (EP X pins σ Q) X.xe s2) X.xe { s1 with heap := h', toks := tk } := fun ns h' tk S' er ln ok T m k => by
    refine args_nil ?_
    rw [er, dedup_str, isort_str] at q
    have fs : S'.length ≤ big := Nat.le_trans m.1 (by simpa using ln)
    refine sorted_made (s := { s1 with heap := h', toks := tk }) hc (I1.kept k) T fs fun p ys pm so hn => ?_
    have nd : S'.Nodup := by
      obtain ⟨_, _, _, _, _, _, _, R⟩ := T
      exact R.nd
    obtain rfl := set_texts nd m pm so
    refine q _ _ (new_lst hn (repL_strs fun x hx => ok x ((dedupT_mem ns x).1 ((sortT_perm _).mem_iff.mp hx))) ?_)
    rw [List.length_map, (sortT_perm _).length_eq]
    exact Nat.le_trans (dedupT_len ns) (by simpa using ln)
  have goalT : ∀ (ps : List (Addr × List It1)) (h' : Heap) (tk : Nat) (L' : List (Addr × List It1)), r = .own (isort (dedup ((ps.map Prod.snd).map dT))) → ps.length ≤ big → (∀ p ∈ ps, Rep X.K M H1 (.ref p.1) (dT p.2)) →
      (∀ l ∈ ps.map Prod.snd, l ≠ []) → (∀ a ∈ ps.map Prod.snd, ∀ b ∈ ps.map Prod.snd, cmpK a b = true) →
      Ms (mF X.prog X.w) h' s1.heap.objs.size L' → Got1 ps L' ps.length → (∀ b o, s1.heap.get? b = some o → h'.get? b = some o) →
      wpAny (model X.prog X.w) X.A (spliced (backTo pos (starEach [] X.env))) (fun vs s2 => wpAny (model X.prog X.w) X.A (call (.builtin "sorted") (Value.ref s1.heap.objs.size :: vs)) (EP X pins σ Q) X.xe s2) X.xe { s1 with heap := h', toks := tk } := fun ps h' tk L' er ln h3 ne cm T g k => by
    refine args_nil ?_
    rw [er, dedup_dT, isort_dT] at q
    refine sorted_made_t (s := { s1 with heap := h', toks := tk }) hc (I1.kept k) T g h3 ln ne cm fun ys p r2 hn => ?_
    refine q _ _ (new_lst hn r2 ?_)
    rw [List.length_map, (sortK_perm _).length_eq]
    exact Nat.le_trans (dedupK_len _) (by rw [List.length_map]; exact ln)
  have goalI : ∀ (ns : List Int) (h' : Heap) (tk : Nat) (c : Nat), r = .own (isort (dedup (ns.map D.int))) → (dedup (ns.map D.int)).length < 62 →
      SetR X.w h' s1.heap.objs.size (fun j => decide (j ∈ ns)) c → (∀ b o, s1.heap.get? b = some o → h'.get? b = some o) →
      wpAny (model X.prog X.w) X.A (spliced (backTo pos (starEach [] X.env))) (fun vs s2 => wpAny (model X.prog X.w) X.A (call (.builtin "sorted") (Value.ref s1.heap.objs.size :: vs)) (EP X pins σ Q) X.xe s2) X.xe { s1 with heap := h', toks := tk } := fun ns h' tk c er ln T k => by
    refine args_nil ?_
    rw [er, dedup_int, isort_int] at q
    rw [dedup_int, List.length_map] at ln
    refine sorted_madeI (s := { s1 with heap := h', toks := tk }) (ns := ns) hc (I1.kept k) T (fun k => decide_eq_true_iff) (by omega) fun p hn => ?_
    refine q _ _ (new_lst hn (repL_ints _) ?_)
    rw [List.length_map, (sortI_perm _).length_eq]
    show _ ≤ 1000000
    omega
  have rmx : ∀ B : Around, B.units ≤ X.A.units + 8 → (mF X.prog X.w).kd.room B := fun B hB => by
    show B.units < cLine
    omega
  unfold biD at hr
  split at hr
  all_goals try contradiction
  · split at hr
    · rename_i hl
      rw [Bool.and_eq_true, decide_eq_true_eq] at hl
      cases hr
      obtain ⟨v, rfl, wv⟩ := wx.one
      obtain ⟨l, ys, rfl, h, rl, ln⟩ := wv.lst
      obtain ⟨ns, rfl⟩ := allS_map hl.1
      obtain ⟨rfl, ok⟩ := rl.strs
      rw [Vals.ref1 r1]
      obtain ⟨its, rv, pl, hz⟩ := I1.list (SqL.of h)
      have few := hl.2
      rw [List.length_map] at few
      exact set_lst (I1.ok.hd hc) pl.isList (by simpa using rv.strs) (by rw [List.length_map]; unfold scanBound; omega) fun h' tk S' T m k => goal ns h' tk S' rfl ln ok T m k
    · split at hr
      · rename_i hl
        rw [Bool.and_eq_true, decide_eq_true_eq] at hl
        cases hr
        obtain ⟨v, rfl, wv⟩ := wx.one
        obtain ⟨l, ys, rfl, h, rl, ln⟩ := wv.lst
        obtain ⟨ts, rfl, ne, cm⟩ := allT_map hl.1
        obtain ⟨ps, rfl, rfl, h3⟩ := rows_rep rl
        rw [Vals.ref1 r1]
        obtain ⟨its, rv, pl, hz⟩ := I1.list (SqL.of h)
        obtain rfl := rows_vals rv
        have few := few_of hl.2
        exact set_of_list (m := mF X.prog X.w) (ks := ps) (I1.ok.hd hc) pl.isList (fun p hp => tupF_of I1 (h3 p hp)) few rmx fun h' tk L' T g k => goalT ps h' tk L' rfl (by simpa using ln) h3 ne cm T g k
      · split at hr
        · rename_i hl
          rw [Bool.and_eq_true, Bool.and_eq_true, decide_eq_true_eq, decide_eq_true_eq] at hl
          cases hr
          obtain ⟨v, rfl, wv⟩ := wx.one
          obtain ⟨l, ys, rfl, h, rl, ln⟩ := wv.lst
          obtain ⟨ns, rfl⟩ := allI_map hl.1.1
          obtain rfl := rl.ints
          rw [Vals.ref1 r1]
          obtain ⟨its, rv, pl, hz⟩ := I1.list (SqL.of h)
          have few := hl.2
          rw [List.length_map] at few
          exact set_lstI (I1.ok.hd hc) pl.isList (by simpa using rv.ints) (by unfold scanBound; omega) fun h' tk c T m k => goalI ns h' tk c rfl hl.1.2 T k
        · cases hr
  · split at hr
    · rename_i hl
      rw [Bool.and_eq_true, decide_eq_true_eq] at hl
      cases hr
      obtain ⟨v, rfl, wv⟩ := wx.one
      obtain ⟨l, ys, rfl, h, rl, ln⟩ := wv.tup
      obtain ⟨ns, rfl⟩ := allS_map hl.1
      obtain ⟨rfl, ok⟩ := rl.strs
      rw [Vals.ref1 r1]
      obtain ⟨its, rv, pl, hz⟩ := I1.tuple h.sq
      have few := hl.2
      rw [List.length_map] at few
      exact set_tup (I1.ok.hd hc) pl (by simpa using rv.strs) (by rw [List.length_map]; unfold scanBound; omega) fun h' tk S' T m k => goal ns h' tk S' rfl ln ok T m k
    · split at hr
      · rename_i hl
        rw [Bool.and_eq_true, decide_eq_true_eq] at hl
        cases hr
        obtain ⟨v, rfl, wv⟩ := wx.one
        obtain ⟨l, ys, rfl, h, rl, ln⟩ := wv.tup
        obtain ⟨ts, rfl, ne, cm⟩ := allT_map hl.1
        obtain ⟨ps, rfl, rfl, h3⟩ := rows_rep rl
        rw [Vals.ref1 r1]
        obtain ⟨its, rv, pl, hz⟩ := I1.tuple h.sq
        obtain rfl := rows_vals rv
        have few := few_of hl.2
        exact set_of_tuple (m := mF X.prog X.w) (ks := ps) (I1.ok.hd hc) pl (fun p hp => tupF_of I1 (h3 p hp)) few rmx fun h' tk L' T g k => goalT ps h' tk L' rfl (by simpa using ln) h3 ne cm T g k
      · split at hr
        · rename_i hl
          rw [Bool.and_eq_true, Bool.and_eq_true, decide_eq_true_eq, decide_eq_true_eq] at hl
          cases hr
          obtain ⟨v, rfl, wv⟩ := wx.one
          obtain ⟨l, ys, rfl, h, rl, ln⟩ := wv.tup
          obtain ⟨ns, rfl⟩ := allI_map hl.1.1
          obtain rfl := rl.ints
          rw [Vals.ref1 r1]
          obtain ⟨its, rv, pl, hz⟩ := I1.tuple h.sq
          have few := hl.2
          rw [List.length_map] at few
          exact call_set_tupI ns (I1.ok.hd hc) pl (by simpa using rv.ints) (by unfold scanBound; omega) fun h' tk c T m k => goalI ns h' tk c rfl hl.1.2 T k
        · cases hr
end
end MP

set_option Elab.async false
set_option linter.all false
set_option maxRecDepth 100000
namespace MP
open PySem PySem.Spec PyProof.Rows L2
/-! ### a call -/
def Args (K : PySem.W.Frag) (M : Addr → Prop) (H : Hp) : List V → List AV → List Addr → Prop
  | [], [], [] => True
  | v :: vs, .sh d :: as, L => Rep K M H v d ∧ Args K M H vs as L
  | v :: vs, .mu ds :: as, a :: L => (v = .ref a ∧ M a ∧ (∃ xs, H a = some (.lst xs) ∧ RepL K M H xs ds) ∧ ds.length ≤ big) ∧ Args K M H vs as L
  | _, _, _ => False
def Outs (K : PySem.W.Frag) (M : Addr → Prop) (H : Hp) : List Addr → List (List D) → Prop
  | [], [] => True
  | a :: L, ds :: os => (M a ∧ (∃ xs, H a = some (.lst xs) ∧ RepL K M H xs ds) ∧ ds.length ≤ big) ∧ Outs K M H L os
  | _, _ => False
/-- what a call hands back -/
def RC (K : PySem.W.Frag) (M' : Addr → Prop) (H H' : Hp) (v : V) : RV → Prop
  | .sh d => Rep K M' H' v d
  | .own ds => ∃ a, v = .ref a ∧ M' a ∧ H a = none ∧ (∃ xs, H' a = some (.lst xs) ∧ RepL K M' H' xs ds) ∧ ds.length ≤ big
structure Post (K : PySem.W.Frag) (M : Addr → Prop) (H : Hp) (L : List Addr) (os : List (List D)) (M' : Addr → Prop) (H' : Hp) (v : V) (r : RV) : Prop where
  keep : ∀ b o, H b = some o → b ∉ L → H' b = some o
  alive : ∀ b, H' b = none → H b = none
  mono : ∀ b, M b → M' b
  grow : ∀ b, M' b → M b ∨ H b = none
  mok : MOk M' H'
  outs : Outs K M' H' L os
  res : RC K M' H H' v r
def spC (K : PySem.W.Frag) (cf : CF) (f n : Nat) : Sp := fun vs H Q _ => vs.length = n ∧ ∃ M avs L r os, MOk M H ∧ L.Nodup ∧ Args K M H vs avs L ∧ cf f avs = some (r, os) ∧ ∀ M' H' v, Post K M H L os M' H' v r → Q v H'

section
variable {K : PySem.W.Frag} {F : Fr} {M M' : Addr → Prop} {env env' : En} {σ : St} {H H' : Hp}
/-- slots and a list made for the call, by their places -/
def SlL (F : Fr) (M : Addr → Prop) (env : En) (σ : St) (H : Hp) : List (Option Nat) → List Addr → Prop
  | [], [] => True
  | some i :: is, a :: L => ((∃ (p : Bool) (ds : List D), env[i]? = some (some (SV.own p ds))) ∧ σ[i]? = some (some (V.ref a))) ∧ SlL F M env σ H is L
  | none :: is, a :: L => (M a ∧ F.H0 a = none ∧ ¬ Own env σ a ∧ ∃ xs, H a = some (.lst xs)) ∧ SlL F M env σ H is L
  | _, _ => False
theorem SlL.get : ∀ {is : List (Option Nat)} {L : List Addr} {k j : Nat}, SlL F M env σ H is L → is[k]? = some (some j) → ∃ a, L[k]? = some a ∧ (∃ (p : Bool) (ds : List D), env[j]? = some (some (SV.own p ds))) ∧ σ[j]? = some (some (V.ref a))
  | [], _, _, _, _, e => by simp at e
  | some i :: is, a :: L, 0, j, h, e => by
    simp at e; subst e
    exact ⟨a, rfl, h.1⟩
  | none :: is, a :: L, 0, j, h, e => by simp at e
  | some i :: is, a :: L, k + 1, j, h, e => SlL.get (k := k) h.2 (by simpa using e)
  | none :: is, a :: L, k + 1, j, h, e => SlL.get (k := k) h.2 (by simpa using e)
  | some _ :: _, [], _, _, h, _ => h.elim
  | none :: _, [], _, _, h, _ => h.elim
theorem SlL.mem : ∀ {is : List (Option Nat)} {L : List Addr} {a : Addr}, SlL F M env σ H is L → a ∈ L → (∃ j, some j ∈ is ∧ (∃ (p : Bool) (ds : List D), env[j]? = some (some (SV.own p ds))) ∧ σ[j]? = some (some (V.ref a))) ∨ (M a ∧ F.H0 a = none ∧ ¬ Own env σ a ∧ ∃ xs, H a = some (.lst xs))
  | [], [], a, _, hm => by cases hm
  | [], _ :: _, a, h, hm => h.elim
  | some i :: is, b :: L, a, h, hm => by
    rcases List.mem_cons.mp hm with rfl | hm
    · exact .inl ⟨i, List.mem_cons_self, h.1⟩
    · exact (SlL.mem h.2 hm).imp (fun ⟨j, hj, q⟩ => ⟨j, List.mem_cons_of_mem _ hj, q⟩) id
  | none :: is, b :: L, a, h, hm => by
    rcases List.mem_cons.mp hm with rfl | hm
    · exact .inr h.1
    · exact (SlL.mem h.2 hm).imp (fun ⟨j, hj, q⟩ => ⟨j, List.mem_cons_of_mem _ hj, q⟩) id
  | some _ :: _, [], _, h, _ => h.elim
  | none :: _, [], _, h, _ => h.elim
theorem Outs.get : ∀ {L : List Addr} {os : List (List D)} {k : Nat} {a : Addr} {ds : List D}, Outs K M H L os → L[k]? = some a → os[k]? = some ds → M a ∧ (∃ xs, H a = some (.lst xs) ∧ RepL K M H xs ds) ∧ ds.length ≤ big
  | [], [], _, _, _, _, e, _ => by simp at e
  | a :: L, ds :: os, 0, _, _, h, e, e2 => by
    simp at e e2; subst e; subst e2
    exact h.1
  | a :: L, ds :: os, k + 1, _, _, h, e, e2 => Outs.get (k := k) h.2 (by simpa using e) (by simpa using e2)
  | [], _ :: _, _, _, _, h, _, _ => h.elim
  | _ :: _, [], _, _, _, h, _, _ => h.elim
theorem nodup_some {i : Nat} {is : List (Option Nat)} (h : nodup (some i :: is) = true) : some i ∉ is ∧ nodup is = true := by
  simp only [nodup, Bool.and_eq_true, List.all_eq_true] at h
  refine ⟨fun hm => ?_, h.2⟩
  have := h.1 _ hm
  simp at this
theorem nodup_none {is : List (Option Nat)} (h : nodup (none :: is) = true) : none ∉ is ∧ nodup is = true := by
  simp only [nodup, Bool.and_eq_true, List.all_eq_true] at h
  refine ⟨fun hm => ?_, h.2⟩
  have := h.1 _ hm
  simp at this
theorem giveBack_spec : ∀ {is : List (Option Nat)} {os : List (List D)} {env env2 : En}, nodup is = true → giveBack env is os = some env2 → env2.length = env.length ∧
    ∀ j : Nat, (env2[j]? = env[j]? ∧ some j ∉ is) ∨ ∃ (k : Nat) (p : Bool) (ds ds0 : List D), is[k]? = some (some j) ∧ os[k]? = some ds ∧ env2[j]? = some (some (SV.own p ds)) ∧ env[j]? = some (some (SV.own p ds0))
  | [], [], env, env2, _, e => by
    simp only [giveBack] at e
    cases e
    exact ⟨rfl, fun j => .inl ⟨rfl, by simp⟩⟩
  | none :: is, d :: os, env, env2, hn, e => by
    simp only [giveBack] at e
    obtain ⟨hn1, hn2⟩ := nodup_none hn
    obtain ⟨l, h⟩ := giveBack_spec hn2 e
    refine ⟨l, fun j => ?_⟩
    rcases h j with ⟨h1, h2⟩ | ⟨k, p, ds, ds0, h1, h2, h3⟩
    · exact .inl ⟨h1, by simpa using h2⟩
    · exact .inr ⟨k + 1, p, ds, ds0, by simpa using h1, by simpa using h2, h3⟩
  | some i :: is, d :: os, env, env2, hn, e => by
    obtain ⟨hn1, hn2⟩ := nodup_some hn
    simp only [giveBack] at e
    split at e
    case h_2 => cases e
    rename_i p ds1 hi
    obtain ⟨l, h⟩ := giveBack_spec hn2 e
    have hlt : i < env.length := by
      rcases Nat.lt_or_ge i env.length with q | q
      · exact q
      · rw [List.getElem?_eq_none q] at hi; cases hi
    refine ⟨by rw [l, List.length_set], fun j => ?_⟩
    by_cases hj : j = i
    · subst hj
      rcases h j with ⟨h1, h2⟩ | ⟨k, p', ds, ds0, h1, _⟩
      · rw [List.getElem?_set_self hlt] at h1
        exact .inr ⟨0, p, d, ds1, rfl, rfl, h1, hi⟩
      · exact absurd (List.mem_of_getElem? h1) hn1
    · rcases h j with ⟨h1, h2⟩ | ⟨k, p', ds, ds0, h1, h2, h3, h4⟩
      · rw [List.getElem?_set_ne (Ne.symm hj)] at h1
        refine .inl ⟨h1, fun hm => ?_⟩
        rcases List.mem_cons.mp hm with z | z
        · cases z; exact hj rfl
        · exact h2 z
      · rw [List.getElem?_set_ne (Ne.symm hj)] at h4
        exact .inr ⟨k + 1, p', ds, ds0, by simpa using h1, by simpa using h2, h3, h4⟩
  | [], _ :: _, _, _, _, e => by simp [giveBack] at e
  | none :: _, [], _, _, _, e => by simp [giveBack] at e
  | some _ :: _, [], _, _, _, e => by simp [giveBack] at e
/-- behind a call -/
theorem SR.called (S : SR K F M env σ H) {is : List (Option Nat)} {L : List Addr} {os : List (List D)} {v : V} {r : RV} (hn : nodup is = true) (sl : SlL F M env σ H is L) (P : Post K M H L os M' H' v r) (g : giveBack env is os = some env') :
    SR K F M' env' σ H' ∧ RR K F M' env' σ H' v r := by
  obtain ⟨l, gb⟩ := giveBack_spec hn g
  have inM : ∀ a, a ∈ L → M a ∧ (F.O a ∨ F.H0 a = none) := fun a ha => by
    rcases sl.mem ha with ⟨j, hj, ⟨p, ds, e⟩, q⟩ | ⟨m, n, _⟩
    · have := S.own_m ⟨j, p, ds, e, q⟩
      exact ⟨this.1, this.2.1⟩
    · exact ⟨m, .inr n⟩
  have kp : ∀ b o, H b = some o → ¬ M b → H' b = some o := fun b o h q => P.keep b o h fun w => q (inM b w).1
  have own' : ∀ (j : Nat) (p : Bool) (ds : List D), env'[j]? = some (some (SV.own p ds)) → ∃ ds0, env[j]? = some (some (SV.own p ds0)) := fun j p ds e => by
    rcases gb j with ⟨h1, _⟩ | ⟨k, p', ds', ds0, _, _, h3, h4⟩
    · exact ⟨ds, by rw [← h1]; exact e⟩
    · rw [h3] at e
      cases e
      exact ⟨ds0, h4⟩
  have S' : SR K F M' env' σ H' := {
    keep := fun b o h q => P.keep b o (S.keep b o h q) fun w => by
      rcases (inM b w).2 with z | z
      · exact q z
      · rw [h] at z; cases z
    alive := fun b h => S.alive b (P.alive b h)
    m0 := fun b h => P.mono b (S.m0 b h)
    grow := fun b h => (P.grow b h).elim (S.grow b) fun z => .inr (S.alive b z)
    mok := P.mok
    sh := fun i d e => by
      rcases gb i with ⟨h1, _⟩ | ⟨k, p', ds', ds0, _, _, h3, _⟩
      · rw [h1] at e
        obtain ⟨v, e2, r⟩ := S.sh i d e
        exact ⟨v, e2, r.keep kp S.mok P.grow⟩
      · rw [h3] at e; cases e
    ow := fun i p ds e => by
      rcases gb i with ⟨h1, h2⟩ | ⟨k, p', ds', ds0, h1, h2, h3, h4⟩
      · rw [h1] at e
        obtain ⟨b, ys, e2, m2, o, n2, h2', r2, l2⟩ := S.ow i p ds e
        refine ⟨b, ys, e2, P.mono b m2, o, n2, P.keep b _ h2' fun w => ?_, r2.keep kp S.mok P.grow, l2⟩
        rcases sl.mem w with ⟨j, hj, ⟨q, es, e3⟩, e4⟩ | ⟨_, _, no, _⟩
        · have := S.inj i j p q ds es b e e3 e2 e4
          subst this
          exact h2 hj
        · exact no ⟨i, p, ds, e, e2⟩
      · rw [h3] at e
        cases e
        obtain ⟨a, ha, _, e4⟩ := sl.get h1
        obtain ⟨m, ⟨xs, hx, rx⟩, lx⟩ := P.outs.get ha h2
        obtain ⟨b, ys, e2, m2, o, n2, _⟩ := S.ow i p ds0 h4
        rw [e4] at e2
        cases e2
        exact ⟨a, xs, e4, m, o, n2, hx, rx, lx⟩
    inj := fun i j p q ds es a e1 e2 => by
      obtain ⟨d1, h1⟩ := own' i p ds e1
      obtain ⟨d2, h2⟩ := own' j q es e2
      exact S.inj i j p q d1 d2 a h1 h2
    par := fun ia hia => by
      obtain ⟨⟨ds, e1⟩, e2⟩ := S.par ia hia
      refine ⟨?_, e2⟩
      rcases gb ia.1 with ⟨h1, _⟩ | ⟨k, p', ds', ds0, _, _, h3, h4⟩
      · exact ⟨ds, by rw [h1]; exact e1⟩
      · rw [e1] at h4
        cases h4
        exact ⟨ds', h3⟩
    len := l.trans S.len }
  refine ⟨S', ?_⟩
  have res := P.res
  cases r with
  | sh d => exact res
  | own ds =>
    obtain ⟨a, rfl, m, n, x, lx⟩ := res
    refine ⟨a, rfl, m, S.alive a n, x, lx, fun w => ?_⟩
    obtain ⟨i, p, es, e1, e2⟩ := w
    obtain ⟨d1, h1⟩ := own' i p es e1
    obtain ⟨_, _, ys, z⟩ := S.own_m ⟨i, p, d1, h1, e2⟩
    rw [n] at z; cases z
/-- the arguments as they came -/
def AV1 (K : PySem.W.Frag) (F : Fr) (M : Addr → Prop) (env : En) (σ : St) (H : Hp) (v : V) : AP → Prop
  | .sh d => Rep K M H v d
  | .mv i => σ[i]? = some (some v)
  | .tm ds => ∃ a, v = .ref a ∧ Fl1 K F M env σ H a ds
def APL (K : PySem.W.Frag) (F : Fr) (M : Addr → Prop) (env : En) (σ : St) (H : Hp) : List V → List AP → Prop
  | [], [] => True
  | v :: vs, o :: os => AV1 K F M env σ H v o ∧ APL K F M env σ H vs os
  | _, _ => False
theorem AV1.next {v : V} {o : AP} (S : SR K F M env σ H) (T : SR K (snap F M env σ H) M' env' σ H') (h : AV1 K F M env σ H v o) : AV1 K F M' env' σ H' v o := by
  cases o with
  | sh d => exact S.rep T h
  | mv i => exact h
  | tm ds =>
    obtain ⟨a, e, h⟩ := h
    exact ⟨a, e, h.next S T⟩
theorem APL.trans (S : SR K F M env σ H) : ∀ {vs : List V} {os : List AP}, APL K (snap F M env σ H) M' env' σ H' vs os → APL K F M' env' σ H' vs os
  | [], [], _ => trivial
  | v :: vs, .sh d :: os, h => ⟨h.1, APL.trans S h.2⟩
  | v :: vs, .mv i :: os, h => ⟨h.1, APL.trans S h.2⟩
  | v :: vs, .tm ds :: os, h => by
    obtain ⟨⟨a, e, h1⟩, h2⟩ := h
    exact ⟨⟨a, e, h1.m, S.alive a h1.n, h1.at_, h1.l, h1.no⟩, APL.trans S h2⟩
  | [], _ :: _, h => h.elim
  | _ :: _, [], h => h.elim
theorem args_ok (S : SR K F M env σ H) : ∀ {vs : List V} {aps : List AP} {avs : List AV}, APL K F M env σ H vs aps → nodup (AP.mvs aps) = true → resolve env aps = some avs →
    ∃ L : List Addr, L.Nodup ∧ Args K M H vs avs L ∧ SlL F M env σ H (AP.mvs aps) L
  | [], [], avs, _, _, e => by
    simp only [resolve] at e
    cases e
    exact ⟨[], .nil, trivial, trivial⟩
  | v :: vs, .sh d :: aps, avs, h, hn, e => by
    simp only [resolve] at e
    split at e
    case h_2 => cases e
    rename_i l hl
    cases e
    obtain ⟨L, h1, h2, h3⟩ := args_ok S h.2 hn hl
    exact ⟨L, h1, ⟨h.1, h2⟩, h3⟩
  | v :: vs, .mv i :: aps, avs, h, hn, e => by
    simp only [resolve] at e
    split at e
    case h_2 => cases e
    rename_i p ds l hi hl
    cases e
    obtain ⟨hn1, hn2⟩ := nodup_some hn
    obtain ⟨L, h1, h2, h3⟩ := args_ok S h.2 hn2 hl
    obtain ⟨a, xs, e2, m, o, n, hx, rx, lx⟩ := S.ow i p ds hi
    have hv : σ[i]? = some (some v) := h.1
    rw [hv] at e2
    cases e2
    refine ⟨a :: L, List.nodup_cons.mpr ⟨fun ha => ?_, h1⟩, ⟨⟨rfl, m, ⟨xs, hx, rx⟩, lx⟩, h2⟩, ⟨⟨p, ds, hi⟩, hv⟩, h3⟩
    rcases h3.mem ha with ⟨j, hj, ⟨q, es, e3⟩, e4⟩ | ⟨_, _, no, _⟩
    · have := S.inj i j p q ds es a hi e3 hv e4
      subst this
      exact hn1 hj
    · exact no ⟨i, p, ds, hi, hv⟩
  | v :: vs, .tm ds :: aps, avs, h, hn, e => by
    simp only [resolve] at e
    split at e
    case h_2 => cases e
    rename_i l hl
    cases e
    obtain ⟨hn1, hn2⟩ := nodup_none hn
    obtain ⟨L, h1, h2, h3⟩ := args_ok S h.2 hn2 hl
    obtain ⟨⟨a, rfl, fl⟩, _⟩ := h
    obtain ⟨xs, hx, rx⟩ := fl.at_
    refine ⟨a :: L, List.nodup_cons.mpr ⟨fun ha => ?_, h1⟩, ⟨⟨rfl, fl.m, ⟨xs, hx, rx⟩, fl.l⟩, h2⟩, ⟨fl.m, fl.n, fl.no, xs, hx⟩, h3⟩
    have key : ∀ {is : List (Option Nat)} {L : List Addr}, none ∉ is → SlL F M env σ H is L → a ∉ L := by
      intro is
      induction is with
      | nil =>
        intro L _ h
        cases L with
        | nil => simp
        | cons _ _ => exact h.elim
      | cons o is ih =>
        intro L hno h
        cases L with
        | nil => cases o <;> exact h.elim
        | cons b L =>
          cases o with
          | none => exact absurd List.mem_cons_self hno
          | some i =>
            intro hm
            rcases List.mem_cons.mp hm with rfl | hm
            · obtain ⟨⟨p, es, e1⟩, e2⟩ := h.1
              exact fl.no ⟨i, p, es, e1, e2⟩
            · exact ih (fun z => hno (List.mem_cons_of_mem _ z)) h.2 hm
    exact key hn1 h3 ha
  | [], _ :: _, _, h, _, _ => h.elim
  | _ :: _, [], _, h, _, _ => h.elim
/-- a slot's own list is written -/
theorem SR.setOwn (S : SR K F M env σ H) {i : Nat} {p : Bool} {ds ds' : List D} {a : Addr} {xs' : List V} (e : env[i]? = some (some (SV.own p ds))) (ea : σ[i]? = some (some (V.ref a))) (r : RepL K M H xs' ds') (l : ds'.length ≤ big) :
    SR K F M (env.set i (some (.own p ds'))) σ (upd H a (.lst xs')) ∧ (∀ {v : V} {d : D}, Rep K M H v d → Rep K M (upd H a (.lst xs')) v d) := by
  obtain ⟨b, xs, e2, m, o, n, h1, _, _⟩ := S.ow i p ds e
  rw [ea] at e2
  cases e2
  have hlt : i < env.length := by
    rcases Nat.lt_or_ge i env.length with q | q
    · exact q
    · rw [List.getElem?_eq_none q] at e; cases e
  have kp : ∀ b u, H b = some u → ¬ M b → upd H a (.lst xs') b = some u := fun b u h q => by
    rw [upd_ne (fun z => q (by rw [z]; exact m))]; exact h
  have gr : ∀ b, M b → M b ∨ H b = none := fun b q => .inl q
  have get : ∀ j : Nat, (j = i ∧ (env.set i (some (.own p ds')))[j]? = some (some (SV.own p ds'))) ∨ (j ≠ i ∧ (env.set i (some (.own p ds')))[j]? = env[j]?) := fun j => by
    by_cases hj : j = i
    · subst hj
      exact .inl ⟨rfl, List.getElem?_set_self hlt⟩
    · exact .inr ⟨hj, List.getElem?_set_ne (Ne.symm hj)⟩
  refine ⟨{
    keep := fun b u h q => by
      rw [upd_ne (fun z => by
        subst z
        rcases o with o | o
        · exact q o
        · rw [h] at o; cases o)]
      exact S.keep b u h q
    alive := fun b h => by
      by_cases hb : b = a
      · rw [hb, upd_same] at h; cases h
      · rw [upd_ne hb] at h; exact S.alive b h
    m0 := S.m0
    grow := S.grow
    mok := fun b h => by
      by_cases hb : b = a
      · exact ⟨.lst xs', by rw [hb, upd_same], trivial⟩
      · obtain ⟨ys, z, y⟩ := S.mok b h
        exact ⟨ys, by rw [upd_ne hb]; exact z, y⟩
    sh := fun j d q => by
      rcases get j with ⟨rfl, z⟩ | ⟨hj, z⟩
      · rw [z] at q; cases q
      · rw [z] at q
        obtain ⟨v, e2, r⟩ := S.sh j d q
        exact ⟨v, e2, r.keep kp S.mok gr⟩
    ow := fun j q es w => by
      rcases get j with ⟨rfl, z⟩ | ⟨hj, z⟩
      · rw [z] at w
        cases w
        exact ⟨a, xs', ea, m, o, n, upd_same, r.keep kp S.mok gr, l⟩
      · rw [z] at w
        obtain ⟨b, ys, e2, m2, o2, n2, h2, r2, l2⟩ := S.ow j q es w
        exact ⟨b, ys, e2, m2, o2, n2, by rw [upd_ne (fun y => hj (S.inj j i q p es ds a w e (by rw [← y]; exact e2) ea))]; exact h2, r2.keep kp S.mok gr, l2⟩
    inj := fun j k q q' es es' b w1 w2 => by
      have own1 : ∀ {j : Nat} {q : Bool} {es : List D}, (env.set i (some (.own p ds')))[j]? = some (some (SV.own q es)) → ∃ q0 es0, env[j]? = some (some (SV.own q0 es0)) := fun {j q es} w => by
        rcases get j with ⟨rfl, z⟩ | ⟨hj, z⟩
        · exact ⟨p, ds, e⟩
        · exact ⟨q, es, by rw [← z]; exact w⟩
      obtain ⟨q1, s1, u1⟩ := own1 w1
      obtain ⟨q2, s2, u2⟩ := own1 w2
      exact S.inj j k q1 q2 s1 s2 b u1 u2
    par := fun ia hia => by
      obtain ⟨⟨es, e1⟩, e2⟩ := S.par ia hia
      refine ⟨?_, e2⟩
      rcases get ia.1 with ⟨hj, z⟩ | ⟨hj, z⟩
      · rw [hj, e] at e1
        cases e1
        exact ⟨ds', z⟩
      · exact ⟨es, by rw [z]; exact e1⟩
    len := by rw [List.length_set]; exact S.len }, fun {v d} r => r.keep kp S.mok gr⟩
end
end MP

set_option Elab.async false
set_option linter.all false
set_option maxRecDepth 100000
namespace MP
open PySem PySem.Spec PyProof.Rows L2
section
variable {X : Cx} {mo : Nat → List Bool} {cf : CF}
/-! ### calls -/
def tA (K : PySem.W.Frag) (mo : Nat → List Bool) (cf : CF) (ms : List Bool) (m : ME) : TA := fun σ H Q => ∃ F M env env' aps, Fr.Ok F ∧ SR K F M env σ H ∧ evA mo cf ms m env = some (env', aps) ∧ ∀ M' H' vs, SR K F M' env' σ H' → APL K F M' env' σ H' vs aps → vs.length = ms.length → Q vs H'
theorem snd_anil : PA X [] (tA X.K mo cf [] .nil) := PA.imp pa_nil fun σ H Q q => by
  obtain ⟨F, M, env, env', aps, ok, S, e, q⟩ := q
  simp only [evA] at e
  cases e
  exact q M H [] S trivial rfl
theorem snd_acons {b : Bool} {ms : List Bool} {a r : ME} {x : Expr} {xs : List Expr} (ha : PE X x (tE X.K mo cf a)) (hv : ∀ i, a = .var i → PE X x (tVar i)) (hr : PA X xs (tA X.K mo cf ms r)) (hs : starEach (x :: xs) X.env = (false, eval x X.env) :: starEach xs X.env) :
    PA X (x :: xs) (tA X.K mo cf (b :: ms) (.cons a r)) := by
  have plain : PA X (x :: xs) (tCons (tE X.K mo cf a) (tA X.K mo cf ms r)) := pa_cons ha hr hs
  cases b with
  | false =>
    refine PA.imp plain fun σ H Q q => ?_
    obtain ⟨F, M, env, env', aps, ok, S, e, q⟩ := q
    simp only [evA] at e
    split at e
    case h_2 => cases e
    rename_i e1 ra h1
    split at e
    case h_2 => cases e
    rename_i e2 os h2
    cases e
    refine tV_go ok S h1 fun M1 H1 v T1 S1 R1 => ?_
    exact ⟨_, M1, e1, env', os, S1.snapOk, S1.snap, h2, fun M2 H2 vs T2 R2 l => q M2 H2 (v :: vs) (S1.trans T2) ⟨S1.rep T2 R1, R2.trans S1⟩ (by rw [List.length_cons, List.length_cons, l])⟩
  | true =>
    have tmp : (∀ i, a ≠ .var i) → PA X (x :: xs) (tA X.K mo cf (true :: ms) (.cons a r)) := fun hne => by
      refine PA.imp plain fun σ H Q q => ?_
      obtain ⟨F, M, env, env', aps, ok, S, e, q⟩ := q
      have e' : ∃ e1 ds os, evR mo cf a env = some (e1, .own ds) ∧ evA mo cf ms r e1 = some (env', os) ∧ aps = .tm ds :: os := by
        cases a with
        | var i => exact absurd rfl (hne i)
        | _ =>
          simp only [evA] at e
          split at e
          case h_2 => cases e
          rename_i e1 ds h1
          split at e
          case h_2 => cases e
          rename_i e2 os h2
          cases e
          exact ⟨_, ds, os, h1, h2, rfl⟩
      obtain ⟨e1, ds, os, h1, h2, rfl⟩ := e'
      refine tE_go ok S h1 fun M1 H1 v T1 S1 R1 => ?_
      exact ⟨_, M1, e1, env', os, S1.snapOk, S1.snap, h2, fun M2 H2 vs T2 R2 l => q M2 H2 (v :: vs) (S1.trans T2) ⟨AV1.next (o := .tm ds) S1 T2 R1, R2.trans S1⟩ (by rw [List.length_cons, List.length_cons, l])⟩
    cases a with
    | var i =>
      refine PA.imp (pa_cons (hv i rfl) hr hs) fun σ H Q q => ?_
      obtain ⟨F, M, env, env', aps, ok, S, e, q⟩ := q
      simp only [evA] at e
      split at e
      case h_2 => cases e
      rename_i p ds hown
      split at e
      case h_2 => cases e
      rename_i e2 os h2
      cases e
      obtain ⟨a, ys, e3, _⟩ := S.ow i p ds hown
      exact ⟨_, e3, _, M, env, env', os, S.snapOk, S.snap, h2, fun M2 H2 vs T2 R2 l => q M2 H2 (_ :: vs) (S.trans T2) ⟨e3, R2.trans S⟩ (by rw [List.length_cons, List.length_cons, l])⟩
    | _ => exact tmp fun i z => by cases z
theorem snd_call {f np : Nat} {es : ME} {e : Expr} (hl : (mo f).length = np) (h : PE X e (tCall (spC X.K cf f np) [] E0 (tA X.K mo cf (mo f) es))) : PE X e (tE X.K mo cf (.call f es)) :=
  PE.imp h fun σ H Q q => by
    obtain ⟨F, M, env, env', r, ok, S, e, q⟩ := q
    simp only [evR] at e
    split at e
    case h_2 => cases e
    rename_i e1 aps h1
    split at e
    case isFalse => cases e
    rename_i hn
    split at e
    case h_2 => cases e
    rename_i avs h2
    split at e
    case h_2 => cases e
    rename_i r2 os h3
    split at e
    case h_2 => cases e
    rename_i e2 h4
    cases e
    refine ⟨F, M, env, e1, aps, ok, S, h1, fun M1 H1 vs S1 R1 l => ?_⟩
    show spC X.K cf f np (vs ++ []) H1 Q E0
    rw [List.append_nil]
    obtain ⟨L, a1, a2, a3⟩ := args_ok S1 R1 hn h2
    refine ⟨l.trans hl, M1, avs, L, r, os, S1.mok, a1, a2, h3, fun M2 H2 v P => ?_⟩
    obtain ⟨S2, R2⟩ := S1.called hn a3 P h4
    exact q M2 H2 v S2 R2
theorem args_sh {K : PySem.W.Frag} {M : Addr → Prop} {H : Hp} : ∀ {vs : List V} {ds : List D}, RepL K M H vs ds → Args K M H vs (ds.map AV.sh) []
  | _, _, .nil => trivial
  | _, _, .cons r t => ⟨r, args_sh t⟩
theorem pick_rep {K : PySem.W.Frag} {M : Addr → Prop} {H : Hp} {vs : List V} {ds : List D} (r : RepL K M H vs ds) : ∀ {pj : List Nat} {xs : List D}, pick ds pj = some xs → RepL K M H (pj.map fun j => vs.getD j .non) xs
  | [], xs, e => by
    simp only [pick] at e
    cases e
    exact .nil
  | j :: js, xs, e => by
    simp only [pick] at e
    split at e
    case h_2 => cases e
    rename_i d l h1 h2
    cases e
    obtain ⟨v, hv, rv⟩ := r.get h1
    rw [List.map_cons, List.getD_eq_getElem?_getD, hv]
    exact .cons rv (pick_rep r h2)
/-- by keywords: the values in the written order, then put in the parameters' order -/
def gVk (np nk : Nat) (pj : List Nat) (vs zs : List V) : List V := if vs.length = np ∧ zs.length = nk then pj.map fun j => (vs ++ zs).getD j .non else []
theorem snd_callk {f np nk n : Nat} {es ks : ME} {pj : List Nat} {e : Expr} (hl : pj.length = n) (h : PE X e (tCallK (spC X.K cf f n) (gVk np nk pj) E0 (tL X.K mo cf es) (tL X.K mo cf ks))) : PE X e (tE X.K mo cf (.callk f np nk es ks pj)) :=
  PE.imp h fun σ H Q q => by
    obtain ⟨F, M, env, env', r, ok, S, e, q⟩ := q
    simp only [evR] at e
    split at e
    case h_2 => cases e
    rename_i e1 ds h1
    split at e
    case h_2 => cases e
    rename_i e2 zs h2
    split at e
    case isFalse => cases e
    rename_i hc
    split at e
    case h_2 => cases e
    rename_i xs h3
    split at e
    case h_2 => cases e
    rename_i r2 h4
    cases e
    simp only [Bool.and_eq_true, beq_iff_eq] at hc
    refine ⟨F, M, env, e1, ds, ok, S, h1, fun M1 H1 vs S1 R1 => ⟨_, M1, e1, env', zs, S1.snapOk, S1.snap, h2, fun M2 H2 us T2 R2 => ?_⟩⟩
    have R := (S1.repL T2 R1).append R2
    have S2 := S1.trans T2
    have e1 : gVk np nk pj vs us = pj.map fun j => (vs ++ us).getD j .non := if_pos ⟨by rw [R1.length]; exact hc.1.1, by rw [R2.length]; exact hc.1.2⟩
    show spC X.K cf f n (gVk np nk pj vs us) H2 Q E0
    rw [e1]
    refine ⟨by rw [List.length_map]; exact hl, M2, _, [], r, [], S2.mok, .nil, args_sh (pick_rep R h3), h4, fun M3 H3 v P => ?_⟩
    obtain ⟨S3, R3⟩ := S2.called (is := []) (L := []) (env' := env') rfl trivial P rfl
    exact q M3 H3 v S3 R3
/-! ### x.pop(..) -/
theorem popD_nop {x : D} {ds ds' : List D} {d : D} (h : popD .nop x ds = some (d, ds')) : ds[ds.length - 1]? = some d ∧ ds' = ds.dropLast := by
  simp only [popD] at h
  split at h
  case h_2 => cases h
  rename_i d' h1
  cases h
  exact ⟨h1, rfl⟩
theorem popD_at {m : ME} {x : D} {ds ds' : List D} {d : D} (hm : m ≠ .nop) (h : popD m x ds = some (d, ds')) : ∃ j n, x = .int j ∧ place ds.length j = some n ∧ ds[n]? = some d ∧ ds' = ds.eraseIdx n := by
  have h' : popI x ds = some (d, ds') := by
    cases m <;> first | exact absurd rfl hm | exact h
  unfold popI at h'
  split at h'
  case h_2 => cases h'
  rename_i j
  split at h'
  case h_2 => cases h'
  rename_i n hn
  split at h'
  case h_2 => cases h'
  rename_i d' hd
  cases h'
  exact ⟨j, n, rfl, hn, hd, rfl⟩
theorem snd_pop0 {i : Nat} {x : Expr} (h : PE X x (tBM0 X.K "list" rPop (tVar i))) : PE X x (tE X.K mo cf (.pop i .nop)) :=
  PE.imp h fun σ H Q q => by
    obtain ⟨F, M, env, env', r, ok, S, e, q⟩ := q
    simp only [evR] at e
    split at e
    case h_2 => cases e
    rename_i p ds hi
    dsimp only at e
    split at e
    case h_2 => cases e
    rename_i d ds' hd
    cases e
    obtain ⟨a, xs, e2, m, o, n, hx, rx, lx⟩ := S.ow i _ _ hi
    obtain ⟨h1, rfl⟩ := popD_nop hd
    refine ⟨_, e2, .inl ⟨rfl, xs, SqL.of hx⟩, ?_⟩
    have hl := rx.length
    rw [← hl] at h1
    obtain ⟨v, hv, rv⟩ := rx.get h1
    obtain ⟨S2, kp⟩ := S.setOwn hi e2 rx.dropLast (by rw [List.length_dropLast]; omega)
    exact ⟨a, xs, v, rfl, rfl, hx, hv, q M _ v S2 (kp rv)⟩
theorem snd_pop1 {i : Nat} {m : ME} {x : Expr} (hm : m ≠ .nop) (h : PE X x (tBM X.K "list" rPopAt (tVar i) (tCons (tE X.K mo cf m) tNil))) : PE X x (tE X.K mo cf (.pop i m)) :=
  PE.imp h fun σ H Q q => by
    obtain ⟨F, M, env, env', r, ok, S, e, q⟩ := q
    simp only [evR] at e
    split at e
    case h_2 => cases e
    rename_i p ds hi
    split at e
    case h_2 => cases e
    rename_i e1 re h1
    split at e
    case h_2 => cases e
    rename_i p1 ds1 hi1
    split at e
    case h_2 => cases e
    rename_i d ds' hd
    cases e
    obtain ⟨a, xs, e2, mm, o, n, hx, rx, lx⟩ := S.ow i _ _ hi
    refine ⟨_, e2, .inl ⟨rfl, xs, SqL.of hx⟩, ?_⟩
    refine tV_go ok S h1 fun M1 H1 v T1 S1 R1 => ?_
    obtain ⟨j, k, hj, hk, hd2, rfl⟩ := popD_at hm hd
    rw [hj] at R1
    cases R1
    obtain ⟨a', xs1, e3, mm1, o1, n1, hx1, rx1, lx1⟩ := S1.ow i _ _ hi1
    rw [e2] at e3
    cases e3
    obtain ⟨y, hy, ry⟩ := rx1.get hd2
    have hl := rx1.length
    obtain ⟨b1, b2, b3, b4⟩ := ixN_seq (show L2.ixN ds1.length j = some k from hk)
    obtain ⟨S2, kp⟩ := S1.setOwn hi1 e2 (rx1.eraseIdx k) (Nat.le_trans (len_erase _ _) lx1)
    have hb : (big : Nat) < 2 ^ 62 := by decide
    refine ⟨a, xs1, j, k, y, rfl, rfl, hx1, by omega, by omega, by rw [hl]; exact b1, hy, q M1 _ y S2 (kp ry)⟩
end
end MP

set_option Elab.async false
set_option linter.all false
set_option maxRecDepth 100000
namespace MP
open PySem PySem.Spec PyProof.Rows L2 RZ
/-! ### targets -/
def tgs : Tg → List Nat
  | .nm i => [i]
  | .tp r => tgs r
  | .nil => []
  | .cons a r => tgs a ++ tgs r
theorem put_iff {env env' : En} {i : Nat} {v : SV} (h : put env i v = some env') : isPar env i = false ∧ i < env.length ∧ env' = env.set i (some v) := by
  unfold put at h
  split at h
  · cases h
  · rename_i h1
    split at h
    · rename_i h2
      cases h
      exact ⟨by simpa using h1, h2, rfl⟩
    · cases h
theorem not_par {env : En} {i : Nat} {ds : List D} (h : isPar env i = false) (e : env[i]? = some (some (SV.own true ds))) : False := by
  unfold isPar at h
  rw [e] at h
  cases h
section
variable {K : PySem.W.Frag} {F : Fr} {M M' : Addr → Prop} {env env' : En} {σ : St} {H H' : Hp}
theorem get_set {α : Type} {l : List α} {i : Nat} {x : α} (h : i < l.length) (j : Nat) : (j = i ∧ (l.set i x)[j]? = some x) ∨ (j ≠ i ∧ (l.set i x)[j]? = l[j]?) := by
  by_cases hj : j = i
  · subst hj
    exact .inl ⟨rfl, List.getElem?_set_self h⟩
  · exact .inr ⟨hj, List.getElem?_set_ne (Ne.symm hj)⟩
theorem SR.putSh (S : SR K F M env σ H) {i : Nat} {v : V} {d : D} (r : Rep K M H v d) (h : put env i (.sh d) = some env') : SR K F M env' (σ.set i (some v)) H := by
  obtain ⟨np, hlt, rfl⟩ := put_iff h
  have hl2 : i < σ.length := by rw [← S.len]; exact hlt
  exact {
    keep := S.keep
    alive := S.alive
    m0 := S.m0
    grow := S.grow
    mok := S.mok
    sh := fun j d' e => by
      rcases get_set (x := some (SV.sh d)) hlt j with ⟨rfl, z⟩ | ⟨hj, z⟩
      · rw [z] at e
        cases e
        exact ⟨v, List.getElem?_set_self hl2, r⟩
      · rw [z] at e
        rw [List.getElem?_set_ne (Ne.symm hj)]
        exact S.sh j d' e
    ow := fun j p ds e => by
      rcases get_set (x := some (SV.sh d)) hlt j with ⟨rfl, z⟩ | ⟨hj, z⟩
      · rw [z] at e; cases e
      · rw [z] at e
        rw [List.getElem?_set_ne (Ne.symm hj)]
        exact S.ow j p ds e
    inj := fun j k p q ds es a e1 e2 => by
      rcases get_set (x := some (SV.sh d)) hlt j with ⟨rfl, z⟩ | ⟨hj, z⟩
      · rw [z] at e1; cases e1
      · rcases get_set (x := some (SV.sh d)) hlt k with ⟨rfl, z2⟩ | ⟨hk, z2⟩
        · rw [z2] at e2; cases e2
        · rw [z] at e1
          rw [z2] at e2
          rw [List.getElem?_set_ne (Ne.symm hj), List.getElem?_set_ne (Ne.symm hk)]
          exact S.inj j k p q ds es a e1 e2
    par := fun ia hia => by
      obtain ⟨⟨ds, e1⟩, e2⟩ := S.par ia hia
      have hj : ia.1 ≠ i := fun z => not_par np (by rw [← z]; exact e1)
      rw [List.getElem?_set_ne (Ne.symm hj), List.getElem?_set_ne (Ne.symm hj)]
      exact ⟨⟨ds, e1⟩, e2⟩
    len := by rw [List.length_set, List.length_set]; exact S.len }
theorem SR.putOwn (S : SR K F M env σ H) (ok : F.Ok) {i : Nat} {a : Addr} {ds : List D} (f : Fl1 K F M env σ H a ds) (h : put env i (.own false ds) = some env') : SR K F M env' (σ.set i (some (.ref a))) H := by
  obtain ⟨np, hlt, rfl⟩ := put_iff h
  have hl2 : i < σ.length := by rw [← S.len]; exact hlt
  obtain ⟨xs, hx, rx⟩ := f.at_
  have key : ∀ (j k : Nat) (p q : Bool) (es fs : List D) (b : Addr), j ≠ i → env[j]? = some (some (SV.own p es)) → σ[j]? = some (some (V.ref b)) → b ≠ a := fun j k p q es fs b hj e1 e2 z => f.no ⟨j, p, es, e1, by rw [← z]; exact e2⟩
  exact {
    keep := S.keep
    alive := S.alive
    m0 := S.m0
    grow := S.grow
    mok := S.mok
    sh := fun j d' e => by
      rcases get_set (x := some (SV.own false ds)) hlt j with ⟨rfl, z⟩ | ⟨hj, z⟩
      · rw [z] at e; cases e
      · rw [z] at e
        rw [List.getElem?_set_ne (Ne.symm hj)]
        exact S.sh j d' e
    ow := fun j p es e => by
      rcases get_set (x := some (SV.own false ds)) hlt j with ⟨rfl, z⟩ | ⟨hj, z⟩
      · rw [z] at e
        cases e
        refine ⟨a, xs, List.getElem?_set_self hl2, f.m, .inr f.n, fun _ w => ?_, hx, rx, f.l⟩
        obtain ⟨ys, q, _⟩ := ok.gh a (ok.mg a w)
        rw [f.n] at q; cases q
      · rw [z] at e
        rw [List.getElem?_set_ne (Ne.symm hj)]
        exact S.ow j p es e
    inj := fun j k p q es fs b e1 e2 => by
      rcases get_set (x := some (SV.own false ds)) hlt j with ⟨rfl, z⟩ | ⟨hj, z⟩
      · rcases get_set (x := some (SV.own false ds)) hlt k with ⟨rfl, z2⟩ | ⟨hk, z2⟩
        · intros; rfl
        · rw [z2] at e2
          rw [List.getElem?_set_self hl2, List.getElem?_set_ne (Ne.symm hk)]
          intro h1 h2
          cases h1
          exact absurd rfl (key k k q q fs fs a hk e2 h2)
      · rw [z] at e1
        rcases get_set (x := some (SV.own false ds)) hlt k with ⟨rfl, z2⟩ | ⟨hk, z2⟩
        · rw [List.getElem?_set_self hl2, List.getElem?_set_ne (Ne.symm hj)]
          intro h1 h2
          cases h2
          exact absurd rfl (key j j p p es es a hj e1 h1)
        · rw [z2] at e2
          rw [List.getElem?_set_ne (Ne.symm hj), List.getElem?_set_ne (Ne.symm hk)]
          exact S.inj j k p q es fs b e1 e2
    par := fun ia hia => by
      obtain ⟨⟨ds, e1⟩, e2⟩ := S.par ia hia
      have hj : ia.1 ≠ i := fun z => not_par np (by rw [← z]; exact e1)
      rw [List.getElem?_set_ne (Ne.symm hj), List.getElem?_set_ne (Ne.symm hj)]
      exact ⟨⟨ds, e1⟩, e2⟩
    len := by rw [List.length_set, List.length_set]; exact S.len }
theorem SR.putR (S : SR K F M env σ H) (ok : F.Ok) {i : Nat} {v : V} {r : RV} (f : RR K F M env σ H v r) (h : put env i r.sv = some env') : SR K F M env' (σ.set i (some v)) H := by
  cases r with
  | sh d => exact S.putSh f h
  | own ds =>
    obtain ⟨a, rfl, f⟩ := f
    exact S.putOwn ok f h
end
def tG (K : PySem.W.Frag) (t : Tg) : TG := fun v σ H Q => ∃ F M env env' d, Fr.Ok F ∧ SR K F M env σ H ∧ Rep K M H v d ∧ tgA t d env = some env' ∧ ∀ σ', SR K F M env' σ' H → (∀ j, j ∉ tgs t → σ'[j]? = σ[j]?) → σ'.length = σ.length → Q σ' H
def tGs (K : PySem.W.Frag) (t : Tg) : TGs := fun vs σ H Q => ∃ F M env env' ds, Fr.Ok F ∧ SR K F M env σ H ∧ RepL K M H vs ds ∧ tgL t ds env = some env' ∧ ∀ σ', SR K F M env' σ' H → (∀ j, j ∉ tgs t → σ'[j]? = σ[j]?) → σ'.length = σ.length → Q σ' H
section
variable {X : Cx} {mo : Nat → List Bool} {cf : CF}
theorem snd_gnm {i : Nat} {e : Expr} (h : PG X e (gName i)) : PG X e (tG X.K (.nm i)) := ⟨fun pins s σ H v u Q I rv q => by
  obtain ⟨F, M, env, env', d, ok, S, r, e, q⟩ := q
  simp only [tgA] at e
  exact h.run pins s σ H v u Q I rv (q _ (S.putSh r e) (fun j hj => List.getElem?_set_ne (by simp only [tgs, List.mem_singleton] at hj; omega)) List.length_set)⟩
theorem snd_gnil : PGs X [] (tGs X.K .nil) := ⟨fun pins s σ H vs us Q I rv q => by
  obtain ⟨F, M, env, env', ds, ok, S, r, e, q⟩ := q
  cases r with
  | nil =>
    simp only [tgL] at e
    cases e
    exact pgs_nil.run pins s σ H [] us Q I rv ⟨rfl, q σ S (fun _ _ => rfl) rfl⟩
  | cons _ _ => simp only [tgL] at e; cases e⟩
theorem tgA_len : ∀ {t : Tg} {d : D} {env env' : En}, tgA t d env = some env' → env'.length = env.length := by
  have key : ∀ t : Tg, (∀ d env env', tgA t d env = some env' → env'.length = env.length) ∧ ∀ ds env env', tgL t ds env = some env' → env'.length = env.length := by
    intro t
    induction t with
    | nm i =>
      refine ⟨fun d env env' h => ?_, fun ds env env' h => by simp [tgL] at h⟩
      simp only [tgA] at h
      obtain ⟨_, _, rfl⟩ := put_iff h
      exact List.length_set
    | tp r ih =>
      refine ⟨fun d env env' h => ?_, fun ds env env' h => by simp [tgL] at h⟩
      simp only [tgA] at h
      split at h
      · exact ih.2 _ _ _ h
      · cases h
    | nil =>
      refine ⟨fun d env env' h => by simp [tgA] at h, fun ds env env' h => ?_⟩
      cases ds with
      | nil => simp only [tgL] at h; cases h; rfl
      | cons _ _ => simp [tgL] at h
    | cons a r iha ihr =>
      refine ⟨fun d env env' h => by simp [tgA] at h, fun ds env env' h => ?_⟩
      cases ds with
      | nil => simp [tgL] at h
      | cons x xs =>
        simp only [tgL] at h
        split at h
        · rename_i e1 h1
          rw [ihr.2 _ _ _ h, iha.1 _ _ _ h1]
        · cases h
  exact fun {t d env env'} h => (key t).1 d env env' h
theorem snd_gcons {a r : Tg} {e : Expr} {es : List Expr} (h1 : PG X e (tG X.K a)) (h2 : PGs X es (tGs X.K r)) (hx : PGs X (e :: es) (gCons (tG X.K a) (tGs X.K r))) : PGs X (e :: es) (tGs X.K (.cons a r)) := ⟨fun pins s σ H vs us Q I rv q => by
  obtain ⟨F, M, env, env', ds, ok, S, rr, e, q⟩ := q
  cases rr with
  | nil => simp only [tgL] at e; cases e
  | @cons v vs d ds rd rt =>
    simp only [tgL] at e
    split at e
    case h_2 => cases e
    rename_i e1 h1
    refine hx.run pins s σ H (v :: vs) us Q I rv ⟨v, vs, rfl, F, M, env, e1, d, ok, S, rd, h1, fun σ1 S1 k1 l1 => ?_⟩
    refine ⟨F, M, e1, env', ds, ok, S1, rt, e, fun σ2 S2 k2 l2 => q σ2 S2 (fun j hj => ?_) (l2.trans l1)⟩
    simp only [tgs, List.mem_append, not_or] at hj
    rw [k2 j hj.2, k1 j hj.1]⟩
theorem snd_gtp {r : Tg} {e : Expr} {n : Nat} (h1 : PG X e (gTup X.K n (tGs X.K r))) (h2 : PG X e (gLst X.K n (tGs X.K r))) (hn : ∀ ds env env', tgL r ds env = some env' → ds.length = n) : PG X e (tG X.K (.tp r)) := ⟨fun pins s σ H v u Q I rv q => by
  obtain ⟨F, M, env, env', d, ok, S, rd, e, q⟩ := q
  simp only [tgA] at e
  split at e
  case h_2 => cases e
  rename_i xs hx
  have hl := hn _ _ _ e
  cases rd with
  | @lst a ys ds hy hm l rl =>
    cases hx
    exact h2.run pins s σ H _ u Q I rv ⟨a, ys, rfl, SqL.of hy, rl.length.trans hl, F, M, env, env', _, ok, S, rl, e, q⟩
  | @duo a ys ds hy l rl =>
    cases hx
    exact h1.run pins s σ H _ u Q I rv ⟨a, ys, rfl, SqT.of hy, rl.length.trans hl, F, M, env, env', _, ok, S, rl, e, q⟩
  | @tup a ys ds hy l rl =>
    cases hx
    exact h1.run pins s σ H _ u Q I rv ⟨a, ys, rfl, hy.sq, rl.length.trans hl, F, M, env, env', _, ok, S, rl, e, q⟩
  | _ => cases hx⟩

/-! ### what is walked -/
structure Later (M : Addr → Prop) (H : Hp) (M' : Addr → Prop) (H' : Hp) : Prop where
  k : ∀ b o, H b = some o → ¬ M b → H' b = some o
  g : ∀ b, M' b → M b ∨ H b = none
structure JOk (K : PySem.W.Frag) (J : It) (M : Addr → Prop) (H : Hp) (ds : List D) : Prop where
  stop : ∀ i M' H', Later M H M' H' → MOk M' H' → ds.length ≤ i → J.stop i H'
  go : ∀ i d M' H', Later M H M' H' → MOk M' H' → ds[i]? = some d → J.go i H' ∧ ∀ x H3, J.yld i H' x H3 → (H3 = H' ∨ ∃ p o, H' p = none ∧ H3 = upd H' p o) ∧ Rep K M' H3 x d
def tI (K : PySem.W.Frag) (mo : Nat → List Bool) (cf : CF) (m : ME) : TI := fun σ H R => ∃ F M env env' xs, Fr.Ok F ∧ SR K F M env σ H ∧ evI mo cf m env = some (env', xs) ∧ ∀ M' H' J, SR K F M' env' σ H' → JOk K J M' H' xs → R J H'
section
variable {K : PySem.W.Frag} {M : Addr → Prop} {H : Hp}
theorem et_later {M' : Addr → Prop} {H' : Hp} {a : Addr} {xs : List V} (mok : MOk M H) (L : Later M H M' H') (h : ET H a xs) : ET H' a xs :=
  let ⟨o, e, c⟩ := h; ⟨o, L.k _ _ e (fun q => by obtain ⟨_, z, y⟩ := mok _ q; rw [e] at z; cases z; exact y), c⟩
theorem jok_list {a : Addr} {xs : List V} {ds : List D} (mok : MOk M H) (h : H a = some (.lst xs)) (hm : ¬ M a) (r : RepL K M H xs ds) : JOk K (Itl K a) M H ds where
  stop := fun i M' H' L _ hi => ⟨xs, SqL.of (L.k _ _ h hm), by rw [r.length]; exact hi⟩
  go := fun i d M' H' L m' hi => by
    obtain ⟨v, hv, rv⟩ := r.get hi
    refine ⟨⟨xs, v, SqL.of (L.k _ _ h hm), hv⟩, fun x H3 y => ?_⟩
    obtain ⟨rfl, y⟩ := y
    have := y xs (SqL.of (L.k _ _ h hm))
    rw [hv] at this
    cases this
    exact ⟨.inl rfl, rv.keep L.k mok L.g⟩
theorem jok_tup {a : Addr} {xs : List V} {ds : List D} (mok : MOk M H) (h : ET H a xs) (r : RepL K M H xs ds) : JOk K (Itt K a) M H ds where
  stop := fun i M' H' L _ hi => ⟨xs, (et_later mok L h).sq, by rw [r.length]; exact hi⟩
  go := fun i d M' H' L m' hi => by
    have h' := et_later mok L h
    obtain ⟨v, hv, rv⟩ := r.get hi
    refine ⟨⟨xs, v, h'.sq, hv⟩, fun x H3 y => ?_⟩
    obtain ⟨rfl, y⟩ := y
    have := y xs (h'.sq)
    rw [hv] at this
    cases this
    exact ⟨.inl rfl, rv.keep L.k mok L.g⟩
theorem jok_str {s : List Nat} (o : okS s = true) : JOk K (Its (str0 s)) M H (chars s) where
  stop := fun i M' H' L _ hi => by
    rw [chars_len] at hi
    show (str0 s).cps.size ≤ i
    simpa [str0] using hi
  go := fun i d M' H' L m' hi => by
    obtain ⟨c, hc, rfl⟩ := chars_get hi
    have hlt : i < s.length := by
      rcases Nat.lt_or_ge i s.length with q | q
      · exact q
      · rw [List.getElem?_eq_none q] at hc; cases hc
    refine ⟨by show i < (str0 s).cps.size; simpa [str0] using hlt, fun x H3 y => ?_⟩
    obtain ⟨rfl, c', h1, rfl⟩ := y
    have e : c' = c := by
      have : s[i]? = some c' := by simpa [str0] using h1
      rw [hc] at this
      exact (Option.some.inj this).symm
    subst e
    exact ⟨.inl rfl, .str [c'] (ok_one o hc) (by show 1 ≤ 1000000; decide)⟩
theorem rangeL_get : ∀ {lo : Int} {n i : Nat} {d : D}, (rangeL lo n)[i]? = some d → i < n ∧ d = .int (lo + i)
  | lo, 0, i, d, h => by simp [rangeL] at h
  | lo, n + 1, 0, d, h => by simp [rangeL] at h; exact ⟨Nat.succ_pos _, by rw [← h]; simp⟩
  | lo, n + 1, i + 1, d, h => by
    simp only [rangeL, List.getElem?_cons_succ] at h
    obtain ⟨h1, h2⟩ := rangeL_get h
    refine ⟨by omega, ?_⟩
    rw [h2]
    congr 1
    omega
theorem rangeL_len : ∀ (lo : Int) (n : Nat), (rangeL lo n).length = n
  | _, 0 => rfl
  | lo, n + 1 => by simp [rangeL, rangeL_len]
theorem jok_rng {lo : Int} {n : Nat} : JOk K (Itr lo n) M H (rangeL lo n) where
  stop := fun i M' H' L _ hi => by
    rw [rangeL_len] at hi
    exact hi
  go := fun i d M' H' L m' hi => by
    obtain ⟨h1, rfl⟩ := rangeL_get hi
    refine ⟨h1, fun x H3 y => ?_⟩
    obtain ⟨rfl, rfl⟩ := y
    exact ⟨.inl rfl, .int _⟩
theorem zipL_get : ∀ {xs ys : List D} {i : Nat} {d : D}, (zipL xs ys)[i]? = some d → ∃ x y, xs[i]? = some x ∧ ys[i]? = some y ∧ d = .duo [x, y]
  | [], ys, i, d, h => by simp [zipL] at h
  | _ :: _, [], i, d, h => by simp [zipL] at h
  | x :: xs, y :: ys, 0, d, h => by simp [zipL] at h; exact ⟨x, y, rfl, rfl, h.symm⟩
  | x :: xs, y :: ys, i + 1, d, h => by
    simp only [zipL, List.getElem?_cons_succ] at h
    obtain ⟨a, b, h1, h2, h3⟩ := zipL_get h
    exact ⟨a, b, by simpa using h1, by simpa using h2, h3⟩
theorem zipL_len : ∀ (xs ys : List D) {i : Nat}, (zipL xs ys).length ≤ i → xs.length ≤ i ∨ ys.length ≤ i
  | [], ys, i, h => .inl (Nat.zero_le _)
  | _ :: _, [], i, h => .inr (Nat.zero_le _)
  | x :: xs, y :: ys, 0, h => by simp [zipL] at h
  | x :: xs, y :: ys, i + 1, h => by
    simp only [zipL, List.length_cons] at h ⊢
    exact (zipL_len xs ys (i := i) (by omega)).imp (by omega) (by omega)
theorem jok_zipL {a b : Addr} {xs ys : List V} {ds es : List D} (mok : MOk M H) (h1 : H a = some (.lst xs)) (m1 : ¬ M a) (r1 : RepL K M H xs ds) (h2 : H b = some (.lst ys)) (m2 : ¬ M b) (r2 : RepL K M H ys es) : JOk K (Itz K a b) M H (zipL ds es) where
  stop := fun i M' H' L _ hi => ⟨xs, ys, SqL.of (L.k _ _ h1 m1), SqL.of (L.k _ _ h2 m2), by rw [r1.length, r2.length]; exact zipL_len _ _ hi⟩
  go := fun i d M' H' L m' hi => by
    obtain ⟨x, y, g1, g2, rfl⟩ := zipL_get hi
    obtain ⟨v, hv, rv⟩ := r1.get g1
    obtain ⟨u, hu, ru⟩ := r2.get g2
    refine ⟨⟨xs, ys, v, u, SqL.of (L.k _ _ h1 m1), SqL.of (L.k _ _ h2 m2), hv, hu⟩, fun z H3 q => ?_⟩
    obtain ⟨T, x1, x2, rfl, nT, rfl, q1, q2⟩ := q
    have e1 := q1 xs (SqL.of (L.k _ _ h1 m1))
    have e2 := q2 ys (SqL.of (L.k _ _ h2 m2))
    rw [hv] at e1
    rw [hu] at e2
    cases e1
    cases e2
    exact ⟨.inr ⟨T, _, nT, rfl⟩, .duo upd_same (by show 2 ≤ 1000000; decide) (.cons (rep_new m' nT (rv.keep L.k mok L.g)) (.cons (rep_new m' nT (ru.keep L.k mok L.g)) .nil))⟩
theorem jok_zipT {a b : Addr} {xs ys : List V} {ds es : List D} (mok : MOk M H) (h1 : ET H a xs) (r1 : RepL K M H xs ds) (h2 : ET H b ys) (r2 : RepL K M H ys es) : JOk K (ItzT K a b) M H (zipL ds es) := by
  exact {
    stop := fun i M' H' L _ hi => ⟨xs, ys, (et_later mok L h1).sq, (et_later mok L h2).sq, by rw [r1.length, r2.length]; exact zipL_len _ _ hi⟩
    go := fun i d M' H' L m' hi => by
      obtain ⟨x, y, g1, g2, rfl⟩ := zipL_get hi
      obtain ⟨v, hv, rv⟩ := r1.get g1
      obtain ⟨u, hu, ru⟩ := r2.get g2
      refine ⟨⟨xs, ys, v, u, (et_later mok L h1).sq, (et_later mok L h2).sq, hv, hu⟩, fun z H3 q => ?_⟩
      obtain ⟨T, x1, x2, rfl, nT, rfl, q1, q2⟩ := q
      have e1 := q1 xs ((et_later mok L h1).sq)
      have e2 := q2 ys ((et_later mok L h2).sq)
      rw [hv] at e1
      rw [hu] at e2
      cases e1
      cases e2
      exact ⟨.inr ⟨T, _, nT, rfl⟩, .duo upd_same (by show 2 ≤ 1000000; decide) (.cons (rep_new m' nT (rv.keep L.k mok L.g)) (.cons (rep_new m' nT (ru.keep L.k mok L.g)) .nil))⟩ }
theorem enumL_get : ∀ {n : Nat} {xs : List D} {i : Nat} {d : D}, (enumL n xs)[i]? = some d → ∃ x, xs[i]? = some x ∧ d = .duo [.int ((n + i : Nat) : Int), x]
  | n, [], i, d, h => by simp [enumL] at h
  | n, x :: xs, 0, d, h => by simp [enumL] at h; exact ⟨x, rfl, h.symm⟩
  | n, x :: xs, i + 1, d, h => by
    simp only [enumL, List.getElem?_cons_succ] at h
    obtain ⟨a, h1, h3⟩ := enumL_get h
    exact ⟨a, by simpa using h1, by rw [h3, show n + 1 + i = n + (i + 1) by omega]⟩
theorem enumL_len : ∀ (n : Nat) (xs : List D), (enumL n xs).length = xs.length
  | _, [] => rfl
  | n, x :: xs => by simp [enumL, enumL_len]
theorem jok_enum {a : Addr} {xs : List V} {ds : List D} (mok : MOk M H) (h1 : H a = some (.lst xs)) (m1 : ¬ M a) (r1 : RepL K M H xs ds) : JOk K (Ite K a) M H (enumL 0 ds) where
  stop := fun i M' H' L _ hi => ⟨xs, SqL.of (L.k _ _ h1 m1), by rw [enumL_len] at hi; rw [r1.length]; exact hi⟩
  go := fun i d M' H' L m' hi => by
    obtain ⟨x, g1, rfl⟩ := enumL_get hi
    obtain ⟨v, hv, rv⟩ := r1.get g1
    refine ⟨⟨xs, v, SqL.of (L.k _ _ h1 m1), hv⟩, fun z H3 q => ?_⟩
    obtain ⟨T, x1, rfl, nT, rfl, q1⟩ := q
    have e1 := q1 xs (SqL.of (L.k _ _ h1 m1))
    rw [hv] at e1
    cases e1
    rw [Nat.zero_add]
    exact ⟨.inr ⟨T, _, nT, rfl⟩, .duo upd_same (by show 2 ≤ 1000000; decide) (.cons (.int _) (.cons (rep_new m' nT (rv.keep L.k mok L.g)) .nil))⟩
end
end
end MP

set_option Elab.async false
set_option linter.all false
set_option maxRecDepth 100000
namespace MP
open PySem PySem.Spec PyProof.Rows L2
/-! enumerate of a text -/
def Ies (x : Str) : It :=
  ⟨fun i _ => i < x.cps.size, fun i H v H' => ∃ p c, v = .ref p ∧ H p = none ∧ H' = upd H p (.tup [.int (i : Nat), .str ⟨#[c]⟩]) ∧ x.cps[i]? = some c, fun i _ => x.cps.size ≤ i⟩
theorem draws_text {P : Program} {w : World} {A : Around} (hh : A.handled = none) (it : Addr) (x : Str) (t : Tok) :
    Draws P w A it [it] x.cps.size (fun i v => ∃ c u, x.cps[i]? = some c ∧ v = .str ⟨#[c]⟩ u) (fun i h => h.IsStrIter it (strIterType x) x t i) := by
  unfold strIterType
  split
  · exact Draws.strAscii hh it x t
  · exact Draws.strWide hh it x t
theorem turn_enumS {P : Program} {w : World} {K : PySem.W.Frag} {elts : List Expr} {kk : Nat} {tpos : Pos} (x : Str) (t : Tok) (e it : Addr) :
    Turn P w K (.Tuple elts kk tpos) (Ies x) [e, it] e (fun i h => (∃ old, IsEnum h e it ((i : Nat) : Int) old) ∧ h.IsStrIter it (strIterType x) x t i ∧ e ≠ it ∧ i ≤ x.cps.size) where
  mem := List.mem_cons_self
  obj := fun i h ⟨⟨old, a1⟩, ⟨o, a2, _, a3⟩, _⟩ b hb => by
    rcases List.mem_cons.mp hb with rfl | hb
    · exact ⟨_, a1, fun v z => nomatch z⟩
    · obtain rfl := List.mem_singleton.mp hb
      exact ⟨o, a2, fun v z => by rw [a3] at z; cases z⟩
  keep := fun i h h' ⟨⟨old, a1⟩, ⟨o, a2, a3⟩, ne⟩ k => ⟨⟨old, k e List.mem_cons_self _ a1⟩, ⟨o, k it (List.mem_cons_of_mem _ List.mem_cons_self) _ a2, a3⟩, ne⟩
  item := fun X hP hw hK hc i pins s σ H E I hf ⟨⟨old, a1⟩, a2, ne, lim⟩ hg => by
    subst hP hw hK
    have le : e < s.heap.objs.size := Heap.lt_size a1
    have li : it < s.heap.objs.size := by
      obtain ⟨_, q, _⟩ := a2
      exact Heap.lt_size q
    refine wpAny_pyNext_enum_itemD (draws_text (A := X.A.in1) (I.ok.hd hc) it x t) a1 a2 hg ne (fun z => ne (List.mem_singleton.mp z)) fun v h1 tk hv out a3 tup sz k => ?_
    obtain ⟨c, u, hx, rfl⟩ := hv
    refine ⟨_, rfl, wpAny_letOwnedTupleGo_enum (s := { s with heap := h1, toks := tk + 1 }) out fun h2 a4 sb => ?_⟩
    have at2 : h2.get? s.heap.objs.size = some { cls := .type "tuple", data := .seq #[.int i tk, .str ⟨#[c]⟩ u] } := (sb.2 _ (Nat.ne_of_gt le)).trans tup
    have I1 : Inv X pins σ (upd H s.heap.objs.size (.tup [.int (i : Nat), .str ⟨#[c]⟩])) { s with heap := h2, toks := tk + 1 } :=
      I.turnedNew (ch := [e, it]) (fun b ob hb q => (sb.2 b (fun z => hb (by simp [z]))).trans (k b ob (fun z => hb (by simp [z])) (fun z => hb (by simp [z])) q)) hf (Nat.le_refl _)
        ⟨by show 2 ≤ sizeLine; decide, [.int i tk, .str ⟨#[c]⟩ u], .cons ⟨_, rfl⟩ (.cons ⟨_, rfl⟩ .nil), ⟨_, at2, rfl, _, rfl⟩⟩
    refine ⟨.ref s.heap.objs.size, _, I1, rfl, ⟨_, c, rfl, I.hok.fresh (Nat.le_refl _), rfl, hx⟩, ⟨⟨.str ⟨#[c]⟩ u, ?_⟩, ?_, ne, hg⟩, fun b hb => ?_⟩
    · have e1 : ((i + 1 : Nat) : Int) = (i : Int) + 1 := by omega
      rw [e1]
      exact a4
    · obtain ⟨o, b1, b2⟩ := a3
      exact ⟨o, (sb.2 it (Ne.symm ne)).trans b1, b2⟩
    · have lb : b < s.heap.objs.size := by
        rcases List.mem_cons.mp hb with rfl | hb
        · exact le
        · obtain rfl := List.mem_singleton.mp hb
          exact li
      rw [upd_ne (Nat.ne_of_lt lb)]
      exact (hf b hb).1
  done := fun X hP hw hK hc i pins s σ H E I hf ⟨⟨old, a1⟩, a2, ne, lim⟩ hg => by
    subst hP hw hK
    obtain ⟨f0, f1, f2, f3, f4, f5⟩ := hf it (List.mem_cons_of_mem _ List.mem_cons_self)
    obtain rfl : i = x.cps.size := Nat.le_antisymm lim hg
    exact wpAny_pyNext_enum_endD (draws_text (A := X.A.in1) (I.ok.hd hc) it x t) a1 a2 fun h' eb => ⟨rfl, I.turned (t' := s.toks) (fun b o hb q => eb b o hb q) f0 f1 f3 f4 f5⟩
  self := fun A i s Q E ⟨⟨_, a1⟩, _⟩ h => wpAny_pyIter_enum a1 h
/-- enumerate of a list or a text -/
def iEnumA (K : PySem.W.Frag) (ta : TA) : TI := fun σ H R => ta σ H fun vs H1 => (∃ a xs, vs = [.ref a] ∧ SqL K H1 a xs ∧ R (Ite K a) H1) ∨ ∃ x, vs = [.str x] ∧ R (Ies x) H1
theorem pi_enumA {X : Cx} {e : Expr} {ta : TA} {p pos tpos : Pos} {elts : List Expr} {kk : Nat} (hg : Gl X "enumerate") (hm : X.mg "enumerate" = none) (hb : bootBuiltins "enumerate" = some (.type "enumerate")) (ha : PA X [e] ta) (hs : starEach [e] X.env = [(false, eval e X.env)]) :
    PI X (.Tuple elts kk tpos) (.Call (.Name "enumerate" p) [e] [] pos) (iEnumA X.K ta) := by
  refine ⟨fun pins s σ H R I h => ?_⟩
  refine wpAny_Call_Name_kw (ld_blt I hg hm hb (callWith_type1 (thn (ha.run pos pins s σ H _ I h) fun us s1 ⟨vs, H1, I1, r1, q⟩ => ?_) hs rfl))
  have room : ∀ b, b ∈ [s1.heap.objs.size + 1, s1.heap.objs.size] → FpOk X pins H1 b := fun b hb => by
    have hle : s1.heap.objs.size ≤ b := by
      rcases List.mem_cons.mp hb with z | z
      · rw [z]; exact Nat.le_succ _
      · rw [List.mem_singleton.mp z]; exact Nat.le_refl _
    exact I1.fpOk hle (I1.hok.fresh hle)
  rcases q with ⟨a, xs, rfl, hq, q⟩ | ⟨x, rfl, q⟩
  · rw [Vals.ref1 r1]
    obtain ⟨its, rv, pl, hz⟩ := I1.list hq
    exact call_enumerate_list pl.isList fun h' he hit hsz hk => wpAny_pyIter_enum he ⟨s1.heap.objs.size + 1, [s1.heap.objs.size + 1, s1.heap.objs.size], _, _, H1, rfl, I1.kept (t' := s1.toks) hk, turn_enum a (s1.heap.objs.size + 1) s1.heap.objs.size, ⟨⟨.none, he⟩, hit, Nat.succ_ne_self _⟩, room, q⟩
  · obtain ⟨u, rfl, t, rfl⟩ := vals1 r1
    exact call_enumerate_str fun h' he hit hsz hk => wpAny_pyIter_enum he ⟨s1.heap.objs.size + 1, [s1.heap.objs.size + 1, s1.heap.objs.size], _, _, H1, rfl, I1.kept (t' := s1.toks) hk, turn_enumS x t (s1.heap.objs.size + 1) s1.heap.objs.size, ⟨⟨.none, he⟩, hit, Nat.succ_ne_self _, Nat.zero_le _⟩, room, q⟩
section
variable {K : PySem.W.Frag} {M : Addr → Prop} {H : Hp}
theorem jok_enumS {s : List Nat} (o : okS s = true) : JOk K (Ies (str0 s)) M H (enumL 0 (chars s)) where
  stop := fun i M' H' L _ hi => by
    rw [enumL_len, chars_len] at hi
    show (str0 s).cps.size ≤ i
    simpa [str0] using hi
  go := fun i d M' H' L m' hi => by
    obtain ⟨y, g1, rfl⟩ := enumL_get hi
    obtain ⟨c, hc, rfl⟩ := chars_get g1
    have lt : i < s.length := (List.getElem?_eq_some_iff.mp hc).1
    refine ⟨by show i < (str0 s).cps.size; simpa [str0] using lt, fun z H3 q => ?_⟩
    obtain ⟨p, c', rfl, np, rfl, q1⟩ := q
    have e1 : s[i]? = some c' := by simpa [str0] using q1
    rw [hc] at e1
    cases e1
    rw [Nat.zero_add]
    exact ⟨.inr ⟨p, _, np, rfl⟩, .duo upd_same (by show 2 ≤ 1000000; decide) (.cons (.int _) (.cons (.str [c] (ok_one o hc) (by show 1 ≤ 1000000; decide)) .nil))⟩
end
end MP

set_option Elab.async false
set_option linter.all false
set_option maxRecDepth 100000
namespace MP
open PySem PySem.Spec PyProof.Rows L2
/-! enumerate of a list, a tuple or a text; zip of any two of these -/
inductive Src where
  | l (a : Addr) | t (a : Addr) | s (x : Str)
def Src.v : Src → V
  | .l a => .ref a
  | .t a => .ref a
  | .s x => .str x
def Src.holds (K : PySem.W.Frag) (H : Hp) : Src → List V → Prop
  | .l a, xs => SqL K H a xs
  | .t a, xs => SqT K H a xs
  | .s x, xs => xs = signsV x
def Src.turn (it : Addr) (i : Nat) (h : Heap) : Src → Prop
  | .l a => h.IsListIter it a i
  | .t a => h.IsTupleIter it a i
  | .s x => ∃ t, h.IsStrIter it (strIterType x) x t i
def Src.off (c : Addr) : Src → Prop
  | .l a => a ≠ c
  | .t a => a ≠ c
  | .s _ => True
section
variable {X : Cx} {pins : List (Addr × Obj)} {σ : St} {H : Hp} {s : Shared}
theorem Src.inj (I : Inv X pins σ H s) : ∀ {S : Src} {xs ys : List V}, S.holds X.K H xs → S.holds X.K H ys → xs = ys
  | .l _, _, _, p, q => I.list_inj p q
  | .t _, _, _, p, q => I.tuple_inj p q
  | .s _, _, _, p, q => p.trans q.symm
theorem Src.obj {it : Addr} {i : Nat} {h : Heap} : ∀ {S : Src}, S.turn it i h → ∃ o, h.get? it = some o ∧ ∀ v, o.data ≠ .cell v
  | .l _, ⟨o, e, _, d⟩ => ⟨o, e, fun v z => by rw [d] at z; cases z⟩
  | .t _, ⟨o, e, _, d⟩ => ⟨o, e, fun v z => by rw [d] at z; cases z⟩
  | .s _, ⟨_, ⟨o, e, _, d⟩⟩ => ⟨o, e, fun v z => by rw [d] at z; cases z⟩
theorem Src.stay {it : Addr} {i : Nat} {h h' : Heap} (k : ∀ o, h.get? it = some o → h'.get? it = some o) : ∀ {S : Src}, S.turn it i h → S.turn it i h'
  | .l _, ⟨o, e, r⟩ => ⟨o, k o e, r⟩
  | .t _, ⟨o, e, r⟩ => ⟨o, k o e, r⟩
  | .s _, ⟨u, ⟨o, e, r⟩⟩ => ⟨u, ⟨o, k o e, r⟩⟩
theorem signs_get {x : Str} {j : Nat} {c : Nat} (h : x.cps[j]? = some c) : (signsV x)[j]? = some (.str ⟨#[c]⟩) := by
  have h2 : x.cps.toList[j]? = some c := by simpa using h
  show (x.cps.toList.map fun c => V.str ⟨#[c]⟩)[j]? = _
  rw [List.getElem?_map, h2]
  rfl
/-- what the iterator of such a thing draws -/
theorem Src.draws (I : Inv X pins σ H s) (hc : X.calm = true) : ∀ {S : Src} {xs : List V} {it : Addr} {i : Nat}, S.holds X.K H xs → S.off it → S.turn it i s.heap →
    ∃ (fp : List Addr) (P : Nat → Value → Prop) (St : Nat → Heap → Prop), Draws X.prog X.w X.A.in1 it fp xs.length P St ∧ St i s.heap ∧ (∀ j v, P j v → ∃ x, xs[j]? = some x ∧ RelV x v) ∧ it ∈ fp ∧ (∀ c, c ≠ it → S.off c → c ∉ fp) ∧ ∀ j h, St j h → S.turn it j h
  | .l a, xs, it, i, q, o, st => by
    obtain ⟨its, rv, p, _⟩ := I.list q
    have D := Draws.list (prog := X.prog) (w := X.w) (A := X.A.in1) (I.ok.hd hc) it a o its.toArray
    rw [show its.toArray.size = xs.length from rv.length.symm] at D
    refine ⟨_, _, _, D, ⟨st, p.isList⟩, fun j v h => ?_, List.mem_cons_self, fun c h1 h2 h3 => ?_, fun j h z => z.1⟩
    · have h : its[j]? = some v := by simpa using h
      have lt : j < xs.length := by
        rw [rv.length]
        exact (List.getElem?_eq_some_iff.mp h).1
      obtain ⟨u, hu, ru⟩ := rv.get (List.getElem?_eq_getElem lt)
      rw [h] at hu
      cases hu
      exact ⟨_, List.getElem?_eq_getElem lt, ru⟩
    · rcases List.mem_cons.mp h3 with z | z
      · exact h1 z
      · exact h2 (List.mem_singleton.mp z).symm
  | .t a, xs, it, i, q, o, st => by
    obtain ⟨its, rv, p, _⟩ := I.tuple q
    have D := Draws.tuple (prog := X.prog) (w := X.w) (A := X.A.in1) (I.ok.hd hc) it a o its.toArray
    rw [show its.toArray.size = xs.length from rv.length.symm] at D
    refine ⟨_, _, _, D, ⟨st, p⟩, fun j v h => ?_, List.mem_cons_self, fun c h1 h2 h3 => ?_, fun j h z => z.1⟩
    · have h : its[j]? = some v := by simpa using h
      have lt : j < xs.length := by
        rw [rv.length]
        exact (List.getElem?_eq_some_iff.mp h).1
      obtain ⟨u, hu, ru⟩ := rv.get (List.getElem?_eq_getElem lt)
      rw [h] at hu
      cases hu
      exact ⟨_, List.getElem?_eq_getElem lt, ru⟩
    · rcases List.mem_cons.mp h3 with z | z
      · exact h1 z
      · exact h2 (List.mem_singleton.mp z).symm
  | .s x, xs, it, i, q, o, st => by
    obtain ⟨u, st⟩ := st
    cases q
    have D := draws_text (P := X.prog) (w := X.w) (A := X.A.in1) (I.ok.hd hc) it x u
    rw [← signs_len] at D
    refine ⟨_, _, _, D, st, fun j v h => ?_, List.mem_cons_self, fun c h1 h2 h3 => h1 (List.mem_singleton.mp h3), fun j h z => ⟨u, z⟩⟩
    obtain ⟨c, y, h1, rfl⟩ := h
    exact ⟨_, signs_get h1, y, rfl⟩
end
/-! ### enumerate -/
def IteG (K : PySem.W.Frag) (S : Src) (N : Nat) : It :=
  ⟨fun i H => ∃ (xs : List V) (x : V), S.holds K H xs ∧ xs.length = N ∧ xs[i]? = some x,
    fun i H v H' => ∃ (T : Addr) (x : V), v = .ref T ∧ H T = none ∧ H' = upd H T (.tup [.int (i : Nat), x]) ∧ ∀ xs, S.holds K H xs → xs[i]? = some x,
    fun i H => ∃ xs : List V, S.holds K H xs ∧ xs.length = N ∧ N ≤ i⟩
theorem turn_enumG {P : Program} {w : World} {K : PySem.W.Frag} {elts : List Expr} {kk : Nat} {tpos : Pos} (S : Src) (N : Nat) (e it : Addr) :
    Turn P w K (.Tuple elts kk tpos) (IteG K S N) [e, it] e (fun i h => (∃ old, IsEnum h e it ((i : Nat) : Int) old) ∧ S.turn it i h ∧ e ≠ it ∧ i ≤ N ∧ S.off e ∧ S.off it) where
  mem := List.mem_cons_self
  obj := fun i h ⟨⟨old, a1⟩, a2, _⟩ b hb => by
    rcases List.mem_cons.mp hb with rfl | hb
    · exact ⟨_, a1, fun v z => nomatch z⟩
    · obtain rfl := List.mem_singleton.mp hb
      exact Src.obj a2
  keep := fun i h h' ⟨⟨old, a1⟩, a2, r⟩ k => ⟨⟨old, k e List.mem_cons_self _ a1⟩, Src.stay (fun o q => k it (List.mem_cons_of_mem _ List.mem_cons_self) o q) a2, r⟩
  item := fun X hP hw hK hc i pins s σ H E I hf ⟨⟨old, a1⟩, a2, ne, lim, oe, oi⟩ hg => by
    subst hP hw hK
    obtain ⟨xs, x, hq, hN, hx⟩ := hg
    have le : e < s.heap.objs.size := Heap.lt_size a1
    have li : it < s.heap.objs.size := by
      obtain ⟨_, q, _⟩ := Src.obj a2
      exact Heap.lt_size q
    have lx : i < xs.length := (List.getElem?_eq_some_iff.mp hx).1
    obtain ⟨fp, P, St, D, st, hP, m1, m2, back⟩ := Src.draws I hc hq oi a2
    refine wpAny_pyNext_enum_itemD D a1 st lx ne (m2 e ne oe) fun v h1 tk hv out a3 tup sz k => ?_
    obtain ⟨x', hx', rv⟩ := hP _ _ hv
    rw [hx] at hx'
    cases hx'
    refine ⟨_, rfl, wpAny_letOwnedTupleGo_enum (s := { s with heap := h1, toks := tk + 1 }) out fun h2 a4 sb => ?_⟩
    have at2 : h2.get? s.heap.objs.size = some { cls := .type "tuple", data := .seq #[.int i tk, v] } := (sb.2 _ (Nat.ne_of_gt le)).trans tup
    have I1 : Inv X pins σ (upd H s.heap.objs.size (.tup [.int (i : Nat), x])) { s with heap := h2, toks := tk + 1 } :=
      I.turnedNew (ch := [e, it]) (fun b ob hb q => (sb.2 b (fun z => hb (by simp [z]))).trans (k b ob (fun z => hb (by simp [z])) (fun z => hb (by simp [z])) q)) hf (Nat.le_refl _)
        ⟨by show 2 ≤ sizeLine; decide, [.int i tk, v], .cons ⟨_, rfl⟩ (.cons rv .nil), ⟨_, at2, rfl, _, rfl⟩⟩
    refine ⟨.ref s.heap.objs.size, _, I1, rfl, ⟨_, x, rfl, I.hok.fresh (Nat.le_refl _), rfl, fun ys hy => by rw [Src.inj I hy hq]; exact hx⟩, ⟨⟨v, ?_⟩, ?_, ne, by omega, oe, oi⟩, fun b hb => ?_⟩
    · have e1 : ((i + 1 : Nat) : Int) = (i : Int) + 1 := by omega
      rw [e1]
      exact a4
    · exact Src.stay (fun o q => (sb.2 it (Ne.symm ne)).trans q) (back _ _ a3)
    · have lb : b < s.heap.objs.size := by
        rcases List.mem_cons.mp hb with rfl | hb
        · exact le
        · obtain rfl := List.mem_singleton.mp hb
          exact li
      rw [upd_ne (Nat.ne_of_lt lb)]
      exact (hf b hb).1
  done := fun X hP hw hK hc i pins s σ H E I hf ⟨⟨old, a1⟩, a2, ne, lim, oe, oi⟩ hg => by
    subst hP hw hK
    obtain ⟨f0, f1, f2, f3, f4, f5⟩ := hf it (List.mem_cons_of_mem _ List.mem_cons_self)
    obtain ⟨xs, hq, hN, hi⟩ := hg
    obtain ⟨fp, P, St, D, st, hP, m1, m2, back⟩ := Src.draws I hc hq oi a2
    obtain rfl : i = xs.length := by omega
    exact wpAny_pyNext_enum_endD D a1 st fun h' eb => ⟨rfl, I.turned (t' := s.toks) (fun b o hb q => eb b o hb q) f0 f1 f3 f4 f5⟩
  self := fun A i s Q E ⟨⟨_, a1⟩, _⟩ h => wpAny_pyIter_enum a1 h
/-! ### zip -/
def ItzG (K : PySem.W.Frag) (S1 S2 : Src) (N1 N2 : Nat) : It :=
  ⟨fun i H => ∃ (xs ys : List V) (x y : V), S1.holds K H xs ∧ S2.holds K H ys ∧ xs.length = N1 ∧ ys.length = N2 ∧ xs[i]? = some x ∧ ys[i]? = some y,
    fun i H v H' => ∃ (T : Addr) (x y : V), v = .ref T ∧ H T = none ∧ H' = upd H T (.tup [x, y]) ∧ (∀ xs, S1.holds K H xs → xs[i]? = some x) ∧ ∀ ys, S2.holds K H ys → ys[i]? = some y,
    fun i H => ∃ xs ys : List V, S1.holds K H xs ∧ S2.holds K H ys ∧ xs.length = N1 ∧ ys.length = N2 ∧ (N1 ≤ i ∨ N2 ≤ i)⟩
theorem turn_zipG {P : Program} {w : World} {K : PySem.W.Frag} {elts : List Expr} {kk : Nat} {tpos : Pos} (S1 S2 : Src) (N1 N2 : Nat) (z TI TO i1 i2 : Addr) (apart : TI ≠ z ∧ TO ≠ z ∧ TI ≠ TO ∧ TI ≠ i1 ∧ TI ≠ i2 ∧ z ≠ i1 ∧ z ≠ i2 ∧ TO ≠ i1 ∧ TO ≠ i2 ∧ i1 ≠ i2) (o1 : ∀ c ∈ [z, TO, i1, i2], S1.off c) (o2 : ∀ c ∈ [z, TO, i1, i2], S2.off c) :
    Turn P w K (.Tuple elts kk tpos) (ItzG K S1 S2 N1 N2) [z, TI, TO, i1, i2] z (fun i h => IsZip h z TI TO .none ∧ IsTupOf2 h TI (.ref i1) (.ref i2) ∧ (∃ x y, IsTupOf2 h TO x y) ∧ S1.turn i1 i h ∧ S2.turn i2 i h ∧ i ≤ N1 ∧ i ≤ N2) where
  mem := List.mem_cons_self
  obj := fun i h st c hc => by
    obtain ⟨hz, hTI, ⟨x, y, hTO⟩, h1, h2, _⟩ := st
    simp only [List.mem_cons, List.not_mem_nil, or_false] at hc
    rcases hc with rfl | rfl | rfl | rfl | rfl
    · exact ⟨_, hz, fun v q => nomatch q⟩
    · exact ⟨_, hTI, fun v q => nomatch q⟩
    · exact ⟨_, hTO, fun v q => nomatch q⟩
    · exact Src.obj h1
    · exact Src.obj h2
  keep := fun i h h' st k => by
    obtain ⟨hz, hTI, ⟨x, y, hTO⟩, h1, h2, r⟩ := st
    exact ⟨k z (by simp) _ hz, k TI (by simp) _ hTI, ⟨x, y, k TO (by simp) _ hTO⟩, Src.stay (fun o q => k i1 (by simp) o q) h1, Src.stay (fun o q => k i2 (by simp) o q) h2, r⟩
  item := fun X hP hw hK hc i pins s σ H E I hf st hg => by
    subst hP hw hK
    obtain ⟨hz, hTI, ⟨x0, y0, hTO⟩, h1, h2, l1, l2⟩ := st
    obtain ⟨xs, ys, x, y, hqx, hqy, n1, n2, hx, hy⟩ := hg
    obtain ⟨a1, a2, a3, a4, a5, a6, a7, a8, a9, a10⟩ := apart
    obtain ⟨fp1, P1, St1, D1, st1, hP1, m1, off1, back1⟩ := Src.draws I hc hqx (o1 i1 (by simp)) h1
    obtain ⟨fp2, P2, St2, D2, st2, hP2, m2, off2, back2⟩ := Src.draws I hc hqy (o2 i2 (by simp)) h2
    have SS : ZipSep2 z TI TO i1 i2 fp1 fp2 := ⟨a1, a2, a3, a4, m1, off1 z a6 (o1 z (by simp)), off1 TO a8 (o1 TO (by simp)), a5, m2, off2 z a7 (o2 z (by simp)), off2 TO a9 (o2 TO (by simp)), off2 i1 a10 (o2 i1 (by simp)), off1 i2 (Ne.symm a10) (o1 i2 (by simp))⟩
    have lx : i < xs.length := (List.getElem?_eq_some_iff.mp hx).1
    have ly : i < ys.length := (List.getElem?_eq_some_iff.mp hy).1
    have hzl : z < s.heap.objs.size := Heap.lt_size hz
    refine wpAny_pyNext_zipD2_item SS D1 D2 hz hTI hTO st1 st2 lx ly fun u1 u2 h' tk p1 p2 z' TO' b1 b2 hT hsz hk => ?_
    obtain ⟨x', e1, r1⟩ := hP1 _ _ p1
    obtain ⟨y', e2, r2⟩ := hP2 _ _ p2
    rw [hx] at e1
    rw [hy] at e2
    cases e1
    cases e2
    refine ⟨_, rfl, wpAny_letOwnedTupleGo_zip (s := { s with heap := h', toks := tk }) z' fun h'' z'' sb => ?_⟩
    have hT2 : h''.get? s.heap.objs.size = some { cls := .type "tuple", data := .seq #[u1, u2] } := (sb.2 _ (Nat.ne_of_gt hzl)).trans hT
    have I1 : Inv X pins σ (upd H s.heap.objs.size (.tup [x, y])) { s with heap := h'', toks := tk } :=
      I.turnedNew (ch := [z, TI, TO, i1, i2]) (fun c o hb q => (sb.2 c (fun q' => hb (by simp [q']))).trans (hk c o (fun q' => hb (by simp [q'])) (fun q' => hb (by simp [q'])) (fun q' => hb (by simp [q'])) (fun q' => hb (by simp [q'])) q)) hf (Nat.le_refl _)
        ⟨by show 2 ≤ sizeLine; decide, [u1, u2], .cons r1 (.cons r2 .nil), ⟨_, hT2, rfl, _, rfl⟩⟩
    refine ⟨.ref s.heap.objs.size, _, I1, rfl, ⟨_, x, y, rfl, I.hok.fresh (Nat.le_refl _), rfl, fun l hl => by rw [Src.inj I hl hqx]; exact hx, fun l hl => by rw [Src.inj I hl hqy]; exact hy⟩, ⟨z'', ?_, ⟨u1, u2, ?_⟩, ?_, ?_, by omega, by omega⟩, fun c hcm => ?_⟩
    · exact (sb.2 _ a1).trans (hk _ _ a1 a3 a4 a5 hTI)
    · exact (sb.2 _ a2).trans TO'
    · exact Src.stay (fun o q => (sb.2 _ (Ne.symm a6)).trans q) (back1 _ _ b1)
    · exact Src.stay (fun o q => (sb.2 _ (Ne.symm a7)).trans q) (back2 _ _ b2)
    · have hlt : c < s.heap.objs.size := by
        have hcm' := hcm
        simp only [List.mem_cons, List.not_mem_nil, or_false] at hcm'
        rcases hcm' with rfl | rfl | rfl | rfl | rfl
        · exact hzl
        · exact Heap.lt_size hTI
        · exact Heap.lt_size hTO
        · obtain ⟨_, e1, _⟩ := Src.obj h1
          exact Heap.lt_size e1
        · obtain ⟨_, e2, _⟩ := Src.obj h2
          exact Heap.lt_size e2
      rw [upd_ne (Nat.ne_of_lt hlt)]
      exact (hf c hcm).1
  done := fun X hP hw hK hc i pins s σ H E I hf st hg => by
    subst hP hw hK
    obtain ⟨hz, hTI, ⟨x0, y0, hTO⟩, h1, h2, l1, l2⟩ := st
    obtain ⟨xs, ys, hqx, hqy, n1, n2, hend⟩ := hg
    obtain ⟨a1, a2, a3, a4, a5, a6, a7, a8, a9, a10⟩ := apart
    obtain ⟨fp1, P1, St1, D1, st1, hP1, m1, off1, back1⟩ := Src.draws I hc hqx (o1 i1 (by simp)) h1
    obtain ⟨fp2, P2, St2, D2, st2, hP2, m2, off2, back2⟩ := Src.draws I hc hqy (o2 i2 (by simp)) h2
    have SS : ZipSep2 z TI TO i1 i2 fp1 fp2 := ⟨a1, a2, a3, a4, m1, off1 z a6 (o1 z (by simp)), off1 TO a8 (o1 TO (by simp)), a5, m2, off2 z a7 (o2 z (by simp)), off2 TO a9 (o2 TO (by simp)), off2 i1 a10 (o2 i1 (by simp)), off1 i2 (Ne.symm a10) (o1 i2 (by simp))⟩
    refine wpAny_pyNext_zipD2_end SS D1 D2 hz hTI hTO st1 st2 (by omega) (by omega) (by omega) fun h' tk hk => ⟨rfl, I.turnedL (ch := [z, TI, TO, i1, i2]) (fun c o hb q =>
      hk c o (fun q' => hb (by simp [q'])) (fun q' => hb (by simp [q'])) (fun q' => hb (by simp [q'])) (fun q' => hb (by simp [q'])) q) hf⟩
  self := fun A i s Q E st h => wpAny_pyIter_zip st.1 h
/-! ### they begin -/
section
variable {X : Cx} {pins : List (Addr × Obj)} {σ : St} {H : Hp} {s : Shared}
theorem Src.begins (I : Inv X pins σ H s) : ∀ {S : Src} {xs : List V} {v : Value}, S.holds X.K H xs → RelV S.v v →
    ∃ (o : Obj) (B : Heap → Prop), Begins v o B ∧ B s.heap ∧ (∀ (h : Heap) (it : Addr), h.get? it = some o → S.turn it 0 h) ∧ ∀ c, s.heap.objs.size ≤ c → S.off c
  | .l a, xs, v, q, r => by
    cases r
    obtain ⟨its, rv, p, _⟩ := I.list q
    exact ⟨_, _, begins_list a its.toArray, p.isList, fun h it e => ⟨_, e, rfl, rfl⟩, fun c hc => Nat.ne_of_lt (Nat.lt_of_lt_of_le p.lt hc)⟩
  | .t a, xs, v, q, r => by
    cases r
    obtain ⟨its, rv, p, _⟩ := I.tuple q
    exact ⟨_, _, begins_tuple a its.toArray, p, fun h it e => ⟨_, e, rfl, rfl⟩, fun c hc => Nat.ne_of_lt (Nat.lt_of_lt_of_le p.lt hc)⟩
  | .s x, xs, v, q, r => by
    obtain ⟨u, rfl⟩ := r
    exact ⟨_, _, begins_text x u, trivial, fun h it e => ⟨u, ⟨_, e, rfl, rfl⟩⟩, fun _ _ => trivial⟩
end
set_option maxHeartbeats 1000000 in
theorem meets_enum1 {v : Value} {o : Obj} {B : Heap → Prop} (b : Begins v o B) :
    Meets (Builtin.«enumerate.__new__» ⟨[.type "enumerate", v], []⟩) (fun _ R s => B s.heap ∧
      R (.ok (.ret (.ref (s.heap.push o).objs.size))) { s with heap := (s.heap.push o).push { cls := .type "enumerate", data := .fields #[.none, .bool false, .ref s.heap.objs.size, rawInt 0, .none, .none] } }) :=
  .of_wp fun prog w A R s h => by
    obtain ⟨hp, g, d, tk, os⟩ := s
    obtain ⟨hB, h⟩ := h
    have sub := sub_enumerate
    have goes : ∀ {A2 : Around} {E2 : Value → Shared → Prop} {Q2 : Value → Shared → Prop}, Q2 (.ref hp.objs.size) ⟨hp.push o, g, d, tk, os⟩ → wpAny (model prog w) A2 (pyIter v) Q2 E2 ⟨hp, g, d, tk, os⟩ := fun q => b.iter prog w _ _ ⟨hp, g, d, tk, os⟩ _ hB q
    wp_walk using goes
    refine wpAny_stack_any fun st => wpAny_pure ?_
    split
    · rename_i c _ _ _ _ _
      cases (c == Value.type "enumerate") <;> (wp_walk using goes; exact ⟨_, rfl, h⟩)
    · wp_walk using goes
      exact ⟨_, rfl, h⟩
theorem enum1_begins {prog : Program} {w : World} {A : Around} {E : Value → Shared → Prop} {s : Shared} {v : Value} {o : Obj} {B : Heap → Prop} {Q : Value → Shared → Prop} (b : Begins v o B) (hB : B s.heap)
    (h : ∀ h' : Heap, IsEnum h' (s.heap.objs.size + 1) s.heap.objs.size 0 .none → h'.get? s.heap.objs.size = some o → (∀ c u, s.heap.get? c = some u → h'.get? c = some u) → Q (.ref (s.heap.objs.size + 1)) { s with heap := h' }) :
    wpAny (model prog w) A (call (.type "enumerate") [v]) Q E s := by
  refine callType_new F.called_enumerate (by decide) (F.typeCall_enumerate_1 _) (F.newCall_enumerate_1 _) (fun obj => F.args_object_init_2 obj _) F.entry_enumerate_new (meets_enum1 b) ⟨hB, ?_⟩
  have z1 : (s.heap.push o).objs.size = s.heap.objs.size + 1 := Heap.size_push ..
  have g1 := Heap.get?_push_size (s.heap.push o) (o := { cls := .type "enumerate", data := .fields #[.none, .bool false, .ref s.heap.objs.size, rawInt 0, .none, .none] }) rfl
  rw [z1] at g1
  show _ ∧ _
  rw [z1]
  exact ⟨⟨_, g1, rfl⟩, h _ g1 (Heap.get?_push_of_some _ (Heap.get?_push_size _ b.free)) fun c u e => Heap.get?_push_of_some _ (Heap.get?_push_of_some _ e)⟩
def iEnumG (K : PySem.W.Frag) (ta : TA) : TI := fun σ H R => ta σ H fun vs H1 => ∃ (S : Src) (xs : List V), vs = [S.v] ∧ S.holds K H1 xs ∧ R (IteG K S xs.length) H1
theorem pi_enumG {X : Cx} {e : Expr} {ta : TA} {p pos tpos : Pos} {elts : List Expr} {kk : Nat} (hg : Gl X "enumerate") (hm : X.mg "enumerate" = none) (hb : bootBuiltins "enumerate" = some (.type "enumerate")) (ha : PA X [e] ta) (hs : starEach [e] X.env = [(false, eval e X.env)]) :
    PI X (.Tuple elts kk tpos) (.Call (.Name "enumerate" p) [e] [] pos) (iEnumG X.K ta) := by
  refine ⟨fun pins s σ H R I h => ?_⟩
  refine wpAny_Call_Name_kw (ld_blt I hg hm hb (callWith_type1 (thn (ha.run pos pins s σ H _ I h) fun us s1 ⟨vs, H1, I1, r1, q⟩ => ?_) hs rfl))
  obtain ⟨S, xs, rfl, hq, q⟩ := q
  cases r1 with
  | cons r rr =>
    cases rr
    obtain ⟨o, B, b, hB, first, off⟩ := Src.begins I1 hq r
    refine enum1_begins b hB fun h' he hit hk => wpAny_pyIter_enum he ⟨s1.heap.objs.size + 1, [s1.heap.objs.size + 1, s1.heap.objs.size], _, _, H1, rfl, I1.kept (t' := s1.toks) hk, turn_enumG S xs.length (s1.heap.objs.size + 1) s1.heap.objs.size, ⟨⟨.none, he⟩, first _ _ hit, Nat.succ_ne_self _, Nat.zero_le _, off _ (Nat.le_succ _), off _ (Nat.le_refl _)⟩, fun c hc => ?_, q⟩
    have hle : s1.heap.objs.size ≤ c := by
      rcases List.mem_cons.mp hc with z | z
      · rw [z]; exact Nat.le_succ _
      · rw [List.mem_singleton.mp z]; exact Nat.le_refl _
    exact I1.fpOk hle (I1.hok.fresh hle)
def iZipG (K : PySem.W.Frag) (ta : TA) : TI := fun σ H R => ta σ H fun vs H1 => ∃ (S1 S2 : Src) (xs ys : List V), vs = [S1.v, S2.v] ∧ S1.holds K H1 xs ∧ S2.holds K H1 ys ∧ R (ItzG K S1 S2 xs.length ys.length) H1
theorem pi_zipG {X : Cx} {e e2 : Expr} {ta : TA} {p pos tpos : Pos} {elts : List Expr} {kk : Nat} (hg : Gl X "zip") (hm : X.mg "zip" = none) (ha : PA X [e, e2] ta)
    (hs : starEach [e, e2] X.env = (false, eval e X.env) :: starEach [e2] X.env) (hpl : (backTo pos (starEach [e2] X.env)).any (·.1) = false) :
    PI X (.Tuple elts kk tpos) (.Call (.Name "zip" p) [e, e2] [] pos) (iZipG X.K ta) := by
  refine ⟨fun pins s σ H R I h => ?_⟩
  refine Call_ (ld_blt I hg hm PyProof.Rows.boot_zip (PyProof.Rows.callWith_type1 (thn (ha.run pos pins s σ H _ I h) fun us s1 ⟨vs, H1, I1, r1, q1⟩ => ?_) hs hpl))
  obtain ⟨S1, S2, xs, ys, rfl, hq1, hq2, q⟩ := q1
  cases r1 with
  | cons r rr =>
    cases rr with
    | cons r' rr =>
      cases rr
      obtain ⟨o1, B1, b1, hB1, first1, off1⟩ := Src.begins I1 hq1 r
      obtain ⟨o2, B2, b2, hB2, first2, off2⟩ := Src.begins I1 hq2 r'
      refine zip_begins2 b1 b2 hB1 hB2 fun h' hz hTI hTO h1 h2 hsz hk => wpAny_pyIter_zip hz ?_
      generalize hn : s1.heap.objs.size = n at *
      have up : ∀ c, c ∈ [n + 4, n + 2, n + 3, n, n + 1] → n ≤ c := fun c hc => by
        simp only [List.mem_cons, List.not_mem_nil, or_false] at hc
        show (n : Nat) ≤ (c : Nat)
        rcases hc with rfl | rfl | rfl | rfl | rfl
        · show (n : Nat) ≤ n + 4; omega
        · show (n : Nat) ≤ n + 2; omega
        · show (n : Nat) ≤ n + 3; omega
        · exact Nat.le_refl _
        · show (n : Nat) ≤ n + 1; omega
      have four : ∀ c ∈ [n + 4, n + 3, n, n + 1], c ∈ [n + 4, n + 2, n + 3, n, n + 1] := fun c hc => by
        simp only [List.mem_cons, List.not_mem_nil, or_false] at hc ⊢
        rcases hc with z | z | z | z
        · exact .inl z
        · exact .inr (.inr (.inl z))
        · exact .inr (.inr (.inr (.inl z)))
        · exact .inr (.inr (.inr (.inr z)))
      refine ⟨n + 4, [n + 4, n + 2, n + 3, n, n + 1], _, _, H1, rfl, I1.kept (t' := s1.toks) hk, turn_zipG S1 S2 xs.length ys.length (n + 4) (n + 2) (n + 3) n (n + 1) ⟨?_, ?_, ?_, ?_, ?_, ?_, ?_, ?_, ?_, ?_⟩ (fun c hc => off1 c (up c (four c hc))) (fun c hc => off2 c (up c (four c hc))), ⟨hz, hTI, ⟨_, _, hTO⟩, first1 _ _ h1, first2 _ _ h2, Nat.zero_le _, Nat.zero_le _⟩, fun c hc => ?_, q⟩
      · show ¬ ((n + 2 : Nat) = n + 4); omega
      · show ¬ ((n + 3 : Nat) = n + 4); omega
      · show ¬ ((n + 2 : Nat) = n + 3); omega
      · show ¬ ((n + 2 : Nat) = n); omega
      · show ¬ ((n + 2 : Nat) = n + 1); omega
      · show ¬ ((n + 4 : Nat) = n); omega
      · show ¬ ((n + 4 : Nat) = n + 1); omega
      · show ¬ ((n + 3 : Nat) = n); omega
      · show ¬ ((n + 3 : Nat) = n + 1); omega
      · show ¬ ((n : Nat) = n + 1); omega
      · have hle : s1.heap.objs.size ≤ c := by rw [hn]; exact up c hc
        exact I1.fpOk hle (I1.hok.fresh hle)
/-! ### what is walked, in data -/
section
variable {K : PySem.W.Frag} {M : Addr → Prop} {H : Hp}
/-- a thing that holds these data, as long as what may change stays apart -/
structure SrcOk (K : PySem.W.Frag) (M : Addr → Prop) (H : Hp) (S : Src) (xs : List V) (ds : List D) : Prop where
  holds : ∀ M' H', Later M H M' H' → S.holds K H' xs
  rep : ∀ M' H', Later M H M' H' → MOk M' H' → RepL K M' H' xs ds
theorem RepL.stay {M' : Addr → Prop} {H' : Hp} {xs : List V} {ds : List D} (mok : MOk M H) (L : Later M H M' H') (r : RepL K M H xs ds) : RepL K M' H' xs ds := r.keep L.k mok L.g
theorem srcL {a : Addr} {xs : List V} {ds : List D} (mok : MOk M H) (h : H a = some (.lst xs)) (hm : ¬ M a) (r : RepL K M H xs ds) : SrcOk K M H (.l a) xs ds :=
  ⟨fun M' H' L => SqL.of (L.k _ _ h hm), fun M' H' L _ => RepL.stay mok L r⟩
theorem srcT {a : Addr} {xs : List V} {ds : List D} (mok : MOk M H) (h : ET H a xs) (r : RepL K M H xs ds) : SrcOk K M H (.t a) xs ds :=
  ⟨fun M' H' L => (et_later mok L h).sq, fun M' H' L _ => RepL.stay mok L r⟩
theorem srcS {s : List Nat} (o : okS s = true) : SrcOk K M H (.s (str0 s)) (signsV (str0 s)) (chars s) :=
  ⟨fun _ _ _ => rfl, fun _ _ _ _ => signs_rep o⟩
theorem src_of {v : V} {d : D} {ds : List D} (mok : MOk M H) (R : Rep K M H v d) (h : srcD d = some ds) : ∃ (S : Src) (xs : List V), v = S.v ∧ S.holds K H xs ∧ SrcOk K M H S xs ds := by
  cases R with
  | lst hb hm l rl => cases h; exact ⟨.l _, _, rfl, SqL.of hb, srcL mok hb hm rl⟩
  | tup hb l rl => cases h; exact ⟨.t _, _, rfl, hb.sq, srcT mok hb rl⟩
  | str _ o l => cases h; exact ⟨.s _, _, rfl, rfl, srcS o⟩
  | _ => cases h
theorem jok_enumG {S : Src} {xs : List V} {ds : List D} (h : SrcOk K M H S xs ds) : JOk K (IteG K S xs.length) M H (enumL 0 ds) where
  stop := fun i M' H' L m' hi => ⟨xs, h.holds _ _ L, rfl, by rw [enumL_len] at hi; rw [(h.rep _ _ L m').length]; exact hi⟩
  go := fun i d M' H' L m' hi => by
    obtain ⟨x, g1, rfl⟩ := enumL_get hi
    have rr := h.rep _ _ L m'
    obtain ⟨v, hv, rv⟩ := rr.get g1
    refine ⟨⟨xs, v, h.holds _ _ L, rfl, hv⟩, fun z H3 q => ?_⟩
    obtain ⟨T, x1, rfl, nT, rfl, q1⟩ := q
    have e1 := q1 xs (h.holds _ _ L)
    rw [hv] at e1
    cases e1
    rw [Nat.zero_add]
    exact ⟨.inr ⟨T, _, nT, rfl⟩, .duo upd_same (by show 2 ≤ 1000000; decide) (.cons (.int _) (.cons (rep_new m' nT rv) .nil))⟩
theorem jok_zipG {S1 S2 : Src} {xs ys : List V} {ds es : List D} (h1 : SrcOk K M H S1 xs ds) (h2 : SrcOk K M H S2 ys es) : JOk K (ItzG K S1 S2 xs.length ys.length) M H (zipL ds es) where
  stop := fun i M' H' L m' hi => ⟨xs, ys, h1.holds _ _ L, h2.holds _ _ L, rfl, rfl, by rw [(h1.rep _ _ L m').length, (h2.rep _ _ L m').length]; exact zipL_len _ _ hi⟩
  go := fun i d M' H' L m' hi => by
    obtain ⟨x, y, g1, g2, rfl⟩ := zipL_get hi
    obtain ⟨v, hv, rv⟩ := (h1.rep _ _ L m').get g1
    obtain ⟨u, hu, ru⟩ := (h2.rep _ _ L m').get g2
    refine ⟨⟨xs, ys, v, u, h1.holds _ _ L, h2.holds _ _ L, rfl, rfl, hv, hu⟩, fun z H3 q => ?_⟩
    obtain ⟨T, x1, x2, rfl, nT, rfl, q1, q2⟩ := q
    have e1 := q1 xs (h1.holds _ _ L)
    have e2 := q2 ys (h2.holds _ _ L)
    rw [hv] at e1
    rw [hu] at e2
    cases e1
    cases e2
    exact ⟨.inr ⟨T, _, nT, rfl⟩, .duo upd_same (by show 2 ≤ 1000000; decide) (.cons (rep_new m' nT rv) (.cons (rep_new m' nT ru) .nil))⟩
end
end MP

set_option Elab.async false
set_option linter.all false
set_option maxRecDepth 100000
namespace MP
open PySem PySem.Spec PyProof.Rows L2 RZ
section
variable {X : Cx} {mo : Nat → List Bool} {cf : CF}
theorem snd_seq {m : ME} {tg e : Expr} (h : PE X e (tE X.K mo cf m)) : PI X tg e (tI X.K mo cf (.seq m)) := ⟨fun pins s σ H R I q => by
  obtain ⟨F, M, env, env', xs, ok, S, e, q⟩ := q
  simp only [evI] at e
  split at e
  case h_2 => cases e
  rename_i e1 r h1
  split at e
  · rename_i ds hr
    cases e
    refine (pi_list h).run pins s σ H R I (tV_go ok S h1 fun M1 H1 v T1 S1 R1 => ?_)
    rw [hr] at R1
    cases R1 with
    | lst hb hm l rl => exact ⟨_, rfl, ⟨_, SqL.of hb⟩, q M1 H1 _ S1 (jok_list S1.mok hb hm rl)⟩
  · rename_i ds hr
    cases e
    refine (pi_tup h).run pins s σ H R I (tV_go ok S h1 fun M1 H1 v T1 S1 R1 => ?_)
    rw [hr] at R1
    cases R1 with
    | tup hb l rl => exact ⟨_, rfl, ⟨_, hb.sq⟩, q M1 H1 _ S1 (jok_tup S1.mok hb rl)⟩
  · rename_i z hr
    cases e
    refine (pi_str h).run pins s σ H R I (tV_go ok S h1 fun M1 H1 v T1 S1 R1 => ?_)
    rw [hr] at R1
    cases R1 with
    | str _ o l => exact ⟨_, rfl, q M1 H1 _ S1 (jok_str o)⟩
  · cases e⟩
theorem snd_rng1 {a : ME} {tg e : Expr} (h : PI X tg e (iRng1 (tCons (tE X.K mo cf a) tNil))) : PI X tg e (tI X.K mo cf (.rng1 a)) :=
  PI.imp h fun σ H R q => by
    obtain ⟨F, M, env, env', xs, ok, S, e, q⟩ := q
    simp only [evI] at e
    split at e
    case h_2 => cases e
    rename_i e1 j h1
    split at e
    case isFalse => cases e
    rename_i hb
    rw [Bool.and_eq_true] at hb
    have b1 := of_decide_eq_true hb.1
    have b2 := of_decide_eq_true hb.2
    cases e
    refine tE_go ok S h1 fun M1 H1 v T1 S1 R1 => ?_
    cases R1
    exact ⟨j, rfl, by omega, by omega, q M1 H1 _ S1 jok_rng⟩
theorem snd_rng2 {a b : ME} {tg e : Expr} (h : PI X tg e (iRng2 (tCons (tE X.K mo cf a) (tCons (tE X.K mo cf b) tNil)))) : PI X tg e (tI X.K mo cf (.rng2 a b)) :=
  PI.imp h fun σ H R q => by
    obtain ⟨F, M, env, env', xs, ok, S, e, q⟩ := q
    simp only [evI] at e
    split at e
    case h_2 => cases e
    rename_i e1 i h1
    split at e
    case h_2 => cases e
    rename_i e2 j h2
    split at e
    case isFalse => cases e
    rename_i hb
    simp only [Bool.and_eq_true, decide_eq_true_eq] at hb
    cases e
    refine tE_go ok S h1 fun M1 H1 v T1 S1 R1 => tE_go ok S1 h2 fun M2 H2 u T2 S2 R2 => ?_
    cases R1
    cases R2
    exact ⟨i, j, rfl, ⟨by omega, by omega, by omega, by omega⟩, q M2 H2 _ S2 jok_rng⟩
theorem snd_zip {a b : ME} {tg e : Expr} (h : PI X tg e (iZipG X.K (tCons (tE X.K mo cf a) (tCons (tE X.K mo cf b) tNil)))) : PI X tg e (tI X.K mo cf (.zip a b)) :=
  PI.imp h fun σ H R q => by
    obtain ⟨F, M, env, env', xs, ok, S, e, q⟩ := q
    simp only [evI] at e
    split at e
    case h_2 => cases e
    rename_i e1 ra h1
    split at e
    case h_2 => cases e
    rename_i e2 rb h2
    split at e
    case h_2 => cases e
    rename_i ds es k1 k2
    cases e
    refine tV_go ok S h1 fun M1 H1 v T1 S1 R1 => tV_go ok S1 h2 fun M2 H2 u T2 S2 R2 => ?_
    obtain ⟨s1, xs, rfl, q1, o1⟩ := src_of S2.mok (S1.rep T2 R1) k1
    obtain ⟨s2, ys, rfl, q2, o2⟩ := src_of S2.mok R2 k2
    exact ⟨s1, s2, xs, ys, rfl, q1, q2, q M2 H2 _ S2 (jok_zipG o1 o2)⟩
theorem snd_enum {a : ME} {tg e : Expr} (h : PI X tg e (iEnumG X.K (tCons (tE X.K mo cf a) tNil))) : PI X tg e (tI X.K mo cf (.enum a)) :=
  PI.imp h fun σ H R q => by
    obtain ⟨F, M, env, env', xs, ok, S, e, q⟩ := q
    simp only [evI] at e
    split at e
    case h_2 => cases e
    rename_i e1 r h1
    split at e
    case h_2 => cases e
    rename_i ds k
    cases e
    refine tV_go ok S h1 fun M1 H1 v T1 S1 R1 => ?_
    obtain ⟨s, xs, rfl, q1, o⟩ := src_of S1.mok R1 k
    exact ⟨s, xs, rfl, q1, q M1 H1 _ S1 (jok_enumG o)⟩
end
/-! ### names of a comprehension -/
theorem wipeE_out {env : En} : ∀ {vs : List Nat} {j : Nat}, j ∉ vs → (wipeE env vs)[j]? = env[j]?
  | [], _, _ => rfl
  | v :: vs, j, h => by
    simp only [List.mem_cons, not_or] at h
    unfold wipeE
    rw [List.getElem?_set_ne (Ne.symm h.1)]
    exact wipeE_out h.2
theorem wipeE_some {env : En} {x : SV} : ∀ {vs : List Nat} {j : Nat}, (wipeE env vs)[j]? = some (some x) → env[j]? = some (some x) ∧ j ∉ vs
  | [], _, h => ⟨h, by simp⟩
  | v :: vs, j, h => by
    unfold wipeE at h
    by_cases hv : v = j
    · subst hv
      rw [List.getElem?_set] at h
      simp only [if_true] at h
      split at h <;> cases h
    · rw [List.getElem?_set_ne hv] at h
      obtain ⟨h1, h2⟩ := wipeE_some h
      exact ⟨h1, by simp only [List.mem_cons, not_or]; exact ⟨Ne.symm hv, h2⟩⟩
theorem wipeE_len {env : En} : ∀ {vs : List Nat}, (wipeE env vs).length = env.length
  | [] => rfl
  | v :: vs => by unfold wipeE; rw [List.length_set]; exact wipeE_len
theorem wipe_eq {a b : L2.St} (hl : a.length = b.length) : ∀ {vs : List Nat}, (∀ j, j ∉ vs → a[j]? = b[j]?) → wipe a vs = wipe b vs := by
  intro vs h
  refine List.ext_getElem? fun j => ?_
  by_cases hj : j ∈ vs
  · have key : ∀ (c : L2.St) (vs : List Nat), j ∈ vs → (wipe c vs)[j]? = if j < c.length then some none else none := by
      intro c vs
      induction vs with
      | nil => intro h; cases h
      | cons v vs ih =>
        intro h
        show ((wipe c vs).set v none)[j]? = _
        rw [List.getElem?_set]
        split
        · rename_i e
          subst e
          rw [wipe_length]
        · rename_i e
          rcases List.mem_cons.mp h with z | z
          · exact absurd z.symm e
          · exact ih z
    rw [key a vs hj, key b vs hj, hl]
  · rw [wipe_out hj, wipe_out hj]
    exact h j hj
theorem wipe_wipe (a : L2.St) (vs : List Nat) : wipe (wipe a vs) vs = wipe a vs := wipe_eq (wipe_length a vs) fun j hj => wipe_out hj
theorem unwipe_out {env env' : En} : ∀ {vs : List Nat} {j : Nat}, j ∉ vs → (unwipe env env' vs)[j]? = env'[j]?
  | [], _, _ => rfl
  | v :: vs, j, h => by
    simp only [List.mem_cons, not_or] at h
    unfold unwipe
    rw [List.getElem?_set_ne (Ne.symm h.1)]
    exact unwipe_out h.2
theorem unwipe_len {env env' : En} : ∀ {vs : List Nat}, (unwipe env env' vs).length = env'.length
  | [] => rfl
  | v :: vs => by unfold unwipe; rw [List.length_set]; exact unwipe_len
theorem unwipe_in {env env' : En} (hl : env.length = env'.length) : ∀ {vs : List Nat} {j : Nat}, j ∈ vs → (unwipe env env' vs)[j]? = env[j]?
  | [], j, h => by cases h
  | v :: vs, j, h => by
    show ((unwipe env env' vs).set v _)[j]? = _
    rw [List.getElem?_set]
    split
    · rename_i e
      subst e
      rw [unwipe_len, ← hl]
      split
      · rename_i h2
        rw [List.getElem?_eq_getElem h2]
        rfl
      · rename_i h2
        rw [List.getElem?_eq_none (by omega)]
    · rename_i e
      rcases List.mem_cons.mp h with z | z
      · exact absurd z.symm e
      · exact unwipe_in hl z
theorem wipeOk_in {env : En} : ∀ {vs : List Nat} {j : Nat}, wipeOk env vs = true → j ∈ vs → ∀ (p : Bool) (ds : List D), env[j]? ≠ some (some (SV.own p ds))
  | [], j, _, h, _, _ => by cases h
  | v :: vs, j, hk, h, p, ds => by
    unfold wipeOk at hk
    rw [Bool.and_eq_true] at hk
    rcases List.mem_cons.mp h with rfl | h
    · intro e
      have := hk.1
      rw [e] at this
      cases this
    · exact wipeOk_in hk.2 h p ds
section
variable {K : PySem.W.Frag} {F : Fr} {M M' : Addr → Prop} {env env' : En} {σ σ' : L2.St} {H H' : Hp}
theorem SR.forget (S : SR K F M env σ H) {vs : List Nat} (hp : ∀ ia ∈ F.P, ia.1 ∉ vs) : SR K F M (wipeE env vs) (wipe σ vs) H where
  keep := S.keep
  alive := S.alive
  m0 := S.m0
  grow := S.grow
  mok := S.mok
  sh := fun i d e => by
    obtain ⟨e, hi⟩ := wipeE_some e
    rw [wipe_out hi]
    exact S.sh i d e
  ow := fun i p ds e => by
    obtain ⟨e, hi⟩ := wipeE_some e
    rw [wipe_out hi]
    exact S.ow i p ds e
  inj := fun i j p q ds es a e1 e2 => by
    obtain ⟨e1, h1⟩ := wipeE_some e1
    obtain ⟨e2, h2⟩ := wipeE_some e2
    rw [wipe_out h1, wipe_out h2]
    exact S.inj i j p q ds es a e1 e2
  par := fun ia hia => by
    rw [wipeE_out (hp ia hia), wipe_out (hp ia hia)]
    exact S.par ia hia
  len := by rw [wipeE_len, wipe_length]; exact S.len
theorem SR.parOut (S : SR K F M env σ H) {vs : List Nat} (hk : wipeOk env vs = true) : ∀ ia ∈ F.P, ia.1 ∉ vs := fun ia hia h => by
  obtain ⟨⟨ds, e⟩, _⟩ := S.par ia hia
  exact wipeOk_in hk h true ds e
theorem Fl1.forget {a : Addr} {ds : List D} (f : Fl1 K F M env σ H a ds) (vs : List Nat) : Fl1 K F M (wipeE env vs) (wipe σ vs) H a ds := ⟨f.m, f.n, f.at_, f.l, fun ⟨i, p, es, e, q⟩ => by
  obtain ⟨e, hi⟩ := wipeE_some e
  rw [wipe_out hi] at q
  exact f.no ⟨i, p, es, e, q⟩⟩
theorem Fl1.upd_new {a p : Addr} {o : HO} {ds : List D} (mok : MOk M H) (f : Fl1 K F M env σ H a ds) (hp : H p = none) : Fl1 K F M env σ (upd H p o) a ds := by
  obtain ⟨xs, e, r⟩ := f.at_
  exact ⟨f.m, f.n, ⟨xs, by rw [upd_ne (ne_of_none e hp)]; exact e, repL_new mok hp r⟩, f.l, f.no⟩
/-- a list of nobody's is written -/
theorem SR.updFl (S : SR K F M env σ H) {a : Addr} {ds ds' : List D} {xs' : List V} (f : Fl1 K F M env σ H a ds) (r : RepL K M H xs' ds') (l : ds'.length ≤ big) :
    SR K F M env σ (upd H a (.lst xs')) ∧ Fl1 K F M env σ (upd H a (.lst xs')) a ds' := by
  have kp : ∀ b u, H b = some u → ¬ M b → upd H a (.lst xs') b = some u := fun b u h q => by
    rw [upd_ne (fun z => q (by rw [z]; exact f.m))]; exact h
  have gr : ∀ b, M b → M b ∨ H b = none := fun b q => .inl q
  refine ⟨{
    keep := fun b u h q => by
      rw [upd_ne (fun z => by
        subst z
        have := f.n
        rw [h] at this; cases this)]
      exact S.keep b u h q
    alive := fun b h => by
      by_cases hb : b = a
      · rw [hb, upd_same] at h; cases h
      · rw [upd_ne hb] at h; exact S.alive b h
    m0 := S.m0
    grow := S.grow
    mok := fun b h => by
      by_cases hb : b = a
      · exact ⟨.lst xs', by rw [hb, upd_same], trivial⟩
      · obtain ⟨ys, z, y⟩ := S.mok b h
        exact ⟨ys, by rw [upd_ne hb]; exact z, y⟩
    sh := fun j d q => by
      obtain ⟨v, e2, r⟩ := S.sh j d q
      exact ⟨v, e2, r.keep kp S.mok gr⟩
    ow := fun j q es w => by
      obtain ⟨b, ys, e2, m2, o2, n2, h2, r2, l2⟩ := S.ow j q es w
      exact ⟨b, ys, e2, m2, o2, n2, by rw [upd_ne (fun y => f.no ⟨j, q, es, w, by rw [← y]; exact e2⟩)]; exact h2, r2.keep kp S.mok gr, l2⟩
    inj := S.inj
    par := S.par
    len := S.len }, f.m, f.n, ⟨xs', upd_same, r.keep kp S.mok gr⟩, l, f.no⟩
theorem SR.later (S : SR K F M env σ H) (T : SR K (MP.snap F M env σ H) M' env' σ' H') : Later M H M' H' := ⟨fun b o h q => T.keep b o h fun w => q (S.own_m w).1, T.grow⟩
theorem drop_cons {α : Type} {xs : List α} {i : Nat} (h : i < xs.length) : xs.drop i = xs[i] :: xs.drop (i + 1) := List.drop_eq_getElem_cons h
/-- behind a comprehension: its names stand as ahead of it -/
theorem SR.back (S : SR K F M env σ H) {vs : List Nat} (hk : wipeOk env vs = true) (T : SR K (MP.snap F M (wipeE env vs) (wipe σ vs) H) M' env' (wipe σ vs) H') : SR K F M' (unwipe env env' vs) σ H' := by
  have hp := S.parOut hk
  have Sw := S.forget hp
  have U := Sw.trans T
  have hl : env.length = env'.length := by rw [S.len, U.len, wipe_length]
  have get : ∀ (j : Nat) (x : Option SV), (unwipe env env' vs)[j]? = some x → (j ∈ vs ∧ env[j]? = some x) ∨ (j ∉ vs ∧ env'[j]? = some x) := fun j x e => by
    by_cases hj : j ∈ vs
    · rw [unwipe_in hl hj] at e; exact .inl ⟨hj, e⟩
    · rw [unwipe_out hj] at e; exact .inr ⟨hj, e⟩
  have own' : ∀ (j : Nat) (p : Bool) (ds : List D), (unwipe env env' vs)[j]? = some (some (SV.own p ds)) → j ∉ vs ∧ env'[j]? = some (some (SV.own p ds)) := fun j p ds e => by
    rcases get j _ e with ⟨hj, e⟩ | h
    · exact absurd e (wipeOk_in hk hj p ds)
    · exact h
  exact {
    keep := U.keep
    alive := U.alive
    m0 := U.m0
    grow := U.grow
    mok := U.mok
    sh := fun i d e => by
      rcases get i _ e with ⟨hj, e⟩ | ⟨hj, e⟩
      · obtain ⟨v, e2, r⟩ := S.sh i d e
        exact ⟨v, e2, Sw.rep T r⟩
      · obtain ⟨v, e2, r⟩ := U.sh i d e
        rw [wipe_out hj] at e2
        exact ⟨v, e2, r⟩
    ow := fun i p ds e => by
      obtain ⟨hj, e⟩ := own' i p ds e
      obtain ⟨b, ys, e2, w⟩ := U.ow i p ds e
      rw [wipe_out hj] at e2
      exact ⟨b, ys, e2, w⟩
    inj := fun i j p q ds es a e1 e2 => by
      obtain ⟨h1, e1⟩ := own' i p ds e1
      obtain ⟨h2, e2⟩ := own' j q es e2
      have := U.inj i j p q ds es a e1 e2
      rw [wipe_out h1, wipe_out h2] at this
      exact this
    par := fun ia hia => by
      have := U.par ia hia
      rw [wipe_out (hp ia hia)] at this
      rw [unwipe_out (hp ia hia)]
      exact this
    len := by rw [unwipe_len, U.len, wipe_length] }
end
end MP

set_option Elab.async false
set_option linter.all false
set_option maxRecDepth 100000
namespace MP
open PySem PySem.Spec PyProof.Rows L2 RZ
/-! ### a comprehension -/
section
variable {K : PySem.W.Frag} {mo : Nat → List Bool} {cf : CF}
def lcBody (mo : Nat → List Bool) (cf : CF) (t : Tg) (c e : ME) (vs : List Nat) (x : D) (en : En) : Option (En × List D) :=
  match tgA t x (wipeE en vs) with
  | some en1 => match tst c (evR mo cf c en1) en1 with
    | some (en2, true) => match evR mo cf e en2 with
      | some (en3, r) => some (wipeE en3 vs, [r.fz])
      | none => none
    | some (en2, false) => some (wipeE en2 vs, [])
    | none => none
  | none => none
theorem evR_lc {t : Tg} {it c e : ME} {vs : List Nat} {env env' : En} {r : RV} (h : evR mo cf (.lc t it c e vs) env = some (env', r)) :
    ∃ e1 xs e2 ds, evI mo cf it env = some (e1, xs) ∧ wipeOk e1 vs = true ∧ turns (lcBody mo cf t c e vs) xs (wipeE e1 vs) = some (e2, ds) ∧ ds.length ≤ big ∧ env' = unwipe e1 e2 vs ∧ r = .own ds := by
  simp only [evR] at h
  split at h
  case h_2 => cases h
  rename_i e1 xs h1
  split at h
  case isFalse => cases h
  rename_i h2
  split at h
  case h_2 => cases h
  rename_i e2 ds h3
  split at h
  case isFalse => cases h
  rename_i h4
  cases h
  exact ⟨e1, xs, e2, ds, h1, h2, h3, lenOk_le h4, rfl, rfl⟩
theorem turns_cons {body : D → En → Option (En × List D)} {x : D} {xs : List D} {env e2 : En} {ds : List D} (h : turns body (x :: xs) env = some (e2, ds)) :
    ∃ e1 ys zs, body x env = some (e1, ys) ∧ turns body xs e1 = some (e2, zs) ∧ ds = ys ++ zs := by
  unfold turns at h
  split at h
  case h_2 => cases h
  rename_i e1 ys h1
  split at h
  case h_2 => cases h
  rename_i e2' zs h2
  cases h
  exact ⟨e1, ys, zs, h1, h2, rfl⟩
theorem turns_nil {body : D → En → Option (En × List D)} {env e2 : En} {ds : List D} (h : turns body [] env = some (e2, ds)) : e2 = env ∧ ds = [] := by
  unfold turns at h
  cases h
  exact ⟨rfl, rfl⟩
theorem lc_read {t : Tg} {it c e : ME} {vs : List Nat} (hv : ∀ j ∈ tgs t, j ∈ vs) {σ : L2.St} {H : Hp} {Q : VK} (q : tE K mo cf (.lc t it c e vs) σ H Q) : tLc (tI K mo cf it) (tG K t) (tP K mo cf c) (tE K mo cf e) vs σ H Q := by
  obtain ⟨F, M, env, env', r, ok, S, h, q⟩ := q
  obtain ⟨e1, xs, e2, ds, h1, h2, h3, hl, rfl, rfl⟩ := evR_lc h
  refine ⟨F, M, env, e1, xs, ok, S, h1, fun M1 H1 J S1 jk A hA => ?_⟩
  have hp := S1.parOut h2
  have Sw := S1.forget hp
  have Sd := Sw.snap
  have okd := Sw.snapOk
  have hpd : ∀ ia ∈ (snap F M1 (wipeE e1 vs) (wipe σ vs) H1).P, ia.1 ∉ vs := hp
  have S2 : SR K (snap F M1 (wipeE e1 vs) (wipe σ vs) H1) (fun b => M1 b ∨ b = A) (wipeE e1 vs) (wipe σ vs) (upd H1 A (.lst [])) := Sd.upd_own hA
  have f2 : Fl1 K (snap F M1 (wipeE e1 vs) (wipe σ vs) H1) (fun b => M1 b ∨ b = A) (wipeE e1 vs) (wipe σ vs) (upd H1 A (.lst [])) A [] :=
    ⟨.inr rfl, hA, ⟨[], upd_same, .nil⟩, Nat.zero_le _, fun w => by
      obtain ⟨_, _, ys, z⟩ := Sw.own_m w
      rw [hA] at z; cases z⟩
  refine ⟨fun i m Hc => m = xs.length - i ∧ i ≤ xs.length ∧ ∃ Mc en acc rest, SR K (snap F M1 (wipeE e1 vs) (wipe σ vs) H1) Mc en (wipe σ vs) Hc ∧ Fl1 K (snap F M1 (wipeE e1 vs) (wipe σ vs) H1) Mc en (wipe σ vs) Hc A acc ∧
    turns (lcBody mo cf t c e vs) (xs.drop i) en = some (e2, rest) ∧ ds = acc ++ rest,
    ⟨xs.length, by omega, Nat.zero_le _, _, _, [], ds, S2, f2, h3, rfl⟩, ?_⟩
  rintro i m Hc ⟨rfl, hi, Mc, en, acc, rest, Sc, fc, ht, hds⟩
  have L : Later M1 H1 Mc Hc := ⟨fun b o h q => Sc.keep b o h fun w => q (Sw.own_m w).1, Sc.grow⟩
  by_cases hlt : i < xs.length
  · refine .inr ?_
    have hx : xs[i]? = some xs[i] := List.getElem?_eq_getElem hlt
    obtain ⟨go, yl⟩ := jk.go i xs[i] Mc Hc L Sc.mok hx
    refine ⟨go, fun H' => ∃ Mc en acc rest, SR K (snap F M1 (wipeE e1 vs) (wipe σ vs) H1) Mc en (wipe σ vs) H' ∧ Fl1 K (snap F M1 (wipeE e1 vs) (wipe σ vs) H1) Mc en (wipe σ vs) H' A acc ∧
      turns (lcBody mo cf t c e vs) (xs.drop (i + 1)) en = some (e2, rest) ∧ ds = acc ++ rest, fun H' p => ⟨xs.length - (i + 1), by omega, rfl, hlt, p⟩, fun x H3 y => ?_⟩
    obtain ⟨hH, rx⟩ := yl x H3 y
    rw [drop_cons hlt] at ht
    obtain ⟨en4, ys, zs, hb, hr, rfl⟩ := turns_cons ht
    have S3 : SR K (snap F M1 (wipeE e1 vs) (wipe σ vs) H1) Mc en (wipe σ vs) H3 := by
      rcases hH with rfl | ⟨p, o, hp, rfl⟩
      · exact Sc
      · exact Sc.upd_new hp
    have f3 : Fl1 K (snap F M1 (wipeE e1 vs) (wipe σ vs) H1) Mc en (wipe σ vs) H3 A acc := by
      rcases hH with rfl | ⟨p, o, hp, rfl⟩
      · exact fc
      · exact fc.upd_new Sc.mok hp
    have S4 := S3.forget hpd
    have f4 := f3.forget vs
    rw [wipe_wipe] at S4 f4
    unfold lcBody at hb
    split at hb
    case h_2 => cases hb
    rename_i en1 hg
    refine ⟨_, Mc, wipeE en vs, en1, xs[i], S4.snapOk, S4.snap, rx, hg, fun σ2 T2 k2 l2 => ⟨?_, ?_⟩⟩
    · rw [wipe_eq (b := wipe σ vs) l2 fun j hj => k2 j fun w => hj (hv j w), wipe_wipe]
    have S5 := S4.trans T2
    have f5 := f4.next S4 T2
    have hw2 : wipe σ2 vs = wipe σ vs := by rw [wipe_eq (b := wipe σ vs) l2 fun j hj => k2 j fun w => hj (hv j w), wipe_wipe]
    split at hb
    · rename_i en2 hc
      refine ⟨_, Mc, en1, en2, true, S5.snapOk, S5.snap, hc, fun M6 H6 T6 => ?_⟩
      have S6 := S5.trans T6
      have f6 := f5.next S5 T6
      dsimp only
      rw [if_pos rfl]
      split at hb
      case h_2 => cases hb
      rename_i en3 r h7
      cases hb
      refine tV_go okd S6 h7 fun M7 H7 y T7 S7 R7 => ?_
      have f7 := f6.next S6 T7
      obtain ⟨va, e7, r7⟩ := f7.at_
      have la := r7.length
      have lb := f7.l
      refine ⟨va, e7, by rw [la]; exact big_lt lb, ?_⟩
      obtain ⟨S8, f8⟩ := S7.updFl f7 (r7.append (.cons R7 .nil)) (by
        rw [hds] at hl
        rw [List.length_append, List.length_append] at hl
        rw [List.length_append]
        simp only [List.length_cons, List.length_nil] at hl ⊢
        omega)
      have S9 := S8.forget hpd
      have f9 := f8.forget vs
      rw [hw2] at S9 f9
      exact ⟨_, _, _, zs, S9, f9, hr, by rw [hds, List.append_assoc]⟩
    · rename_i en2 hc
      refine ⟨_, Mc, en1, en2, false, S5.snapOk, S5.snap, hc, fun M6 H6 T6 => ?_⟩
      have S6 := S5.trans T6
      have f6 := f5.next S5 T6
      dsimp only
      rw [if_neg Bool.false_ne_true]
      cases hb
      have S9 := S6.forget hpd
      have f9 := f6.forget vs
      rw [hw2] at S9 f9
      exact ⟨_, _, _, zs, S9, f9, hr, by rw [hds, List.nil_append]⟩
    · cases hb
  · have hi' : i = xs.length := by omega
    subst hi'
    rw [List.drop_length] at ht
    obtain ⟨rfl, rfl⟩ := turns_nil ht
    rw [List.append_nil] at hds
    subst hds
    refine .inl ⟨jk.stop _ Mc Hc L Sc.mok (Nat.le_refl _), q Mc Hc _ (S1.back h2 Sc) ⟨A, rfl, fc.m, S1.alive A fc.n, fc.at_, fc.l, fun w => ?_⟩⟩
    obtain ⟨j, p, es, e, z⟩ := w
    by_cases hj : j ∈ vs
    · rw [unwipe_in (by rw [S1.len, Sc.len, wipe_length]) hj] at e
      exact wipeOk_in h2 hj p es e
    · rw [unwipe_out hj] at e
      exact fc.no ⟨j, p, es, e, by rw [wipe_out hj]; exact z⟩
end
end MP

set_option Elab.async false
set_option linter.all false
set_option maxRecDepth 100000
namespace MP
open PySem PySem.Spec PyProof.Rows L2 RZ
/-! ### a comprehension of two clauses -/
section
variable {K : PySem.W.Frag} {mo : Nat → List Bool} {cf : CF}
theorem Later.reflB {M : Addr → Prop} {H : Hp} : Later M H M H := ⟨fun _ _ h _ => h, fun _ h => .inl h⟩
theorem Later.transB {M M1 M2 : Addr → Prop} {H H1 H2 : Hp} (a : Later M H M1 H1) (b : Later M1 H1 M2 H2) (al : ∀ b, H1 b = none → H b = none) : Later M H M2 H2 where
  k := fun x o h q => b.k x o (a.k x o h q) fun w => (a.g x w).elim q fun z => by rw [h] at z; cases z
  g := fun x w => (b.g x w).elim (a.g x) fun z => .inr (al x z)
theorem Later.stepB {F : Fr} {M M' : Addr → Prop} {env env' : En} {σ σ' : St} {H H' : Hp} (S : SR K F M env σ H) (T : SR K (snap F M env σ H) M' env' σ' H') : Later M H M' H' where
  k := fun b o h q => T.keep b o h fun w => q (S.own_m w).1
  g := T.grow
theorem Later.upd_mB {M : Addr → Prop} {H : Hp} {a : Addr} {o : HO} (m : M a) : Later M H M (upd H a o) where
  k := fun b o h q => by rw [upd_ne (fun z : b = a => q (by rw [z]; exact m))]; exact h
  g := fun _ h => .inl h
theorem Later.upd_nB {M : Addr → Prop} {H : Hp} {a : Addr} {o : HO} (n : H a = none) : Later M H M (upd H a o) where
  k := fun b o h q => by rw [upd_ne (ne_of_none h n)]; exact h
  g := fun _ h => .inl h
theorem upd_alB {H : Hp} {a : Addr} {o : HO} : ∀ b, upd H a o b = none → H b = none := fun b h => by
  by_cases z : b = a
  · subst z; rw [upd_same] at h; cases h
  · rwa [upd_ne z] at h
def lcBody2 (mo : Nat → List Bool) (cf : CF) (t : Tg) (c : ME) (t2 : Tg) (it2 c2 e : ME) (vs vs2 : List Nat) (x : D) (en : En) : Option (En × List D) :=
  match tgA t x (wipeE en vs) with
  | some en1 => match tst c (evR mo cf c en1) en1 with
    | some (en2, true) => match evI mo cf it2 en2 with
      | some (en3, ys) => match turns (lcBody mo cf t2 c2 e vs2) ys (wipeE en3 vs2) with
        | some (en4, zs) => some (wipeE en4 vs, zs)
        | none => none
      | none => none
    | some (en2, false) => some (wipeE en2 vs, [])
    | none => none
  | none => none
theorem evR_lc2 {t t2 : Tg} {it c it2 c2 e : ME} {vs vs2 : List Nat} {env env' : En} {r : RV} (h : evR mo cf (.lc2 t it c t2 it2 c2 e vs vs2) env = some (env', r)) :
    ∃ e1 xs e2 ds, evI mo cf it env = some (e1, xs) ∧ wipeOk e1 vs = true ∧ turns (lcBody2 mo cf t c t2 it2 c2 e vs vs2) xs (wipeE e1 vs) = some (e2, ds) ∧ ds.length ≤ big ∧ env' = unwipe e1 e2 vs ∧ r = .own ds := by
  simp only [evR] at h
  split at h
  case h_2 => cases h
  rename_i e1 xs h1
  split at h
  case isFalse => cases h
  rename_i h2
  split at h
  case h_2 => cases h
  rename_i e2 ds h3
  split at h
  case isFalse => cases h
  rename_i h4
  cases h
  exact ⟨e1, xs, e2, ds, h1, h2, h3, lenOk_le h4, rfl, rfl⟩
theorem lc2_read {t t2 : Tg} {it c it2 c2 e : ME} {vs vs2 : List Nat} (hv : ∀ j ∈ tgs t, j ∈ vs) (hv2 : ∀ j ∈ tgs t2, j ∈ vs2) (hvv : ∀ j ∈ vs2, j ∈ vs) {σ : L2.St} {H : Hp} {Q : VK} (q : tE K mo cf (.lc2 t it c t2 it2 c2 e vs vs2) σ H Q) : tLc2 (tI K mo cf it) (tG K t) (tP K mo cf c) (tI K mo cf it2) (tG K t2) (tP K mo cf c2) (tE K mo cf e) vs vs2 σ H Q := by
  obtain ⟨F, M, env, env', r, ok, S, h, q⟩ := q
  obtain ⟨e1, xs, e2, ds, h1, h2, h3, hl, rfl, rfl⟩ := evR_lc2 h
  refine ⟨F, M, env, e1, xs, ok, S, h1, fun M1 H1 J S1 jk A hA => ?_⟩
  have hp := S1.parOut h2
  have Sw := S1.forget hp
  have Sd := Sw.snap
  have okd := Sw.snapOk
  have hpd : ∀ ia ∈ (snap F M1 (wipeE e1 vs) (wipe σ vs) H1).P, ia.1 ∉ vs := hp
  have hpd2 : ∀ ia ∈ (snap F M1 (wipeE e1 vs) (wipe σ vs) H1).P, ia.1 ∉ vs2 := fun ia h w => hp ia h (hvv _ w)
  have S2 : SR K (snap F M1 (wipeE e1 vs) (wipe σ vs) H1) (fun b => M1 b ∨ b = A) (wipeE e1 vs) (wipe σ vs) (upd H1 A (.lst [])) := Sd.upd_own hA
  have f2 : Fl1 K (snap F M1 (wipeE e1 vs) (wipe σ vs) H1) (fun b => M1 b ∨ b = A) (wipeE e1 vs) (wipe σ vs) (upd H1 A (.lst [])) A [] :=
    ⟨.inr rfl, hA, ⟨[], upd_same, .nil⟩, Nat.zero_le _, fun w => by
      obtain ⟨_, _, ys, z⟩ := Sw.own_m w
      rw [hA] at z; cases z⟩
  refine ⟨fun i m Hc => m = xs.length - i ∧ i ≤ xs.length ∧ ∃ Mc en acc rest, SR K (snap F M1 (wipeE e1 vs) (wipe σ vs) H1) Mc en (wipe σ vs) Hc ∧ Fl1 K (snap F M1 (wipeE e1 vs) (wipe σ vs) H1) Mc en (wipe σ vs) Hc A acc ∧
    turns (lcBody2 mo cf t c t2 it2 c2 e vs vs2) (xs.drop i) en = some (e2, rest) ∧ ds = acc ++ rest,
    ⟨xs.length, by omega, Nat.zero_le _, _, _, [], ds, S2, f2, h3, rfl⟩, ?_⟩
  rintro i m Hc ⟨rfl, hi, Mc, en, acc, rest, Sc, fc, ht, hds⟩
  have L : Later M1 H1 Mc Hc := ⟨fun b o h q => Sc.keep b o h fun w => q (Sw.own_m w).1, Sc.grow⟩
  by_cases hlt : i < xs.length
  · refine .inr ?_
    have hx : xs[i]? = some xs[i] := List.getElem?_eq_getElem hlt
    obtain ⟨go, yl⟩ := jk.go i xs[i] Mc Hc L Sc.mok hx
    refine ⟨go, fun H' => ∃ Mc en acc rest, SR K (snap F M1 (wipeE e1 vs) (wipe σ vs) H1) Mc en (wipe σ vs) H' ∧ Fl1 K (snap F M1 (wipeE e1 vs) (wipe σ vs) H1) Mc en (wipe σ vs) H' A acc ∧
      turns (lcBody2 mo cf t c t2 it2 c2 e vs vs2) (xs.drop (i + 1)) en = some (e2, rest) ∧ ds = acc ++ rest, fun H' p => ⟨xs.length - (i + 1), by omega, rfl, hlt, p⟩, fun x H3 y => ?_⟩
    obtain ⟨hH, rx⟩ := yl x H3 y
    rw [drop_cons hlt] at ht
    obtain ⟨en5, ys, zs, hb, hr, rfl⟩ := turns_cons ht
    have S3 : SR K (snap F M1 (wipeE e1 vs) (wipe σ vs) H1) Mc en (wipe σ vs) H3 := by
      rcases hH with rfl | ⟨p, o, hp, rfl⟩
      · exact Sc
      · exact Sc.upd_new hp
    have f3 : Fl1 K (snap F M1 (wipeE e1 vs) (wipe σ vs) H1) Mc en (wipe σ vs) H3 A acc := by
      rcases hH with rfl | ⟨p, o, hp, rfl⟩
      · exact fc
      · exact fc.upd_new Sc.mok hp
    have S4 := S3.forget hpd
    have f4 := f3.forget vs
    rw [wipe_wipe] at S4 f4
    unfold lcBody2 at hb
    split at hb
    case h_2 => cases hb
    rename_i en1 hg
    refine ⟨_, Mc, wipeE en vs, en1, xs[i], S4.snapOk, S4.snap, rx, hg, fun σ2 T2 k2 l2 => ⟨?_, ?_⟩⟩
    · rw [wipe_eq (b := wipe σ vs) l2 fun j hj => k2 j fun w => hj (hv j w), wipe_wipe]
    have S5 := S4.trans T2
    have f5 := f4.next S4 T2
    have hw2 : wipe σ2 vs = wipe σ vs := by rw [wipe_eq (b := wipe σ vs) l2 fun j hj => k2 j fun w => hj (hv j w), wipe_wipe]
    have hw3 : wipe (wipe σ2 vs2) vs = wipe σ vs := by
      rw [wipe_eq (a := wipe σ2 vs2) (b := wipe σ vs) (by rw [wipe_length]; exact l2) fun j hj => by
        rw [wipe_out fun w => hj (hvv j w)]
        exact k2 j fun w => hj (hv j w), wipe_wipe]
    split at hb
    · rename_i en2 hc
      refine ⟨_, Mc, en1, en2, true, S5.snapOk, S5.snap, hc, fun M6 H6 T6 => ?_⟩
      have S6 := S5.trans T6
      have f6 := f5.next S5 T6
      dsimp only
      rw [if_pos rfl]
      split at hb
      case h_2 => cases hb
      rename_i en3 ws hi2
      split at hb
      case h_2 => cases hb
      rename_i en4 us ht2
      cases hb
      refine ⟨_, M6, en2, en3, ws, S6.snapOk, S6.snap, hi2, fun M7 H7 J1 T7 j1 => ?_⟩
      have S7 := (S6.trans T7).forget hpd2
      have f7 := (f6.next S6 T7).forget vs2
      refine ⟨fun j k Hc => k = ws.length - j ∧ j ≤ ws.length ∧ ∃ Mc en acc2 rest2, SR K (snap F M1 (wipeE e1 vs) (wipe σ vs) H1) Mc en (wipe σ2 vs2) Hc ∧ Fl1 K (snap F M1 (wipeE e1 vs) (wipe σ vs) H1) Mc en (wipe σ2 vs2) Hc A acc2 ∧
        turns (lcBody mo cf t2 c2 e vs2) (ws.drop j) en = some (en4, rest2) ∧ Later M7 H7 Mc Hc ∧ (∀ b, Hc b = none → H7 b = none) ∧ acc ++ ys = acc2 ++ rest2,
        ⟨ws.length, by omega, Nat.zero_le _, M7, _, acc, ys, S7, f7, ht2, .reflB, fun _ h => h, rfl⟩, ?_⟩
      rintro j k Hd ⟨rfl, hj, Md, em, acc2, rest2, Sd, fd, htd, Ld, ald, hdd⟩
      by_cases hjt : j < ws.length
      · refine .inr ?_
        have hxj : ws[j]? = some ws[j] := List.getElem?_eq_getElem hjt
        obtain ⟨go2, yl2⟩ := j1.go j ws[j] Md Hd Ld Sd.mok hxj
        refine ⟨go2, fun H' => ∃ Mc en acc2 rest2, SR K (snap F M1 (wipeE e1 vs) (wipe σ vs) H1) Mc en (wipe σ2 vs2) H' ∧ Fl1 K (snap F M1 (wipeE e1 vs) (wipe σ vs) H1) Mc en (wipe σ2 vs2) H' A acc2 ∧
          turns (lcBody mo cf t2 c2 e vs2) (ws.drop (j + 1)) en = some (en4, rest2) ∧ Later M7 H7 Mc H' ∧ (∀ b, H' b = none → H7 b = none) ∧ acc ++ ys = acc2 ++ rest2, fun H' p => ⟨ws.length - (j + 1), by omega, rfl, hjt, p⟩, fun x2 H8 y2 => ?_⟩
        obtain ⟨hH8, rx2⟩ := yl2 x2 H8 y2
        rw [drop_cons hjt] at htd
        obtain ⟨en6, ps, qs, hb2, hr2, rfl⟩ := turns_cons htd
        have S8 : SR K (snap F M1 (wipeE e1 vs) (wipe σ vs) H1) Md em (wipe σ2 vs2) H8 := by
          rcases hH8 with rfl | ⟨p, o, hp, rfl⟩
          · exact Sd
          · exact Sd.upd_new hp
        have f8 : Fl1 K (snap F M1 (wipeE e1 vs) (wipe σ vs) H1) Md em (wipe σ2 vs2) H8 A acc2 := by
          rcases hH8 with rfl | ⟨p, o, hp, rfl⟩
          · exact fd
          · exact fd.upd_new Sd.mok hp
        have L8 : Later M7 H7 Md H8 := by
          rcases hH8 with rfl | ⟨p, o, hp, rfl⟩
          · exact Ld
          · exact Ld.transB (.upd_nB hp) ald
        have al8 : ∀ b, H8 b = none → H7 b = none := by
          rcases hH8 with rfl | ⟨p, o, hp, rfl⟩
          · exact ald
          · exact fun b h => ald b (upd_alB b h)
        have S9 := S8.forget hpd2
        have f9 := f8.forget vs2
        rw [wipe_wipe] at S9 f9
        unfold lcBody at hb2
        split at hb2
        case h_2 => cases hb2
        rename_i em1 hg2
        refine ⟨_, Md, wipeE em vs2, em1, ws[j], S9.snapOk, S9.snap, rx2, hg2, fun σ3 T3 k3 l3 => ⟨?_, ?_⟩⟩
        · rw [wipe_eq (b := wipe σ2 vs2) l3 fun j hj => k3 j fun w => hj (hv2 j w), wipe_wipe]
        have Sa := S9.trans T3
        have fa := f9.next S9 T3
        have La := L8.transB (.stepB S9 T3) al8
        have ala : ∀ b, H8 b = none → H7 b = none := al8
        have hw4 : wipe σ3 vs2 = wipe σ2 vs2 := by rw [wipe_eq (b := wipe σ2 vs2) l3 fun j hj => k3 j fun w => hj (hv2 j w), wipe_wipe]
        split at hb2
        · rename_i em2 hc2
          refine ⟨_, Md, em1, em2, true, Sa.snapOk, Sa.snap, hc2, fun Mb Hb Tb => ?_⟩
          have Sb := Sa.trans Tb
          have fb := fa.next Sa Tb
          have Lb := La.transB (.stepB Sa Tb) ala
          have alb : ∀ b, Hb b = none → H7 b = none := fun b h => ala b (Tb.alive b h)
          dsimp only
          rw [if_pos rfl]
          split at hb2
          case h_2 => cases hb2
          rename_i em3 r h7
          cases hb2
          refine tV_go okd Sb h7 fun Me He y Te Se Re => ?_
          have fe := fb.next Sb Te
          have Le := Lb.transB (.stepB Sb Te) alb
          have ale : ∀ b, He b = none → H7 b = none := fun b h => alb b (Te.alive b h)
          obtain ⟨va, ea, ra⟩ := fe.at_
          have la := ra.length
          have lb := fe.l
          refine ⟨va, ea, by rw [la]; exact big_lt lb, ?_⟩
          obtain ⟨Sf, ff⟩ := Se.updFl fe (ra.append (.cons Re .nil)) (by
            rw [hds, ← List.append_assoc, hdd] at hl
            simp only [List.length_append, List.length_cons, List.length_nil] at hl ⊢
            omega)
          have Sg := Sf.forget hpd2
          have fg := ff.forget vs2
          rw [hw4] at Sg fg
          exact ⟨_, _, _, qs, Sg, fg, hr2, Le.transB (.upd_mB fe.m) ale, fun b h => ale b (upd_alB b h), by rw [hdd, List.append_assoc]⟩
        · rename_i em2 hc2
          refine ⟨_, Md, em1, em2, false, Sa.snapOk, Sa.snap, hc2, fun Mb Hb Tb => ?_⟩
          have Sb := Sa.trans Tb
          have fb := fa.next Sa Tb
          have Lb := La.transB (.stepB Sa Tb) ala
          have alb : ∀ b, Hb b = none → H7 b = none := fun b h => ala b (Tb.alive b h)
          dsimp only
          rw [if_neg Bool.false_ne_true]
          cases hb2
          have Sg := Sb.forget hpd2
          have fg := fb.forget vs2
          rw [hw4] at Sg fg
          exact ⟨_, _, _, qs, Sg, fg, hr2, Lb, alb, by rw [hdd, List.nil_append]⟩
        · cases hb2
      · have hj' : j = ws.length := by omega
        subst hj'
        rw [List.drop_length] at htd
        obtain ⟨rfl, rfl⟩ := turns_nil htd
        rw [List.append_nil] at hdd
        refine .inl ⟨j1.stop _ Md Hd Ld Sd.mok (Nat.le_refl _), ?_⟩
        have Sg := Sd.forget hpd
        have fg := fd.forget vs
        rw [hw3] at Sg fg
        exact ⟨_, _, acc2, zs, Sg, fg, hr, by rw [hds, ← hdd, List.append_assoc]⟩
    · rename_i en2 hc
      refine ⟨_, Mc, en1, en2, false, S5.snapOk, S5.snap, hc, fun M6 H6 T6 => ?_⟩
      have S6 := S5.trans T6
      have f6 := f5.next S5 T6
      dsimp only
      rw [if_neg Bool.false_ne_true]
      cases hb
      have S9 := S6.forget hpd
      have f9 := f6.forget vs
      rw [hw2] at S9 f9
      exact ⟨_, _, _, zs, S9, f9, hr, by rw [hds, List.nil_append]⟩
    · cases hb
  · have hi' : i = xs.length := by omega
    subst hi'
    rw [List.drop_length] at ht
    obtain ⟨rfl, rfl⟩ := turns_nil ht
    rw [List.append_nil] at hds
    subst hds
    refine .inl ⟨jk.stop _ Mc Hc L Sc.mok (Nat.le_refl _), q Mc Hc _ (S1.back h2 Sc) ⟨A, rfl, fc.m, S1.alive A fc.n, fc.at_, fc.l, fun w => ?_⟩⟩
    obtain ⟨j, p, es, e, z⟩ := w
    by_cases hj : j ∈ vs
    · rw [unwipe_in (by rw [S1.len, Sc.len, wipe_length]) hj] at e
      exact wipeOk_in h2 hj p es e
    · rw [unwipe_out hj] at e
      exact fc.no ⟨j, p, es, e, by rw [wipe_out hj]; exact z⟩
end
end MP

set_option Elab.async false
set_option linter.all false
set_option maxRecDepth 100000
/-! A set comprehension of two clauses. -/
namespace MP
open PySem PySem.Spec PyProof.Rows L2
section
variable {prog : Program} {w : World} {A : Around} {R : Result → Shared → Prop} {s : Shared} {elt t0 i0 t1 i1 : Expr} {ifs0 ifs1 : List Expr} {scope : Scope} {pos : Pos} {it acc : Value} {env : Env}
theorem turnS_in (elt t0 i0 t1 i1 : Expr) (ifs0 ifs1 : List Expr) (scope : Scope) (pos : Pos) (it acc : Value) (env : Env) :
    compTurn (elt.SetComp [⟨t0, i0, ifs0, 0⟩, ⟨t1, i1, ifs1, 0⟩] scope pos) 1 it acc env = (do
      standAt i1.pos
      match ← pyNext it with
      | none => pure (Fin.done Flow.next)
      | some v => do
        letOwnedTupleGo t1 it v
        assign t1 env v
        let mut ok := true
        for c in ifs1 do
          if ok then ok ← isTrue c env (eval c env)
        if ok then
          (do
            let v ← eval elt env
            standAt elt.pos
            let _ ← call (Value.builtin "set.add") [acc, v]
            pure ())
        again (Code.compLoop (elt.SetComp [⟨t0, i0, ifs0, 0⟩, ⟨t1, i1, ifs1, 0⟩] scope pos) 1 it acc env)) := rfl
theorem turnS_out (elt t0 i0 t1 i1 : Expr) (ifs0 ifs1 : List Expr) (scope : Scope) (pos : Pos) (it acc : Value) (env : Env) :
    compTurn (elt.SetComp [⟨t0, i0, ifs0, 0⟩, ⟨t1, i1, ifs1, 0⟩] scope pos) 0 it acc env = (do
      standAt i0.pos
      match ← pyNext it with
      | none => pure (Fin.done Flow.next)
      | some v => do
        letOwnedTupleGo t0 it v
        assign t0 env v
        let mut ok := true
        for c in ifs0 do
          if ok then ok ← isTrue c env (eval c env)
        if ok then do
          let x ← eval i1 env
          standAt i1.pos
          let x ← foldedSetIterable i1 env x
          let it1 ← holding [x] (pyIter x)
          let _ ← runOwn (Code.compStart (elt.SetComp [⟨t0, i0, ifs0, 0⟩, ⟨t1, i1, ifs1, 0⟩] scope pos) 1 it1 acc env) env
        again (Code.compLoop (elt.SetComp [⟨t0, i0, ifs0, 0⟩, ⟨t1, i1, ifs1, 0⟩] scope pos) 0 it acc env)) := rfl
theorem loopS_in (I : Nat → Shared → Prop) (turn : ∀ (n : Nat) (s : Shared), I n s → wpAny (model prog w) A (pyNext it) (fun r s₁ => match r with
      | none => R (.ok .next) s₁
      | some v => wpAny (model prog w) A (letOwnedTupleGo t1 it v) (fun _ s₂ => wpAny (model prog w) A (assign t1 env v) (fun _ s₃ => wpAny (model prog w) A (forIn ifs1 true fun c r => if r = true then do
          let ok ← PySem.isTrue c env (eval c env)
          pure (ForInStep.yield ok)
        else pure (ForInStep.yield r)) (fun ok s₄ => if ok = true then wpAny (model prog w) A (eval elt env) (fun x s₅ => wpAny (model prog w) A (call (.builtin "set.add") [acc, x]) (fun _ s₆ => ∃ m, m < n ∧ I m s₆) (notedBy (model prog w) A env fun e s' => R (.error e) s') s₅) (notedBy (model prog w) A env fun e s' => R (.error e) s') s₄ else ∃ m, m < n ∧ I m s₄) (notedBy (model prog w) A env fun e s' => R (.error e) s') s₃) (notedBy (model prog w) A env fun e s' => R (.error e) s') s₂) (notedBy (model prog w) A env fun e s' => R (.error e) s') s₁) (notedBy (model prog w) A env fun e s' => R (.error e) s') s) (n : Nat) (h : I n s) :
    codeAny (model prog w) A (.compLoop (elt.SetComp [⟨t0, i0, ifs0, 0⟩, ⟨t1, i1, ifs1, 0⟩] scope pos) 1 it acc env) R s := by
  refine codeAny_loop rfl I (fun n s hI => ?_) n h
  refine wpAny_noted ?_
  show wpAny _ _ (compTurn _ 1 it acc env) _ _ _
  rw [turnS_in]
  refine wpAny_bind (wpAny_standAt (wpAny_bind (wpAny_mono (turn n s hI) (fun r s₁ h₁ => ?_) fun _ _ z => z)))
  cases r with
  | none => exact wpAny_pure h₁
  | some v =>
    refine wpAny_bind (wpAny_mono h₁ (fun _ s₂ h₂ => wpAny_bind (wpAny_mono h₂ (fun _ s₃ h₃ => wpAny_bind (wpAny_mono h₃ (fun ok s₄ h₄ => ?_) fun _ _ z => z)) fun _ _ z => z)) fun _ _ z => z)
    cases ok with
    | false => exact wpAny_pure ⟨rfl, h₄⟩
    | true =>
      refine wpAny_bind (wpAny_bind (wpAny_mono h₄ (fun x s₅ h₅ => wpAny_bind (wpAny_standAt (wpAny_bind (wpAny_mono h₅ (fun _ s₆ h₆ => wpAny_pure (wpAny_pure ⟨rfl, h₆⟩)) fun _ _ z => z)))) fun _ _ z => z))
theorem startS_1 (h0 : codeAny (model prog w) A (.compLoop (elt.SetComp [⟨t0, i0, ifs0, 0⟩, ⟨t1, i1, ifs1, 0⟩] scope pos) 1 it acc env) R s)
    (h : wpAny (model prog w) A (pyIter it) (fun it' s' => codeAny (model prog w) A (.compLoop (elt.SetComp [⟨t0, i0, ifs0, 0⟩, ⟨t1, i1, ifs1, 0⟩] scope pos) 1 it' acc env) R s') (notedBy (model prog w) A env fun x s' => R (.error x) s') s) :
    codeAny (model prog w) A (.compStart (elt.SetComp [⟨t0, i0, ifs0, 0⟩, ⟨t1, i1, ifs1, 0⟩] scope pos) 1 it acc env) R s := by
  refine codeAny_of_tree ?_
  refine wpAny_notedAt ?_
  refine wpAny_bind (wpAny_askSetting (wpAny_ite ?_))
  split
  · exact wpAny_bind (wpAny_pure (wpAny_pure ⟨rfl, h0⟩))
  · exact wpAny_bind (wpAny_rule (wpAny_bind (wpAny_standAt (wpAny_bind (wpAny_mono h (fun it' s' h' => wpAny_pure ⟨rfl, h'⟩) fun _ _ z => z)))))
theorem loopS_out (hs : ∀ x : Value, foldedSetIterable i1 env x = pure x) (I : Nat → Shared → Prop) (turn : ∀ (n : Nat) (s : Shared), I n s → wpAny (model prog w) A (pyNext it) (fun r s₁ => match r with
      | none => R (.ok .next) s₁
      | some v => wpAny (model prog w) A (letOwnedTupleGo t0 it v) (fun _ s₂ => wpAny (model prog w) A (assign t0 env v) (fun _ s₃ => wpAny (model prog w) A (forIn ifs0 true fun c r => if r = true then do
          let ok ← PySem.isTrue c env (eval c env)
          pure (ForInStep.yield ok)
        else pure (ForInStep.yield r)) (fun ok s₄ => if ok = true then wpAny (model prog w) A (eval i1 env) (fun x s₅ => wpAny (model prog w) A (pyIter x) (fun it1 s₆ => codeAny (model prog w) A (.compStart (elt.SetComp [⟨t0, i0, ifs0, 0⟩, ⟨t1, i1, ifs1, 0⟩] scope pos) 1 it1 acc env) (fun r s' => match r with
            | .ok _ => ∃ m, m < n ∧ I m s'
            | .error _ => False) s₆) (notedBy (model prog w) A env fun e s' => R (.error e) s') s₅) (notedBy (model prog w) A env fun e s' => R (.error e) s') s₄ else ∃ m, m < n ∧ I m s₄) (notedBy (model prog w) A env fun e s' => R (.error e) s') s₃) (notedBy (model prog w) A env fun e s' => R (.error e) s') s₂) (notedBy (model prog w) A env fun e s' => R (.error e) s') s₁) (notedBy (model prog w) A env fun e s' => R (.error e) s') s) (n : Nat) (h : I n s) :
    codeAny (model prog w) A (.compLoop (elt.SetComp [⟨t0, i0, ifs0, 0⟩, ⟨t1, i1, ifs1, 0⟩] scope pos) 0 it acc env) R s := by
  refine codeAny_loop rfl I (fun n s hI => ?_) n h
  refine wpAny_noted ?_
  show wpAny _ _ (compTurn _ 0 it acc env) _ _ _
  rw [turnS_out]
  refine wpAny_bind (wpAny_standAt (wpAny_bind (wpAny_mono (turn n s hI) (fun r s₁ h₁ => ?_) fun _ _ z => z)))
  cases r with
  | none => exact wpAny_pure h₁
  | some v =>
    refine wpAny_bind (wpAny_mono h₁ (fun _ s₂ h₂ => wpAny_bind (wpAny_mono h₂ (fun _ s₃ h₃ => wpAny_bind (wpAny_mono h₃ (fun ok s₄ h₄ => ?_) fun _ _ z => z)) fun _ _ z => z)) fun _ _ z => z)
    cases ok with
    | false => exact wpAny_pure ⟨rfl, h₄⟩
    | true =>
      refine wpAny_bind (wpAny_mono h₄ (fun x s₅ h₅ => wpAny_bind (wpAny_standAt (wpAny_bind (wpAny_of_eq (hs x) (wpAny_bind (wpAny_holding (wpAny_mono h₅ (fun it1 s₆ h₆ => wpAny_bind (wpAny_runOwn ?_)) fun _ _ z => z))))))) fun _ _ z => z)
      show codeAny _ (Around.mark A none) _ _ _
      rw [Around.mark_none]
      exact codeAny_mono h₆ fun r s' hr => by
        cases r with
        | ok f => exact wpAny_pure ⟨rfl, hr⟩
        | error e => exact hr.elim
end
end MP

set_option Elab.async false
set_option linter.all false
set_option maxRecDepth 100000
namespace MP
open PySem PySem.Spec PyProof.Rows L2
/-! ### sets in the making: of numbers, or of texts -/
inductive Zs where
  | nos (S : Int → Bool) (n : Nat)
  | txs (S : List Str)
def ZOk (w : World) (h : Heap) (a : Addr) : Zs → Prop
  | .nos S n => SetR w h a S n
  | .txs S => TxS w h a S
def ZO (w : World) (a : Addr) (z : Zs) : HO := .ext fun h => ZOk w h a z
def z0 : Bool → Zs
  | true => .nos (fun _ => false) 0
  | false => .txs []
def ZAdd : Zs → V → Zs → Prop
  | .nos S n, .int k, z' => n + 1 < scanBound ∧ z' = .nos (fun j => S j || decide (j = k)) (if S k = true then n else n + 1)
  | .txs S, .str k, z' => S.length + 1 < scanBound ∧ z' = .txs (if k ∈ S then S else k :: S)
  | _, _, _ => False
section
variable {P : Program} {w : World} {A : Around} {E : Value → Shared → Prop} {s : Shared} {a : Addr} {S : List Str}
theorem txs_obj {h : Heap} (R : TxS w h a S) : ∃ o, h.get? a = some o := by
  obtain ⟨o, _, _, _, ho, _⟩ := R
  exact ⟨o, ho⟩
theorem setR_obj {h : Heap} {S : Int → Bool} {n : Nat} (R : SetR w h a S n) : ∃ o, h.get? a = some o := by
  obtain ⟨o, _, _, _, ho, _⟩ := R
  exact ⟨o, ho⟩
theorem zok_obj {h : Heap} {z : Zs} (R : ZOk w h a z) : ∃ o, h.get? a = some o := by
  cases z with
  | nos S n => exact setR_obj R
  | txs S => exact txs_obj R
theorem zok_at {h h' : Heap} {z : Zs} (R : ZOk w h a z) (k : ∀ o, h.get? a = some o → h'.get? a = some o) : ZOk w h' a z := by
  cases z with
  | nos S n => exact SetR.at R k
  | txs S => exact TxS.at R k
theorem zo_new {H : Hp} {h : Heap} {z : Zs} (R : ZOk w h a z) : ObjOk P w H h a (ZO w a z) := ⟨R, zok_obj R, fun _ _ p k => zok_at p k⟩
theorem zo_get {X : Cx} {pins : List (Addr × Obj)} {σ : St} {H : Hp} {z : Zs} (I : Inv X pins σ H s) (ha : H a = some (ZO X.w a z)) : ZOk X.w s.heap a z := (I.hok a _ ha).1
theorem txs_add {k : Str} {u : Tok} {Q : Value → Shared → Prop} (R : TxS w s.heap a S) (room : S.length + 1 < scanBound)
    (hQ : ∀ h', Heap.SameBut a s.heap h' → TxS w h' a (if k ∈ S then S else k :: S) → ∀ t, Q .none ⟨h', s.gens, s.drawn, t, s.os⟩) :
    wpAny (model P w) A (call (.builtin "set.add") [.ref a, .str k u]) Q E s := by
  have ty : s.TypeIs (.ref a) "set" := by
    obtain ⟨o, es, ep, t, ho, hex, hd, T⟩ := R
    exact ⟨o, ho, hex.1⟩
  refine wpAny_call_entry F.slot_set_add ty F.entry_set_add ?_ (F.args_set_add_2 _ _)
  show wpAny _ _ (Builtin.«set.add» _) _ _ _
  unfold Builtin.«set.add» Builtin.Frozenset.oneOther
  refine wpAny_bind ?_
  show wpAny _ _ (do
    let l ← Builtin.Frozenset.addrOf (.ref a)
    pure (l, Value.str k u)) _ _ _
  refine wpAny_bind (wpAny_pure (wpAny_pure (wpAny_bind ?_)))
  show wpAny _ _ (setAdd a (.str k u)) _ _ _
  unfold setAdd
  refine wpAny_holding (wpAny_bind ((strKind P w).pyHash (strKind_is P w k u) ?_))
  exact tx_add R room fun b h' sb r => wpAny_pure ⟨.none, rfl, hQ h' sb r _⟩
theorem zo_add {X : Cx} {pins : List (Addr × Obj)} {σ : St} {H : Hp} {D : Addr} {z z' : Zs} {y : V} {v : Value} {Q : Value → Shared → Prop} (I : Inv X pins σ H s) (hD : H D = some (ZO X.w D z)) (ad : ZAdd z y z') (r : RelV y v)
    (h : ∀ s', Inv X pins σ (upd H D (ZO X.w D z')) s' → Q .none s') : wpAny (model X.prog X.w) X.A (call (.builtin "set.add") [.ref D, v]) Q E s := by
  have R := zo_get I hD
  have fin : ∀ (h' : Heap) (t : Nat), Heap.SameBut D s.heap h' → ZOk X.w h' D z' → Q .none ⟨h', s.gens, s.drawn, t, s.os⟩ := fun h' t sb new =>
    h _ (Inv.write I (by rw [hD]; trivial) (.inl rfl) (fun b u hb hu => (sb.2 b hb).trans hu) (zok_obj new) (zo_new new))
  cases z with
  | nos S n => cases y with
    | int k =>
      obtain ⟨room, rfl⟩ := ad
      obtain ⟨u, rfl⟩ := r
      exact setR_add R room fun h' sb new => fin h' _ sb new
    | _ => exact ad.elim
  | txs S => cases y with
    | str k =>
      obtain ⟨room, rfl⟩ := ad
      obtain ⟨u, rfl⟩ := r
      exact txs_add R room fun h' sb new t => fin h' t sb new
    | _ => exact ad.elim
theorem zo_fresh (w : World) (b : Bool) (h : Heap) : ZOk w (h.push { cls := .type "set", data := .set #[] 0 (.fresh 0 0 (!w.params.followText "set-order")) }) h.objs.size (z0 b) := by
  cases b with
  | true => exact setR_fresh w
  | false => exact tx_fresh w (Heap.get?_push_size h rfl)
/-! ### the walk -/
def tSc2 (w : World) (wi : TI) (g : TG) (tt : TT) (wi1 : TI) (g1 : TG) (tt1 : TT) (te : TE) (vs vs1 : List Nat) : TE := fun σ H Q => wi σ H fun J H1 => ∀ D, H1 D = none → ∃ (b : Bool) (W : Nat → Nat → Hp → Prop), (∃ m, W 0 m (upd H1 D (ZO w D (z0 b)))) ∧ ∀ i m H, W i m H → (J.stop i H ∧ Q (.ref D) H) ∨ (J.go i H ∧ ∃ Nx : Hp → Prop, (∀ H', Nx H' → ∃ m', m' < m ∧ W (i + 1) m' H') ∧ ∀ x H', J.yld i H x H' → g x (wipe σ vs) H' fun σ2 H2 => wipe σ2 vs = wipe σ vs ∧ tt σ2 H2 fun b H3 => if b = true then wi1 σ2 H3 fun J1 H4 => ∃ W1 : Nat → Nat → Hp → Prop, (∃ m, W1 0 m H4) ∧ ∀ j k H, W1 j k H → (J1.stop j H ∧ Nx H) ∨ (J1.go j H ∧ ∃ Nx1 : Hp → Prop, (∀ H', Nx1 H' → ∃ k', k' < k ∧ W1 (j + 1) k' H') ∧ ∀ x H', J1.yld j H x H' → g1 x (wipe σ2 vs1) H' fun σ3 H5 => wipe σ3 vs1 = wipe σ2 vs1 ∧ tt1 σ3 H5 fun b H6 => if b = true then te σ3 H6 fun y H7 => ∃ z z', H7 D = some (ZO w D z) ∧ ZAdd z y z' ∧ Nx1 (upd H7 D (ZO w D z')) else Nx1 H6) else Nx H3)
theorem sc2_core {X : Cx} {pins : List (Addr × Obj)} {σ : St} {H : Hp} {Q : VK} {elt tg iter tg1 iter1 : Expr} {ifs ifs1 : List Expr} {scope : Scope} {own : List (Str × Nat)} {vs1 : List Nat} {pos pos' : Pos} {wi wi1 : TI} {g g1 : TG} {tt tt1 : TT} {te : TE} {use : Option (Value → Sem Unit)} {Qf : Value → Shared → Prop}
    (hc : X.calm = true) (hN : X.N.Nodup) (I : Inv X pins σ H s) (hi : PI X tg iter wi) (ok : BlkOk X.N X.env.scope scope own) (hv : ∀ i ∈ vs1, i ∈ own.map (·.2))
    (hg : ∀ (s : Shared) (H : Hp) (C : Addr) (cl : List (Str × Addr)) (fp : List Addr), PG (X.blk s H scope (compEnvC scope cl C X.env) fp) tg g)
    (ht : ∀ (s : Shared) (H : Hp) (C : Addr) (cl : List (Str × Addr)) (fp : List Addr), PTs (X.blk s H scope (compEnvC scope cl C X.env) fp) ifs tt)
    (he : ∀ (s : Shared) (H : Hp) (C : Addr) (cl : List (Str × Addr)) (fp : List Addr), PE (X.blk s H scope (compEnvC scope cl C X.env) fp) elt te)
    (hs : ∀ x : Value, foldedSetIterable iter X.env x = pure x)
    (hi1 : ∀ (s : Shared) (H : Hp) (C : Addr) (cl : List (Str × Addr)) (fp : List Addr), PI (X.blk s H scope (compEnvC scope cl C X.env) fp) tg1 iter1 wi1)
    (hg1 : ∀ (s : Shared) (H : Hp) (C : Addr) (cl : List (Str × Addr)) (fp : List Addr), PG (X.blk s H scope (compEnvC scope cl C X.env) fp) tg1 g1)
    (ht1 : ∀ (s : Shared) (H : Hp) (C : Addr) (cl : List (Str × Addr)) (fp : List Addr), PTs (X.blk s H scope (compEnvC scope cl C X.env) fp) ifs1 tt1)
    (hs1 : ∀ (env : Env) (x : Value), foldedSetIterable iter1 env x = pure x)
    (h : tSc2 X.w wi g tt wi1 g1 tt1 te (own.map (·.2)) vs1 σ H Q)
    (hRR : ∀ (D C : Addr) (s' : Shared) (m : Str → Option Value) (H' : Hp), Inv X pins σ H' s' → Q (.ref D) H' → s'.heap.Ns C m → FpOk X pins H' C → compPost (model X.prog X.w) X.A X.xe use Qf (.ref D) C (.ok .next) s') :
    wpAny (model X.prog X.w) X.A (comprehension (elt.SetComp [⟨tg, iter, ifs, 0⟩, ⟨tg1, iter1, ifs1, 0⟩] scope pos) scope X.env pos' (newSet (.type "set")) false (eval iter X.env) use) Qf X.xe s := by
  have hfree : ∀ y ∈ scope.names, y.2 = .free → ∃ c, List.lookup y.1 X.env.cells = some c := fun y hy e => by
    rcases ok.free y hy e with k | k
    · exact I.ok.has y.1 (.inl k)
    · exact I.ok.has y.1 (.inr k)
  refine wpAny_comprehension_free rfl hs (closure_ok hfree) ok.kind (fun y hy e => by rw [ok.uniq y hy, e]) (thn (hi.run pins s σ H _ I h) fun xv s1 hx => thn hx fun itv s2 h2 => ?_)
  obtain ⟨it, fp, tn, J, H2, rfl, I2, T, st2, f2, q⟩ := h2
  refine PpSet.newSet_ok ?_
  refine newEnv_comp ?_
  have hDn : H2 s2.heap.objs.size = none := HOk.fresh I2.hok (Nat.le_refl _)
  obtain ⟨b0, W, ⟨m0, w0⟩, turn⟩ := q _ hDn
  have hnew := zo_fresh X.w b0 s2.heap
  generalize ho : ({ cls := .type "set", data := .set #[] 0 (.fresh 0 0 (!X.w.params.followText "set-order")) } : Obj) = onew at *
  have I3 : Inv X pins σ (upd H2 s2.heap.objs.size (ZO X.w s2.heap.objs.size (z0 b0))) ⟨s2.heap.push onew, s2.gens, s2.drawn, s2.toks, s2.os⟩ :=
    Inv.laid I2 (fun b o e => Heap.get?_push_of_some onew e) (Nat.le_refl _) (zo_new hnew)
  generalize hDD : s2.heap.objs.size = DD at *
  have sz : ∀ b ∈ fp, b < s2.heap.objs.size := fun b hb => by
    obtain ⟨o, e, _⟩ := T.obj 0 s2.heap st2 b hb
    exact Heap.lt_size e
  have f3 : ∀ b ∈ fp, FpOk X pins (upd H2 DD (ZO X.w DD (z0 b0))) b ∧ b < (s2.heap.push onew).objs.size := fun b hb => by
    have hlt := sz b hb
    refine ⟨⟨?_, (f2 b hb).2⟩, ?_⟩
    · rw [upd_ne (by rw [← hDD]; exact Nat.ne_of_lt hlt)]
      exact (f2 b hb).1
    · rw [Heap.size_push]
      exact Nat.lt_succ_of_lt hlt
  have st3 := T.keep 0 s2.heap (s2.heap.push onew) st2 fun b _ o e => Heap.get?_push_of_some onew e
  have I4 := block_start I3 ok hN f3
  have pg := hg ⟨s2.heap.push onew, s2.gens, s2.drawn, s2.toks, s2.os⟩ (upd H2 DD (ZO X.w DD (z0 b0))) (s2.heap.push onew).objs.size (cellsFrom ((s2.heap.push onew).objs.size + 1) scope.names (cloFrom X.env.cells scope.names [])) fp
  have pt := ht ⟨s2.heap.push onew, s2.gens, s2.drawn, s2.toks, s2.os⟩ (upd H2 DD (ZO X.w DD (z0 b0))) (s2.heap.push onew).objs.size (cellsFrom ((s2.heap.push onew).objs.size + 1) scope.names (cloFrom X.env.cells scope.names [])) fp
  have pe := he ⟨s2.heap.push onew, s2.gens, s2.drawn, s2.toks, s2.os⟩ (upd H2 DD (ZO X.w DD (z0 b0))) (s2.heap.push onew).objs.size (cellsFrom ((s2.heap.push onew).objs.size + 1) scope.names (cloFrom X.env.cells scope.names [])) fp
  have pi1 := hi1 ⟨s2.heap.push onew, s2.gens, s2.drawn, s2.toks, s2.os⟩ (upd H2 DD (ZO X.w DD (z0 b0))) (s2.heap.push onew).objs.size (cellsFrom ((s2.heap.push onew).objs.size + 1) scope.names (cloFrom X.env.cells scope.names [])) fp
  have pg1 := hg1 ⟨s2.heap.push onew, s2.gens, s2.drawn, s2.toks, s2.os⟩ (upd H2 DD (ZO X.w DD (z0 b0))) (s2.heap.push onew).objs.size (cellsFrom ((s2.heap.push onew).objs.size + 1) scope.names (cloFrom X.env.cells scope.names [])) fp
  have pt1 := ht1 ⟨s2.heap.push onew, s2.gens, s2.drawn, s2.toks, s2.os⟩ (upd H2 DD (ZO X.w DD (z0 b0))) (s2.heap.push onew).objs.size (cellsFrom ((s2.heap.push onew).objs.size + 1) scope.names (cloFrom X.env.cells scope.names [])) fp
  have st4 := T.keep 0 _ (pushCells ((s2.heap.push onew).push { cls := .type "dict", data := .dict #[] }) scope.names) st3 fun b _ o e => pushCells_keeps scope.names _ b o (Heap.get?_push_of_some _ e)
  have nfp : ∀ b ∈ fp, upd H2 DD (ZO X.w DD (z0 b0)) b = none := fun b hb => (f3 b hb).1.1
  have hsz : DD < (s2.heap.push onew).objs.size := by rw [Heap.size_push, hDD]; exact Nat.lt_succ_self _
  show codeAny _ _ (Code.compStart _ 0 (.ref it) (.ref DD) (compEnvC scope (cellsFrom ((s2.heap.push onew).objs.size + 1) scope.names (cloFrom X.env.cells scope.names [])) (s2.heap.push onew).objs.size X.env)) (compPost (model X.prog X.w) X.A X.xe use Qf (.ref DD) (s2.heap.push onew).objs.size) ⟨pushCells ((s2.heap.push onew).push { cls := .type "dict", data := .dict #[] }) scope.names, s2.gens, s2.drawn, s2.toks, s2.os⟩
  have hloc : (compEnvC scope (cellsFrom ((s2.heap.push onew).objs.size + 1) scope.names (cloFrom X.env.cells scope.names [])) (s2.heap.push onew).objs.size X.env).locals = (s2.heap.push onew).objs.size := rfl
  generalize hCE : compEnvC scope (cellsFrom ((s2.heap.push onew).objs.size + 1) scope.names (cloFrom X.env.cells scope.names [])) (s2.heap.push onew).objs.size X.env = CE at *
  generalize hCC : (s2.heap.push onew).objs.size = CC at *
  generalize hS3 : (⟨s2.heap.push onew, s2.gens, s2.drawn, s2.toks, s2.os⟩ : Shared) = S3 at *
  generalize hH3 : upd H2 DD (ZO X.w DD (z0 b0)) = H3 at *
  have st4 : tn 0 (pushCells (S3.heap.push { cls := .type "dict", data := .dict #[] }) scope.names) := by rw [← hS3]; exact st4
  have stat : ∀ {σ' : St} {H' : Hp} {s' : Shared}, Inv (X.blk S3 H3 scope CE fp) [] σ' H' s' → (∀ b ∈ fp, H' b = none) → ∀ b ∈ fp, FpOk (X.blk S3 H3 scope CE fp) [] H' b := fun I' hn b hb =>
    ⟨hn b hb, (I'.ok.exf b hb).1, I'.ok.exfs b hb, .inl hb, fun x c e => (I'.ok.exf b hb).2 x c e, fun p hp => by simp at hp⟩
  have loop := loopS_out (prog := X.prog) (w := X.w) (A := X.A) (it := .ref it) (acc := .ref DD) (env := CE) (elt := elt) (t0 := tg) (i0 := iter) (t1 := tg1) (i1 := iter1) (ifs0 := ifs) (ifs1 := ifs1) (scope := scope) (pos := pos) (R := compPost (model X.prog X.w) X.A X.xe use Qf (.ref DD) CC) (hs1 CE) (fun n s' => ∃ i H', Inv (X.blk S3 H3 scope CE fp) [] (wipe σ (own.map (·.2))) H' s' ∧ tn i s'.heap ∧ (∀ b ∈ fp, H' b = none) ∧ W i n H') (fun n s5 => ?_) m0 ⟨0, H3, I4, st4, nfp, w0⟩
  · subst hS3
    exact PpSet.codeAny_compStart_set loop (T.self X.A 0 _ _ _ st4 loop)
  rintro ⟨i, H5, I5, st5, n5, w5⟩
  rcases turn i n H5 w5 with ⟨stop, qq⟩ | ⟨go, Nx, hNx, step⟩
  · refine thnF (T.done (X.blk S3 H3 scope CE fp) rfl rfl rfl hc i [] s5 _ H5 _ I5 (stat I5 n5) st5 stop) ?_
    rintro r s6 ⟨rfl, I6⟩
    have I7 := Inv.call' I3 I6.os I6.base I6.hok I6.bare fun b hb => ⟨(f3 b hb).1.2.2.2.1, (f3 b hb).1.2.1, (f3 b hb).1.2.2.2.2.1, (f3 b hb).1.2.2.2.2.2⟩
    have nC : H5 CC = none := by
      have z := I6.free
      rw [show (X.blk S3 H3 scope CE fp).env.locals = CC from hloc] at z
      exact z
    obtain ⟨m, hn, _⟩ := I6.loc
    rw [show (X.blk S3 H3 scope CE fp).env.locals = CC from hloc] at hn
    exact hRR DD CC s6 m H5 I7 qq hn (Inv.fpOk I3 (by rw [← hS3]; exact Nat.le_of_eq hCC) nC)
  · refine thnF (T.item (X.blk S3 H3 scope CE fp) rfl rfl rfl hc i [] s5 _ H5 _ I5 (stat I5 n5) st5 go) ?_
    rintro r s6 ⟨u, rfl, h6⟩
    refine thnF h6 ?_
    rintro _ s7 ⟨x, H7, I7, r7, y7, st7, n7⟩
    have I7' := Inv.pinned I7 (stat I7 n7) (T.obj (i + 1) s7.heap st7)
    refine thnF (pg.run ([] ++ pinsAt fp s7.heap) s7 (wipe σ (own.map (·.2))) H7 x u _ I7' r7 (step x H7 y7)) ?_
    rintro _ s8 ⟨σ8, H8, I8, hw8, q8⟩
    refine thnF (pt.run ([] ++ pinsAt fp s7.heap) s8 σ8 H8 _ I8 q8) ?_
    rintro b s9 ⟨H9, I9, q9⟩
    have fin : ∀ {σ9 : St} {s' : Shared} {H' : Hp}, Inv (X.blk S3 H3 scope CE fp) ([] ++ pinsAt fp s7.heap) σ9 H' s' → (wipe σ (own.map (·.2))).length = σ9.length → (∀ (j : Nat) (v : V), (wipe σ (own.map (·.2)))[j]? = some (some v) → σ9[j]? = some (some v)) → Nx H' → ∃ m, m < n ∧ ∃ i H', Inv (X.blk S3 H3 scope CE fp) [] (wipe σ (own.map (·.2))) H' s' ∧ tn i s'.heap ∧ (∀ b ∈ fp, H' b = none) ∧ W i m H' := fun {σ9 s' H'} I' hl hk nx => by
      obtain ⟨m', hm, w'⟩ := hNx H' nx
      have pin' : ∀ b ∈ fp, ∀ o, s7.heap.get? b = some o → s'.heap.get? b = some o ∧ H' b = none := fun b hb o e => by
        have z := I'.pin (b, o) (List.mem_append_right _ (List.mem_append_right [] (mem_pinsAt hb e)))
        exact ⟨z.1, z.2.1⟩
      exact ⟨m', hm, i + 1, H', Inv.weak (Inv.unpinned I') hl hk, T.keep (i + 1) s7.heap s'.heap st7 fun b hb o e => (pin' b hb o e).1, fun b hb => by
        obtain ⟨o, e, _⟩ := T.obj (i + 1) s7.heap st7 b hb
        exact (pin' b hb o e).2, w'⟩
    have hl8 : (wipe σ (own.map (·.2))).length = σ8.length := by rw [← hw8, wipe_length]
    have hk8 : ∀ (j : Nat) (v : V), (wipe σ (own.map (·.2)))[j]? = some (some v) → σ8[j]? = some (some v) := fun j v e => by
      rw [← hw8] at e
      exact (wipe_some e).1
    have hk9 : ∀ (j : Nat) (v : V), (wipe σ (own.map (·.2)))[j]? = some (some v) → (wipe σ8 vs1)[j]? = some (some v) := fun j v e => by
      rw [← hw8] at e
      obtain ⟨e1, e2⟩ := wipe_some e
      rw [wipe_out fun z => e2 (hv j z)]
      exact e1
    cases b with
    | false =>
      rw [if_neg (by decide)] at q9
      exact fin I9 hl8 hk8 q9
    | true =>
      rw [if_pos rfl] at q9
      refine thnF (pi1.run ([] ++ pinsAt fp s7.heap) s9 σ8 H9 _ I9 q9) fun xv1 s10 hx1 => thnF hx1 ?_
      rintro itv1 s11 ⟨it1, fp1, tn1, J1, H11, rfl, I11, T1, st11, f11, W1, ⟨m1, w1⟩, turn1⟩
      have stat1 : ∀ {H' : Hp}, (∀ b ∈ fp1, H' b = none) → ∀ b ∈ fp1, FpOk (X.blk S3 H3 scope CE fp) ([] ++ pinsAt fp s7.heap) H' b := fun hn b hb => ⟨hn b hb, (f11 b hb).2⟩
      have loop1 := loopS_in (prog := X.prog) (w := X.w) (A := X.A) (it := .ref it1) (acc := .ref DD) (env := CE) (elt := elt) (t0 := tg) (i0 := iter) (t1 := tg1) (i1 := iter1) (ifs0 := ifs) (ifs1 := ifs1) (scope := scope) (pos := pos) (s := s11) (R := fun r s' => match r with
        | .ok _ => ∃ m, m < n ∧ ∃ i H', Inv (X.blk S3 H3 scope CE fp) [] (wipe σ (own.map (·.2))) H' s' ∧ tn i s'.heap ∧ (∀ b ∈ fp, H' b = none) ∧ W i m H'
        | .error _ => False) (fun k s' => ∃ j H', Inv (X.blk S3 H3 scope CE fp) ([] ++ pinsAt fp s7.heap) (wipe σ8 vs1) H' s' ∧ tn1 j s'.heap ∧ (∀ b ∈ fp1, H' b = none) ∧ W1 j k H') (fun k s12 => ?_) m1 ⟨0, H11, Inv.weak I11 (wipe_length σ8 vs1) fun j v e => (wipe_some e).1, st11, fun b hb => (f11 b hb).1, w1⟩
      · exact startS_1 loop1 (T1.self X.A 0 s11 _ _ st11 loop1)
      rintro ⟨j, H12, I12, st12, n12, w12⟩
      rcases turn1 j k H12 w12 with ⟨stop1, nx1⟩ | ⟨go1, Nx1, hNx1, step1⟩
      · refine thnF (T1.done (X.blk S3 H3 scope CE fp) rfl rfl rfl hc j _ s12 _ H12 _ I12 (stat1 n12) st12 stop1) ?_
        rintro r s13 ⟨rfl, I13⟩
        exact fin I13 (by rw [hl8, wipe_length]) hk9 nx1
      · refine thnF (T1.item (X.blk S3 H3 scope CE fp) rfl rfl rfl hc j _ s12 _ H12 _ I12 (stat1 n12) st12 go1) ?_
        rintro r s13 ⟨u1, rfl, h13⟩
        refine thnF h13 ?_
        rintro _ s14 ⟨x1, H14, I14, r14, y14, st14, n14⟩
        have I14' := Inv.pinned I14 (stat1 n14) (T1.obj (j + 1) s14.heap st14)
        refine thnF (pg1.run _ s14 (wipe σ8 vs1) H14 x1 u1 _ I14' r14 (step1 x1 H14 y14)) ?_
        rintro _ s15 ⟨σ15, H15, I15, hw15, q15⟩
        refine thnF (pt1.run _ s15 σ15 H15 _ I15 q15) ?_
        rintro b1 s16 ⟨H16, I16, q16⟩
        have fin1 : ∀ {s' : Shared} {H' : Hp}, Inv (X.blk S3 H3 scope CE fp) ([] ++ pinsAt fp s7.heap ++ pinsAt fp1 s14.heap) σ15 H' s' → Nx1 H' → ∃ m, m < k ∧ ∃ j H', Inv (X.blk S3 H3 scope CE fp) ([] ++ pinsAt fp s7.heap) (wipe σ8 vs1) H' s' ∧ tn1 j s'.heap ∧ (∀ b ∈ fp1, H' b = none) ∧ W1 j m H' := fun {s' H'} I' nx => by
          obtain ⟨m', hm, w'⟩ := hNx1 H' nx
          have pin' : ∀ b ∈ fp1, ∀ o, s14.heap.get? b = some o → s'.heap.get? b = some o ∧ H' b = none := fun b hb o e => by
            have z := I'.pin (b, o) (List.mem_append_right _ (List.mem_append_right _ (mem_pinsAt hb e)))
            exact ⟨z.1, z.2.1⟩
          exact ⟨m', hm, j + 1, H', Inv.weak (Inv.unpinned I') (by rw [← hw15, wipe_length]) (fun j v e => by
            rw [← hw15] at e
            exact (wipe_some e).1), T1.keep (j + 1) s14.heap s'.heap st14 fun b hb o e => (pin' b hb o e).1, fun b hb => by
            obtain ⟨o, e, _⟩ := T1.obj (j + 1) s14.heap st14 b hb
            exact (pin' b hb o e).2, w'⟩
        cases b1 with
        | false =>
          rw [if_neg (by decide)] at q16
          exact fin1 I16 q16
        | true =>
          rw [if_pos rfl] at q16
          refine thnF (pe.run _ s16 σ15 H16 _ I16 q16) ?_
          rintro v s17 ⟨y, H17, I17, r17, z, z', hD17, ad, nx⟩
          exact zo_add (X := X.blk S3 H3 scope CE fp) I17 hD17 ad r17 fun s18 I18 => fin1 I18 nx
end
end MP

set_option Elab.async false
set_option linter.all false
set_option maxRecDepth 100000
namespace MP
open PySem PySem.Spec PyProof.Rows L2 RZ
section
variable {K : PySem.W.Frag} {mo : Nat → List Bool} {cf : CF} {F : Fr} {M M' : Addr → Prop} {env env' : En} {σ σ' : St} {H H' : Hp}
/-! ### what a set in the making holds -/
/-- all numbers, few of them; or all texts -/
def Kd : Bool → List D → Prop
  | true, ds => allI ds = true ∧ (dedup ds).length < 62
  | false, ds => allS ds = true ∧ ds.length < 3000
def ZRel : Bool → Zs → List D → Prop
  | true, .nos S n, ds => ∃ ns : List Int, ds = ns.map D.int ∧ (∀ k, S k = true ↔ k ∈ ns) ∧ n = (dedupI ns).length
  | false, .txs S, ds => ∃ ns : List (List Nat), ds = ns.map D.str ∧ (∀ x ∈ ns, okS x = true ∧ x.length ≤ big) ∧ Met (ns.map str0) S (ns.map str0).length
  | _, _, _ => False
theorem zrel_nil : ∀ kd : Bool, ZRel kd (z0 kd) []
  | true => ⟨[], rfl, fun k => by simp, rfl⟩
  | false => ⟨[], rfl, fun x h => (List.not_mem_nil h).elim, Nat.zero_le _, fun k => by simp [Met]⟩
theorem kind_of {ds : List D} {r : RV} (h : biD .sortedset [.lst ds] = some r) (ht : (allS ds || allI ds) = true) : ∃ kd, Kd kd ds := by
  cases ds with
  | nil => exact ⟨false, rfl, by decide⟩
  | cons d ds =>
    rcases Bool.or_eq_true_iff.mp ht with s | i
    · have nt : allT (d :: ds) = false := by cases d <;> first | rfl | (simp [allS] at s)
      have ni : allI (d :: ds) = false := by cases d <;> first | rfl | (simp [allS] at s)
      unfold biD at h
      simp only [nt, ni, Bool.false_and, Bool.false_eq_true, if_false] at h
      split at h
      · rename_i z
        rw [Bool.and_eq_true, decide_eq_true_eq] at z
        exact ⟨false, z⟩
      · cases h
    · have nt : allT (d :: ds) = false := by cases d <;> first | rfl | (simp [allI] at i)
      have ni : allS (d :: ds) = false := by cases d <;> first | rfl | (simp [allI] at i)
      unfold biD at h
      simp only [nt, ni, Bool.false_and, Bool.false_eq_true, if_false] at h
      split at h
      · rename_i z
        rw [Bool.and_eq_true, Bool.and_eq_true, decide_eq_true_eq] at z
        exact ⟨true, z.1⟩
      · cases h
theorem nodup_len {l m : List Int} (h : l.Nodup) (s : ∀ x ∈ l, x ∈ m) : l.length ≤ m.length := nodup_sub_len h s
theorem zrel_add {kd : Bool} {z : Zs} {acc rest : List D} {y : V} {d : D} (hk : Kd kd (acc ++ [d] ++ rest)) (rz : ZRel kd z acc) (R : Rep K M H y d) : ∃ z', ZAdd z y z' ∧ ZRel kd z' (acc ++ [d]) := by
  cases kd with
  | true =>
    cases z with
    | txs S => exact rz.elim
    | nos S n =>
      obtain ⟨ns, rfl, m, rfl⟩ := rz
      obtain ⟨ai, few⟩ := hk
      obtain ⟨ms, e⟩ := allI_map ai
      have hd : ∃ i, d = .int i := by
        have : d ∈ ms.map D.int := by rw [← e]; simp
        obtain ⟨i, _, rfl⟩ := List.mem_map.mp this
        exact ⟨i, rfl⟩
      obtain ⟨i, rfl⟩ := hd
      cases R
      have cnt : (if S i = true then (dedupI ns).length else (dedupI ns).length + 1) = (dedupI (ns ++ [i])).length := by
        have p1 : ∀ k, k ∈ dedupI (ns ++ [i]) ↔ k ∈ ns ∨ k = i := fun k => by rw [dedupI_mem, List.mem_append, List.mem_singleton]
        by_cases hi : i ∈ ns
        · rw [if_pos ((m i).mpr hi)]
          refine ((List.perm_ext_iff_of_nodup (dedupI_nodup ns) (dedupI_nodup _)).mpr fun k => ?_).length_eq
          rw [p1, dedupI_mem]
          exact ⟨.inl, fun z => z.elim id fun z => z ▸ hi⟩
        · rw [if_neg fun z => hi ((m i).mp z)]
          have nd : (i :: dedupI ns).Nodup := List.nodup_cons.mpr ⟨fun z => hi ((dedupI_mem ns i).mp z), dedupI_nodup ns⟩
          have := ((List.perm_ext_iff_of_nodup nd (dedupI_nodup (ns ++ [i]))).mpr fun k => by
            rw [p1, List.mem_cons, dedupI_mem]
            exact or_comm).length_eq
          rw [← this]; rfl
      have le : (dedupI (ns ++ [i])).length ≤ (dedupI ms).length := nodup_len (dedupI_nodup _) fun x hx => by
        rw [dedupI_mem] at hx ⊢
        have : D.int x ∈ ms.map D.int := by
          rw [← e]
          refine List.mem_append_left _ ?_
          rw [List.mem_append] at hx ⊢
          rcases hx with h | h
          · exact .inl (List.mem_map_of_mem h)
          · rw [List.mem_singleton] at h
            rw [h]
            exact .inr (List.mem_singleton.mpr rfl)
        obtain ⟨x', h, q⟩ := List.mem_map.mp this
        cases q
        exact h
      rw [e, dedup_int, List.length_map] at few
      refine ⟨_, ⟨?_, rfl⟩, ns ++ [i], by rw [List.map_append]; rfl, fun k => ?_, cnt⟩
      · have : (dedupI ns).length ≤ (dedupI (ns ++ [i])).length := by rw [← cnt]; split <;> omega
        unfold scanBound
        omega
      · rw [Bool.or_eq_true, decide_eq_true_eq, m, List.mem_append, List.mem_singleton]
  | false =>
    cases z with
    | nos S n => exact rz.elim
    | txs S =>
      obtain ⟨ns, rfl, ok, mt⟩ := rz
      obtain ⟨as, few⟩ := hk
      obtain ⟨ms, e⟩ := allS_map as
      have hd : ∃ s, d = .str s := by
        have : d ∈ ms.map D.str := by rw [← e]; simp
        obtain ⟨s, _, rfl⟩ := List.mem_map.mp this
        exact ⟨s, rfl⟩
      obtain ⟨s, rfl⟩ := hd
      cases R with
      | str _ h1 h2 =>
      rw [List.length_append, List.length_append, List.length_map] at few
      refine ⟨_, ⟨?_, rfl⟩, ns ++ [s], by rw [List.map_append]; rfl, fun x hx => ?_, ?_⟩
      · have := mt.1
        rw [List.length_map] at this
        unfold scanBound
        omega
      · rcases List.mem_append.mp hx with z | z
        · exact ok x z
        · rw [List.mem_singleton.mp z]; exact ⟨h1, h2⟩
      · rw [List.map_append]
        have hx : (ns.map str0 ++ [s].map str0)[(ns.map str0).length]? = some (str0 s) := by
          rw [List.getElem?_append_right (Nat.le_refl _), Nat.sub_self]; rfl
        have m2 : Met (ns.map str0 ++ [s].map str0) S (ns.map str0).length := ⟨mt.1, fun k => by
          have := mt.2 k
          rw [List.take_length] at this
          rw [this, List.take_left']
          rfl⟩
        have := m2.next hx
        rwa [show (ns.map str0).length + 1 = (ns.map str0 ++ [s].map str0).length by rw [List.length_append]; rfl] at this
/-- a set that no slot holds -/
structure Fz (w : World) (kd : Bool) (F : Fr) (M : Addr → Prop) (env : En) (σ : St) (H : Hp) (a : Addr) (ds : List D) : Prop where
  m : M a
  n : F.H0 a = none
  at_ : ∃ z, H a = some (ZO w a z) ∧ ZRel kd z ds
  no : ¬ Own env σ a
variable {w : World} {kd : Bool}
theorem Fz.next {a : Addr} {ds : List D} (S : SR K F M env σ H) (h : Fz w kd F M env σ H a ds) (T : SR K (MP.snap F M env σ H) M' env' σ' H') : Fz w kd F M' env' σ' H' a ds := by
  obtain ⟨z, e, r⟩ := h.at_
  refine ⟨T.m0 a ⟨h.m, fun ⟨i, ds, e, q⟩ => h.no ⟨i, false, ds, e, q⟩⟩, h.n, ⟨z, T.keep a _ e h.no, r⟩, fun ⟨i, p, es, e1, e2⟩ => ?_⟩
  obtain ⟨b, ys, e3, m, o, _⟩ := T.ow i p es e1
  rw [e2] at e3
  cases e3
  rcases o with o | o
  · exact h.no o
  · have : H a = none := o
    rw [e] at this; cases this
theorem Fz.forget {a : Addr} {ds : List D} (f : Fz w kd F M env σ H a ds) (vs : List Nat) : Fz w kd F M (wipeE env vs) (wipe σ vs) H a ds := ⟨f.m, f.n, f.at_, fun ⟨i, p, es, e, q⟩ => by
  obtain ⟨e, hi⟩ := wipeE_some e
  rw [wipe_out hi] at q
  exact f.no ⟨i, p, es, e, q⟩⟩
theorem Fz.upd_new {a p : Addr} {o : HO} {ds : List D} (_ : MOk M H) (f : Fz w kd F M env σ H a ds) (hp : H p = none) : Fz w kd F M env σ (upd H p o) a ds := by
  obtain ⟨z, e, r⟩ := f.at_
  exact ⟨f.m, f.n, ⟨z, by rw [upd_ne (ne_of_none e hp)]; exact e, r⟩, f.no⟩
theorem SR.updFz (S : SR K F M env σ H) {a : Addr} {ds ds' : List D} {z' : Zs} (f : Fz w kd F M env σ H a ds) (r : ZRel kd z' ds') :
    SR K F M env σ (upd H a (ZO w a z')) ∧ Fz w kd F M env σ (upd H a (ZO w a z')) a ds' := by
  have kp : ∀ b u, H b = some u → ¬ M b → upd H a (ZO w a z') b = some u := fun b u h q => by
    rw [upd_ne (fun z => q (by rw [z]; exact f.m))]; exact h
  have gr : ∀ b, M b → M b ∨ H b = none := fun b q => .inl q
  obtain ⟨z, ez, _⟩ := f.at_
  refine ⟨{
    keep := fun b u h q => by
      rw [upd_ne (fun y : b = a => by rw [y, f.n] at h; cases h)]
      exact S.keep b u h q
    alive := fun b h => by
      by_cases hb : b = a
      · rw [hb, upd_same] at h; cases h
      · rw [upd_ne hb] at h; exact S.alive b h
    m0 := S.m0
    grow := S.grow
    mok := fun b h => by
      by_cases hb : b = a
      · exact ⟨ZO w a z', by rw [hb, upd_same], trivial⟩
      · obtain ⟨ys, z, y⟩ := S.mok b h
        exact ⟨ys, by rw [upd_ne hb]; exact z, y⟩
    sh := fun j d q => by
      obtain ⟨v, e2, r⟩ := S.sh j d q
      exact ⟨v, e2, r.keep kp S.mok gr⟩
    ow := fun j q es w => by
      obtain ⟨b, ys, e2, m2, o2, n2, h2, r2, l2⟩ := S.ow j q es w
      exact ⟨b, ys, e2, m2, o2, n2, by rw [upd_ne (fun y => f.no ⟨j, q, es, w, by rw [← y]; exact e2⟩)]; exact h2, r2.keep kp S.mok gr, l2⟩
    inj := S.inj
    par := S.par
    len := S.len }, f.m, f.n, ⟨z', upd_same, r⟩, f.no⟩
/-- what is left of it: sorted, it is the result -/
def SsQ (K : PySem.W.Frag) (w : World) (Q : VK) : VK := fun v H => ∃ (A : Addr) (z : Zs) (kd : Bool) (ds : List D) (r : RV), v = .ref A ∧ H A = some (ZO w A z) ∧ ZRel kd z ds ∧ Kd kd ds ∧ biD .sortedset [.lst ds] = some r ∧ ∀ H' v', (∀ M, New K M H v' H' r) → Q v' H'
theorem evR_ss2 {t t2 : Tg} {it c it2 c2 e : ME} {vs vs2 : List Nat} {env env' : En} {r : RV} (h : evR mo cf (.ss2 t it c t2 it2 c2 e vs vs2) env = some (env', r)) :
    ∃ e1 xs e2 ds, evI mo cf it env = some (e1, xs) ∧ wipeOk e1 vs = true ∧ turns (lcBody2 mo cf t c t2 it2 c2 e vs vs2) xs (wipeE e1 vs) = some (e2, ds) ∧ (allS ds || allI ds) = true ∧ env' = unwipe e1 e2 vs ∧ biD .sortedset [.lst ds] = some r := by
  simp only [evR] at h
  split at h
  case h_2 => cases h
  rename_i e1 xs h1
  split at h
  case isFalse => cases h
  rename_i h2
  split at h
  case h_2 => cases h
  rename_i e2 ds h3
  split at h
  case isFalse => cases h
  rename_i h4
  split at h
  case h_2 => cases h
  rename_i r' h5
  cases h
  rw [Bool.and_eq_true] at h4
  exact ⟨e1, xs, e2, ds, h1, h2, h3, h4.2, rfl, h5⟩
theorem ss2_read {w : World} {t t2 : Tg} {it c it2 c2 e : ME} {vs vs2 : List Nat} (hv : ∀ j ∈ tgs t, j ∈ vs) (hv2 : ∀ j ∈ tgs t2, j ∈ vs2) (hvv : ∀ j ∈ vs2, j ∈ vs) {σ : L2.St} {H : Hp} {Q : VK} (q : tE K mo cf (.ss2 t it c t2 it2 c2 e vs vs2) σ H Q) : tSc2 w (tI K mo cf it) (tG K t) (tP K mo cf c) (tI K mo cf it2) (tG K t2) (tP K mo cf c2) (tE K mo cf e) vs vs2 σ H (SsQ K w Q) := by
  obtain ⟨F, M, env, env', r, ok, S, h, q⟩ := q
  obtain ⟨e1, xs, e2, ds, h1, h2, h3, hl, rfl, hbi⟩ := evR_ss2 h
  obtain ⟨kd, hkd⟩ := kind_of hbi hl
  refine ⟨F, M, env, e1, xs, ok, S, h1, fun M1 H1 J S1 jk A hA => ?_⟩
  have hp := S1.parOut h2
  have Sw := S1.forget hp
  have Sd := Sw.snap
  have okd := Sw.snapOk
  have hpd : ∀ ia ∈ (snap F M1 (wipeE e1 vs) (wipe σ vs) H1).P, ia.1 ∉ vs := hp
  have hpd2 : ∀ ia ∈ (snap F M1 (wipeE e1 vs) (wipe σ vs) H1).P, ia.1 ∉ vs2 := fun ia h w => hp ia h (hvv _ w)
  have S2 : SR K (snap F M1 (wipeE e1 vs) (wipe σ vs) H1) (fun b => M1 b ∨ b = A) (wipeE e1 vs) (wipe σ vs) (upd H1 A (ZO w A (z0 kd))) := Sd.upd_ownO hA trivial
  have f2 : Fz w kd (snap F M1 (wipeE e1 vs) (wipe σ vs) H1) (fun b => M1 b ∨ b = A) (wipeE e1 vs) (wipe σ vs) (upd H1 A (ZO w A (z0 kd))) A [] :=
    ⟨.inr rfl, hA, ⟨z0 kd, upd_same, zrel_nil kd⟩, fun ow => by
      obtain ⟨_, _, ys, z⟩ := Sw.own_m ow
      rw [hA] at z; cases z⟩
  refine ⟨kd, fun i m Hc => m = xs.length - i ∧ i ≤ xs.length ∧ ∃ Mc en acc rest, SR K (snap F M1 (wipeE e1 vs) (wipe σ vs) H1) Mc en (wipe σ vs) Hc ∧ Fz w kd (snap F M1 (wipeE e1 vs) (wipe σ vs) H1) Mc en (wipe σ vs) Hc A acc ∧
    turns (lcBody2 mo cf t c t2 it2 c2 e vs vs2) (xs.drop i) en = some (e2, rest) ∧ ds = acc ++ rest,
    ⟨xs.length, by omega, Nat.zero_le _, _, _, [], ds, S2, f2, h3, rfl⟩, ?_⟩
  rintro i m Hc ⟨rfl, hi, Mc, en, acc, rest, Sc, fc, ht, hds⟩
  have L : Later M1 H1 Mc Hc := ⟨fun b o h q => Sc.keep b o h fun ow => q (Sw.own_m ow).1, Sc.grow⟩
  by_cases hlt : i < xs.length
  · refine .inr ?_
    have hx : xs[i]? = some xs[i] := List.getElem?_eq_getElem hlt
    obtain ⟨go, yl⟩ := jk.go i xs[i] Mc Hc L Sc.mok hx
    refine ⟨go, fun H' => ∃ Mc en acc rest, SR K (snap F M1 (wipeE e1 vs) (wipe σ vs) H1) Mc en (wipe σ vs) H' ∧ Fz w kd (snap F M1 (wipeE e1 vs) (wipe σ vs) H1) Mc en (wipe σ vs) H' A acc ∧
      turns (lcBody2 mo cf t c t2 it2 c2 e vs vs2) (xs.drop (i + 1)) en = some (e2, rest) ∧ ds = acc ++ rest, fun H' p => ⟨xs.length - (i + 1), by omega, rfl, hlt, p⟩, fun x H3 y => ?_⟩
    obtain ⟨hH, rx⟩ := yl x H3 y
    rw [drop_cons hlt] at ht
    obtain ⟨en5, ys, zs, hb, hr, rfl⟩ := turns_cons ht
    have S3 : SR K (snap F M1 (wipeE e1 vs) (wipe σ vs) H1) Mc en (wipe σ vs) H3 := by
      rcases hH with rfl | ⟨p, o, hp, rfl⟩
      · exact Sc
      · exact Sc.upd_new hp
    have f3 : Fz w kd (snap F M1 (wipeE e1 vs) (wipe σ vs) H1) Mc en (wipe σ vs) H3 A acc := by
      rcases hH with rfl | ⟨p, o, hp, rfl⟩
      · exact fc
      · exact fc.upd_new Sc.mok hp
    have S4 := S3.forget hpd
    have f4 := f3.forget vs
    rw [wipe_wipe] at S4 f4
    unfold lcBody2 at hb
    split at hb
    case h_2 => cases hb
    rename_i en1 hg
    refine ⟨_, Mc, wipeE en vs, en1, xs[i], S4.snapOk, S4.snap, rx, hg, fun σ2 T2 k2 l2 => ⟨?_, ?_⟩⟩
    · rw [wipe_eq (b := wipe σ vs) l2 fun j hj => k2 j fun w => hj (hv j w), wipe_wipe]
    have S5 := S4.trans T2
    have f5 := f4.next S4 T2
    have hw2 : wipe σ2 vs = wipe σ vs := by rw [wipe_eq (b := wipe σ vs) l2 fun j hj => k2 j fun w => hj (hv j w), wipe_wipe]
    have hw3 : wipe (wipe σ2 vs2) vs = wipe σ vs := by
      rw [wipe_eq (a := wipe σ2 vs2) (b := wipe σ vs) (by rw [wipe_length]; exact l2) fun j hj => by
        rw [wipe_out fun w => hj (hvv j w)]
        exact k2 j fun w => hj (hv j w), wipe_wipe]
    split at hb
    · rename_i en2 hc
      refine ⟨_, Mc, en1, en2, true, S5.snapOk, S5.snap, hc, fun M6 H6 T6 => ?_⟩
      have S6 := S5.trans T6
      have f6 := f5.next S5 T6
      dsimp only
      rw [if_pos rfl]
      split at hb
      case h_2 => cases hb
      rename_i en3 ws hi2
      split at hb
      case h_2 => cases hb
      rename_i en4 us ht2
      cases hb
      refine ⟨_, M6, en2, en3, ws, S6.snapOk, S6.snap, hi2, fun M7 H7 J1 T7 j1 => ?_⟩
      have S7 := (S6.trans T7).forget hpd2
      have f7 := (f6.next S6 T7).forget vs2
      refine ⟨fun j k Hc => k = ws.length - j ∧ j ≤ ws.length ∧ ∃ Mc en acc2 rest2, SR K (snap F M1 (wipeE e1 vs) (wipe σ vs) H1) Mc en (wipe σ2 vs2) Hc ∧ Fz w kd (snap F M1 (wipeE e1 vs) (wipe σ vs) H1) Mc en (wipe σ2 vs2) Hc A acc2 ∧
        turns (lcBody mo cf t2 c2 e vs2) (ws.drop j) en = some (en4, rest2) ∧ Later M7 H7 Mc Hc ∧ (∀ b, Hc b = none → H7 b = none) ∧ acc ++ ys = acc2 ++ rest2,
        ⟨ws.length, by omega, Nat.zero_le _, M7, _, acc, ys, S7, f7, ht2, .reflB, fun _ h => h, rfl⟩, ?_⟩
      rintro j k Hd ⟨rfl, hj, Md, em, acc2, rest2, Sd, fd, htd, Ld, ald, hdd⟩
      by_cases hjt : j < ws.length
      · refine .inr ?_
        have hxj : ws[j]? = some ws[j] := List.getElem?_eq_getElem hjt
        obtain ⟨go2, yl2⟩ := j1.go j ws[j] Md Hd Ld Sd.mok hxj
        refine ⟨go2, fun H' => ∃ Mc en acc2 rest2, SR K (snap F M1 (wipeE e1 vs) (wipe σ vs) H1) Mc en (wipe σ2 vs2) H' ∧ Fz w kd (snap F M1 (wipeE e1 vs) (wipe σ vs) H1) Mc en (wipe σ2 vs2) H' A acc2 ∧
          turns (lcBody mo cf t2 c2 e vs2) (ws.drop (j + 1)) en = some (en4, rest2) ∧ Later M7 H7 Mc H' ∧ (∀ b, H' b = none → H7 b = none) ∧ acc ++ ys = acc2 ++ rest2, fun H' p => ⟨ws.length - (j + 1), by omega, rfl, hjt, p⟩, fun x2 H8 y2 => ?_⟩
        obtain ⟨hH8, rx2⟩ := yl2 x2 H8 y2
        rw [drop_cons hjt] at htd
        obtain ⟨en6, ps, qs, hb2, hr2, rfl⟩ := turns_cons htd
        have S8 : SR K (snap F M1 (wipeE e1 vs) (wipe σ vs) H1) Md em (wipe σ2 vs2) H8 := by
          rcases hH8 with rfl | ⟨p, o, hp, rfl⟩
          · exact Sd
          · exact Sd.upd_new hp
        have f8 : Fz w kd (snap F M1 (wipeE e1 vs) (wipe σ vs) H1) Md em (wipe σ2 vs2) H8 A acc2 := by
          rcases hH8 with rfl | ⟨p, o, hp, rfl⟩
          · exact fd
          · exact fd.upd_new Sd.mok hp
        have L8 : Later M7 H7 Md H8 := by
          rcases hH8 with rfl | ⟨p, o, hp, rfl⟩
          · exact Ld
          · exact Ld.transB (.upd_nB hp) ald
        have al8 : ∀ b, H8 b = none → H7 b = none := by
          rcases hH8 with rfl | ⟨p, o, hp, rfl⟩
          · exact ald
          · exact fun b h => ald b (upd_alB b h)
        have S9 := S8.forget hpd2
        have f9 := f8.forget vs2
        rw [wipe_wipe] at S9 f9
        unfold lcBody at hb2
        split at hb2
        case h_2 => cases hb2
        rename_i em1 hg2
        refine ⟨_, Md, wipeE em vs2, em1, ws[j], S9.snapOk, S9.snap, rx2, hg2, fun σ3 T3 k3 l3 => ⟨?_, ?_⟩⟩
        · rw [wipe_eq (b := wipe σ2 vs2) l3 fun j hj => k3 j fun w => hj (hv2 j w), wipe_wipe]
        have Sa := S9.trans T3
        have fa := f9.next S9 T3
        have La := L8.transB (.stepB S9 T3) al8
        have ala : ∀ b, H8 b = none → H7 b = none := al8
        have hw4 : wipe σ3 vs2 = wipe σ2 vs2 := by rw [wipe_eq (b := wipe σ2 vs2) l3 fun j hj => k3 j fun w => hj (hv2 j w), wipe_wipe]
        split at hb2
        · rename_i em2 hc2
          refine ⟨_, Md, em1, em2, true, Sa.snapOk, Sa.snap, hc2, fun Mb Hb Tb => ?_⟩
          have Sb := Sa.trans Tb
          have fb := fa.next Sa Tb
          have Lb := La.transB (.stepB Sa Tb) ala
          have alb : ∀ b, Hb b = none → H7 b = none := fun b h => ala b (Tb.alive b h)
          dsimp only
          rw [if_pos rfl]
          split at hb2
          case h_2 => cases hb2
          rename_i em3 r h7
          cases hb2
          refine tV_go okd Sb h7 fun Me He y Te Se Re => ?_
          have fe := fb.next Sb Te
          have Le := Lb.transB (.stepB Sb Te) alb
          have ale : ∀ b, He b = none → H7 b = none := fun b h => alb b (Te.alive b h)
          obtain ⟨z, ez, rz⟩ := fe.at_
          have hsub : acc2 ++ [r.fz] ++ (qs ++ zs) = ds := by
            rw [hds, ← List.append_assoc acc ys zs, hdd]
            simp only [List.append_assoc]
          obtain ⟨z', ad, rz'⟩ := zrel_add (hsub ▸ hkd) rz Re
          refine ⟨z, z', ez, ad, ?_⟩
          obtain ⟨Sf, ff⟩ := Se.updFz fe (z' := z') rz'
          have Sg := Sf.forget hpd2
          have fg := ff.forget vs2
          rw [hw4] at Sg fg
          exact ⟨_, _, _, qs, Sg, fg, hr2, Le.transB (.upd_mB fe.m) ale, fun b h => ale b (upd_alB b h), by rw [hdd, List.append_assoc]⟩
        · rename_i em2 hc2
          refine ⟨_, Md, em1, em2, false, Sa.snapOk, Sa.snap, hc2, fun Mb Hb Tb => ?_⟩
          have Sb := Sa.trans Tb
          have fb := fa.next Sa Tb
          have Lb := La.transB (.stepB Sa Tb) ala
          have alb : ∀ b, Hb b = none → H7 b = none := fun b h => ala b (Tb.alive b h)
          dsimp only
          rw [if_neg Bool.false_ne_true]
          cases hb2
          have Sg := Sb.forget hpd2
          have fg := fb.forget vs2
          rw [hw4] at Sg fg
          exact ⟨_, _, _, qs, Sg, fg, hr2, Lb, alb, by rw [hdd, List.nil_append]⟩
        · cases hb2
      · have hj' : j = ws.length := by omega
        subst hj'
        rw [List.drop_length] at htd
        obtain ⟨rfl, rfl⟩ := turns_nil htd
        rw [List.append_nil] at hdd
        refine .inl ⟨j1.stop _ Md Hd Ld Sd.mok (Nat.le_refl _), ?_⟩
        have Sg := Sd.forget hpd
        have fg := fd.forget vs
        rw [hw3] at Sg fg
        exact ⟨_, _, acc2, zs, Sg, fg, hr, by rw [hds, ← hdd, List.append_assoc]⟩
    · rename_i en2 hc
      refine ⟨_, Mc, en1, en2, false, S5.snapOk, S5.snap, hc, fun M6 H6 T6 => ?_⟩
      have S6 := S5.trans T6
      have f6 := f5.next S5 T6
      dsimp only
      rw [if_neg Bool.false_ne_true]
      cases hb
      have S9 := S6.forget hpd
      have f9 := f6.forget vs
      rw [hw2] at S9 f9
      exact ⟨_, _, _, zs, S9, f9, hr, by rw [hds, List.nil_append]⟩
    · cases hb
  · have hi' : i = xs.length := by omega
    subst hi'
    rw [List.drop_length] at ht
    obtain ⟨rfl, rfl⟩ := turns_nil ht
    rw [List.append_nil] at hds
    subst hds
    refine .inl ⟨jk.stop _ Mc Hc L Sc.mok (Nat.le_refl _), ?_⟩
    obtain ⟨z, ez, rz⟩ := fc.at_
    refine ⟨A, z, kd, ds, r, rfl, ez, rz, hkd, hbi, fun H' v nw => ?_⟩
    obtain ⟨M', S', R'⟩ := (S1.back h2 Sc).new (nw Mc)
    exact q M' H' v S' R'
end
end MP

set_option Elab.async false
set_option linter.all false
set_option maxRecDepth 100000
namespace MP
open PySem PySem.Spec PyProof.Rows L2 RZ
section
variable {X : Cx}
theorem pe_sc2 {elt tg iter tg1 iter1 : Expr} {ifs ifs1 : List Expr} {scope : Scope} {own : List (Str × Nat)} {vs1 : List Nat} {pos : Pos} {wi wi1 : TI} {g g1 : TG} {tt tt1 : TT} {te : TE}
    (hc : X.calm = true) (hN : X.N.Nodup) (hi : PI X tg iter wi) (ok : BlkOk X.N X.env.scope scope own) (hv : ∀ i ∈ vs1, i ∈ own.map (·.2))
    (hg : ∀ (s : Shared) (H : Hp) (C : Addr) (cl : List (Str × Addr)) (fp : List Addr), PG (X.blk s H scope (compEnvC scope cl C X.env) fp) tg g)
    (ht : ∀ (s : Shared) (H : Hp) (C : Addr) (cl : List (Str × Addr)) (fp : List Addr), PTs (X.blk s H scope (compEnvC scope cl C X.env) fp) ifs tt)
    (he : ∀ (s : Shared) (H : Hp) (C : Addr) (cl : List (Str × Addr)) (fp : List Addr), PE (X.blk s H scope (compEnvC scope cl C X.env) fp) elt te)
    (hs : ∀ x : Value, foldedSetIterable iter X.env x = pure x)
    (hi1 : ∀ (s : Shared) (H : Hp) (C : Addr) (cl : List (Str × Addr)) (fp : List Addr), PI (X.blk s H scope (compEnvC scope cl C X.env) fp) tg1 iter1 wi1)
    (hg1 : ∀ (s : Shared) (H : Hp) (C : Addr) (cl : List (Str × Addr)) (fp : List Addr), PG (X.blk s H scope (compEnvC scope cl C X.env) fp) tg1 g1)
    (ht1 : ∀ (s : Shared) (H : Hp) (C : Addr) (cl : List (Str × Addr)) (fp : List Addr), PTs (X.blk s H scope (compEnvC scope cl C X.env) fp) ifs1 tt1)
    (hs1 : ∀ (env : Env) (x : Value), foldedSetIterable iter1 env x = pure x) :
    PE X (elt.SetComp [{ target := tg, iter := iter, ifs := ifs, is_async := 0 }, { target := tg1, iter := iter1, ifs := ifs1, is_async := 0 }] scope pos) (tSc2 X.w wi g tt wi1 g1 tt1 te (own.map (·.2)) vs1) := by
  refine ⟨fun pins s σ H Q I h => ?_⟩
  rw [PpSet.eval_SetComp]
  refine sc2_core hc hN I hi ok hv hg ht he hs hi1 hg1 ht1 hs1 h fun D C s' m H' I' q hn f => ?_
  refine ⟨m, hn, fun h'' sb => ?_⟩
  obtain ⟨f0, f1, f2, f3, f4, f5⟩ := f
  exact ⟨V.ref D, H', Inv.turned I' (fun b o hb e => (sb.2 b hb).trans e) f0 f1 f3 f4 f5, rfl, q⟩
theorem pe_srt {a : Expr} {t : TE} {p pos : Pos} (hc : X.calm = true) (gs : Gl X "sorted") (ms : X.mg "sorted" = none) (bs : bootBuiltins "sorted" = some (.builtin "sorted"))
    (ha : PE X a t) (he : starEach [a] X.env = [(false, eval a X.env)]) :
    PE X (.Call (.Name "sorted" p) [a] [] pos) fun σ H Q => t σ H (SsQ X.K X.w Q) := by
  refine ⟨fun pins s σ H Q I h => ?_⟩
  refine wpAny_Call_Name_kw (ld_blt I gs ms bs ?_)
  refine PyProof.Rows.callWith_builtin1 (args_cons (thn (ha.run pins s σ H _ I h) fun v s1 ⟨y, H1, I1, rv, A, z, kd, ds, r, ey, ez, rz, hkd, hbi, q⟩ => ?_) he) he rfl
  subst ey
  obtain rfl : v = .ref A := rv
  refine args_nil ?_
  have T := zo_get I1 ez
  cases kd with
  | true =>
    cases z with
    | txs S => exact rz.elim
    | nos S n =>
      obtain ⟨ns, rfl, m, rfl⟩ := rz
      have few := hkd.2
      rw [dedup_int, List.length_map] at few
      refine sorted_madeI hc I1 T m (by omega) fun p hn => ?_
      have er : r = .own (isort (dedup (ns.map D.int))) := by
        unfold biD at hbi
        have h1 := hkd.1
        cases ns with
        | nil => cases hbi; rfl
        | cons x xs =>
          have hb : (if (allI (D.int x :: xs.map D.int) && (dedup (D.int x :: xs.map D.int)).length < 62 && decide ((D.int x :: xs.map D.int).length < 3000)) = true then some (RV.own (isort (dedup (D.int x :: xs.map D.int)))) else none) = some r := hbi
          split at hb
          · cases hb; rfl
          · cases hb
      subst er
      rw [dedup_int, isort_int] at q
      refine q _ _ fun M => new_lst hn (repL_ints _) ?_
      rw [List.length_map, (sortI_perm _).length_eq]
      show _ ≤ 1000000
      omega
  | false =>
    cases z with
    | nos S n => exact rz.elim
    | txs S =>
      obtain ⟨ns, rfl, ok, m⟩ := rz
      have few := hkd.2
      rw [List.length_map] at few
      have fs : S.length ≤ big := Nat.le_trans m.1 (by rw [List.length_map]; show _ ≤ 1000000; omega)
      refine sorted_made hc I1 T fs fun p ys pm so hn => ?_
      have nd : S.Nodup := by
        obtain ⟨_, _, _, _, _, _, _, R⟩ := T
        exact R.nd
      obtain rfl := set_texts nd m pm so
      have er : r = .own (isort (dedup (ns.map D.str))) := by
        unfold biD at hbi
        simp only [hkd.1, decide_eq_true hkd.2, Bool.and_self, if_true] at hbi
        cases hbi; rfl
      subst er
      rw [dedup_str, isort_str] at q
      refine q _ _ fun M => new_lst hn (repL_strs fun x hx => ok x ((dedupT_mem ns x).1 ((sortT_perm _).mem_iff.mp hx))) ?_
      rw [List.length_map, (sortT_perm _).length_eq]
      exact Nat.le_trans (dedupT_len ns) (by show _ ≤ 1000000; omega)
end
end MP

set_option Elab.async false
set_option linter.all false
set_option maxRecDepth 100000
namespace MP
open PySem PySem.Spec PyProof.Rows L2 RZ
theorem Later.refl {M : Addr → Prop} {H : Hp} : Later M H M H := ⟨fun _ _ h _ => h, fun _ h => .inl h⟩
theorem Later.trans {M M1 M2 : Addr → Prop} {H H1 H2 : Hp} (a : Later M H M1 H1) (b : Later M1 H1 M2 H2) : Later M H M2 H2 where
  k := fun c o h q => b.k c o (a.k c o h q) fun w => (a.g c w).elim q fun z => by rw [h] at z; cases z
  g := fun c w => by
    rcases b.g c w with w | w
    · exact a.g c w
    · cases e : H c with
      | none => exact .inr rfl
      | some o =>
        by_cases q : M c
        · exact .inl q
        · have := a.k c o e q
          rw [w] at this; cases this
structure Fr.Top (F : Fr) : Prop where
  ok : F.Ok
  om : ∀ a, F.O a → F.M0 a
def FlOk (K : PySem.W.Frag) (F : Fr) (M : Addr → Prop) (H : Hp) (D : Ends) : Fl → Prop
  | .nx e => ∀ M' σ' H', SR K F M' e σ' H' → Later M H M' H' → D.nx σ' H'
  | .bk e => ∀ M' σ' H', SR K F M' e σ' H' → Later M H M' H' → D.bk σ' H'
  | .ct e => ∀ M' σ' H', SR K F M' e σ' H' → Later M H M' H' → D.ct σ' H'
  | .rt e r => ∀ M' σ' H' v, SR K F M' e σ' H' → RR K F M' e σ' H' v r → D.rt v H'
theorem FlOk.later {K : PySem.W.Frag} {F : Fr} {M M1 : Addr → Prop} {H H1 : Hp} {D : Ends} (L : Later M H M1 H1) : ∀ {fl : Fl}, FlOk K F M H D fl → FlOk K F M1 H1 D fl
  | .nx e, q => fun M' σ' H' S L' => q M' σ' H' S (L.trans L')
  | .bk e, q => fun M' σ' H' S L' => q M' σ' H' S (L.trans L')
  | .ct e, q => fun M' σ' H' S L' => q M' σ' H' S (L.trans L')
  | .rt e r, q => q
def tS (K : PySem.W.Frag) (mo : Nat → List Bool) (cf : CF) (s : MS) : TS := fun D σ H => ∃ F M env fl, Fr.Top F ∧ SR K F M env σ H ∧ exS mo cf s env = some fl ∧ FlOk K F M H D fl
section
variable {K : PySem.W.Frag} {mo : Nat → List Bool} {cf : CF} {F : Fr} {M M' : Addr → Prop} {env env' e1 : En} {σ σ' : St} {H H' : Hp} {m : ME} {r : RV} {Q : VK}
/-- as tE_go, with what is new since here -/
theorem tE_go2 (ok : F.Ok) (S : SR K F M env σ H) (e : evR mo cf m env = some (e1, r)) (h : ∀ M' H' v, SR K (snap F M env σ H) M' e1 σ H' → SR K F M' e1 σ H' → RR K (snap F M env σ H) M' e1 σ H' v r → Q v H') : tE K mo cf m σ H Q :=
  ⟨_, M, env, e1, r, S.snapOk, S.snap, e, fun M' H' v T R => h M' H' v T (S.trans T) R⟩
theorem Fl1.put {a : Addr} {ds : List D} {i : Nat} {sv : SV} {v : V} (f : Fl1 K F M env σ H a ds) (h : put env i sv = some env') (hv : ∀ p es, sv = .own p es → v ≠ .ref a) (hl : env.length = σ.length) : Fl1 K F M env' (σ.set i (some v)) H a ds := ⟨f.m, f.n, f.at_, f.l, fun ⟨j, p, es, e, q⟩ => by
  obtain ⟨_, hlt, rfl⟩ := put_iff h
  by_cases hj : j = i
  · subst hj
    rw [List.getElem?_set_self (by omega)] at q
    rw [List.getElem?_set_self hlt] at e
    exact hv p es (Option.some.inj (Option.some.inj e)) (Option.some.inj (Option.some.inj q))
  · rw [List.getElem?_set_ne (Ne.symm hj)] at q e
    exact f.no ⟨j, p, es, e, q⟩⟩
theorem RR.put {i : Nat} {r0 : RV} {v u : V} {r : RV} (f : RR K F M env σ H u r) (h : put env i r0.sv = some env') (hv : ∀ es ds a, r0 = .own es → r = .own ds → u = .ref a → v ≠ .ref a) (hl : env.length = σ.length) : RR K F M env' (σ.set i (some v)) H u r := by
  cases r with
  | sh d => exact f
  | own ds =>
    obtain ⟨a, rfl, f⟩ := f
    refine ⟨a, rfl, f.put h (fun p es e => ?_) hl⟩
    cases r0 with
    | sh d => cases e
    | own es' => exact hv es' ds a rfl rfl rfl
end
section
variable {X : Cx} {mo : Nat → List Bool} {cf : CF}
theorem snd_snil : PSs X [] (tS X.K mo cf .nil) := PSs.imp pss_nil fun D σ H q => by
  obtain ⟨F, M, env, fl, ok, S, e, q⟩ := q
  simp only [exS] at e
  cases e
  exact q M σ H S .refl
theorem SR.dim {K : PySem.W.Frag} {F : Fr} {M : Addr → Prop} {env : En} {σ : St} {H : Hp} (S : SR K F M env σ H) {vs : List Nat} (hp : vs.all (fun v => !isPar env v) = true) : SR K F M (wipeE env vs) σ H where
  keep := S.keep
  alive := S.alive
  m0 := S.m0
  grow := S.grow
  mok := S.mok
  sh := fun i d e => S.sh i d (wipeE_some e).1
  ow := fun i p ds e => S.ow i p ds (wipeE_some e).1
  inj := fun i j p q ds es a e1 e2 => S.inj i j p q ds es a (wipeE_some e1).1 (wipeE_some e2).1
  par := fun ia h => by
    obtain ⟨⟨ds, e⟩, h2⟩ := S.par ia h
    refine ⟨⟨ds, ?_⟩, h2⟩
    rw [wipeE_out]
    · exact e
    · intro hm
      have := List.all_eq_true.mp hp _ hm
      simp only [isPar, e] at this
      cases this
  len := by rw [wipeE_len]; exact S.len
theorem snd_wipe {vs : List Nat} {r : MS} {sts : List Stmt} (h : PSs X sts (tS X.K mo cf r)) : PSs X sts (tS X.K mo cf (.wipe vs r)) := PSs.imp h fun D σ H q => by
  obtain ⟨F, M, env, fl, ok, S, e, q⟩ := q
  simp only [exS] at e
  split at e
  · rename_i hp
    exact ⟨F, M, _, fl, ok, S.dim hp, e, q⟩
  · cases e
theorem snd_scons {s r : MS} {st : Stmt} {sts : List Stmt} (h1 : PS X st (tS X.K mo cf s)) (h2 : PSs X sts (tS X.K mo cf r)) : PSs X (st :: sts) (tS X.K mo cf (.cons s r)) := PSs.imp (pss_cons h1 h2) fun D σ H q => by
  obtain ⟨F, M, env, fl, ok, S, e, q⟩ := q
  simp only [exS] at e
  split at e
  · rename_i e1 g1
    exact ⟨F, M, env, _, ok, S, g1, fun M' σ' H' S' L => ⟨F, M', e1, fl, ok, S', e, q.later L⟩⟩
  · rename_i e1 g1
    cases e
    exact ⟨F, M, env, _, ok, S, g1, q⟩
  · rename_i e1 g1
    cases e
    exact ⟨F, M, env, _, ok, S, g1, q⟩
  · rename_i e1 v g1
    cases e
    exact ⟨F, M, env, _, ok, S, g1, q⟩
  · cases e
theorem snd_asg {i : Nat} {m : ME} {st : Stmt} {te : TE} (h : PS X st (tAsg te (gName i))) (hr : ∀ σ H Q, tE X.K mo cf m σ H Q → te σ H Q) : PS X st (tS X.K mo cf (.asg (.nm i) m)) := PS.imp h fun D σ H q => by
  obtain ⟨F, M, env, fl, ok, S, e, q⟩ := q
  simp only [exS] at e
  split at e
  case h_2 => cases e
  rename_i e1 r h1
  split at e
  case h_2 => cases e
  rename_i e2 h2
  cases e
  exact hr _ _ _ (tE_go ok.ok S h1 fun M1 H1 v T1 S1 R1 => q M1 _ H1 (S1.putR ok.ok R1 h2) (S.later T1))
theorem snd_asgT {t : Tg} {m : ME} {st : Stmt} (ht : ∀ i, t ≠ .nm i) (h : PS X st (tAsg (tE X.K mo cf m) (tG X.K t))) : PS X st (tS X.K mo cf (.asg t m)) := PS.imp h fun D σ H q => by
  obtain ⟨F, M, env, fl, ok, S, e, q⟩ := q
  have e' : ∃ e1 r e2, evR mo cf m env = some (e1, r) ∧ tgA t r.fz e1 = some e2 ∧ fl = .nx e2 := by
    cases t with
    | nm i => exact absurd rfl (ht i)
    | _ =>
      simp only [exS] at e
      split at e
      case h_2 => cases e
      rename_i e1 r h1
      split at e
      case h_2 => cases e
      rename_i e2 h2
      cases e
      exact ⟨e1, r, e2, h1, h2, rfl⟩
  obtain ⟨e1, r, e2, h1, h2, rfl⟩ := e'
  exact tV_go ok.ok S h1 fun M1 H1 v T1 S1 R1 => ⟨F, M1, e1, e2, r.fz, ok.ok, S1, R1, h2, fun σ' S' _ _ => q M1 σ' H1 S' (S.later T1)⟩
theorem two_apart {K : PySem.W.Frag} {F F' : Fr} {M M' : Addr → Prop} {env env' : En} {σ : St} {H H' : Hp} {v u : V} {r r' : RV} (R : RR K F M env σ H v r) (R' : RR K (snap F' M env σ H) M' env' σ H' u r') : ∀ es ds a, r = .own es → r' = .own ds → u = .ref a → v ≠ .ref a := by
  intro es ds a he hr hu hv
  subst he hr
  obtain ⟨b, e1, f⟩ := R
  obtain ⟨c, e2, f'⟩ := R'
  rw [hv] at e1
  rw [hu] at e2
  cases e1
  cases e2
  obtain ⟨xs, hx, _⟩ := f.at_
  have : H a = none := f'.n
  rw [hx] at this; cases this
theorem own_next {K : PySem.W.Frag} {F : Fr} {M M' : Addr → Prop} {env env' : En} {σ : St} {H H' : Hp} {v : V} {r : RV} (S : SR K F M env σ H) (R : RR K F M env σ H v r) (T : SR K (snap F M env σ H) M' env' σ H') {a : Addr} {es : List D} (he : r = .own es) (hv : v = .ref a) : ∃ xs, H a = some (.lst xs) := by
  subst he
  obtain ⟨b, e1, f⟩ := R
  rw [hv] at e1
  cases e1
  obtain ⟨xs, hx, _⟩ := f.at_
  exact ⟨xs, hx⟩
theorem snd_par2 {i j : Nat} {a b : ME} {st : Stmt} (h : PS X st (tPar i j (tCons (tE X.K mo cf a) (tCons (tE X.K mo cf b) tNil)))) : PS X st (tS X.K mo cf (.par2 i j a b)) := PS.imp h fun D σ H q => by
  obtain ⟨F, M, env, fl, ok, S, e, q⟩ := q
  simp only [exS] at e
  split at e
  case h_2 => cases e
  rename_i e1 ra h1
  split at e
  case h_2 => cases e
  rename_i e2 rb h2
  split at e
  case h_2 => cases e
  rename_i e3 h3
  split at e
  case h_2 => cases e
  rename_i e4 h4
  cases e
  refine tE_go ok.ok S h1 fun M1 H1 v T1 S1 R1 => tE_go2 ok.ok S1 h2 fun M2 H2 u T2 S2 R2 => ?_
  refine ⟨v, u, rfl, ?_⟩
  have R1' := R1.next S1 T2
  have S3 := S2.putR ok.ok R1' h3
  have R2' := (R2.trans S1).put (v := v) h3 (two_apart R1 R2) S2.len
  exact q M2 _ H2 (S3.putR ok.ok R2' h4) ((S.later T1).trans (S1.later T2))
theorem snd_par3 {i j k : Nat} {a b c : ME} {st : Stmt} (h : PS X st (tPar3 i j k (tCons (tE X.K mo cf a) (tCons (tE X.K mo cf b) (tCons (tE X.K mo cf c) tNil))))) : PS X st (tS X.K mo cf (.par3 i j k a b c)) := PS.imp h fun D σ H q => by
  obtain ⟨F, M, env, fl, ok, S, e, q⟩ := q
  simp only [exS] at e
  split at e
  case h_2 => cases e
  rename_i e1 ra h1
  split at e
  case h_2 => cases e
  rename_i e2 rb h2
  split at e
  case h_2 => cases e
  rename_i e3 rc h3
  split at e
  case h_2 => cases e
  rename_i e4 h4
  split at e
  case h_2 => cases e
  rename_i e5 h5
  split at e
  case h_2 => cases e
  rename_i e6 h6
  cases e
  refine tE_go ok.ok S h1 fun M1 H1 v T1 S1 R1 => tE_go2 ok.ok S1 h2 fun M2 H2 u T2 S2 R2 => tE_go2 ok.ok S2 h3 fun M3 H3 w T3 S3 R3 => ?_
  refine ⟨v, u, w, rfl, ?_⟩
  have R1' := R1.next S1 T2
  have R1'' := R1'.next S2 T3
  have R2' := R2.trans S1
  have R2'' := R2'.next S2 T3
  have R3' := R3.trans S2
  have S4 := S3.putR ok.ok R1'' h4
  have l3 := S3.len
  have R2a := R2''.put (v := v) h4 (two_apart R1 R2) l3
  have R3a := R3'.put (v := v) h4 (two_apart R1' R3) l3
  have S5 := S4.putR ok.ok R2a h5
  have R3b := R3a.put (v := u) h5 (two_apart R2' R3) S4.len
  exact q M3 _ H3 (S5.putR ok.ok R3b h6) (((S.later T1).trans (S1.later T2)).trans (S2.later T3))
theorem snd_setix {i : Nat} {j m : ME} {st : Stmt} (h : PS X st (tAsg (tE X.K mo cf m) (gSub (tVar i) (tE X.K mo cf j) rSetL))) : PS X st (tS X.K mo cf (.setix i j m)) := PS.imp h fun D σ H q => by
  obtain ⟨F, M, env, fl, ok, S, e, q⟩ := q
  simp only [exS] at e
  split at e
  case h_2 => cases e
  rename_i e1 r h1
  split at e
  case h_2 => cases e
  rename_i p0 ds0 hi
  split at e
  case h_2 => cases e
  rename_i e2 rj h2
  split at e
  case h_2 => cases e
  rename_i p ds hi2
  split at e
  case h_2 => cases e
  rename_i ds' hs
  cases e
  refine tV_go ok.ok S h1 fun M1 H1 v T1 S1 R1 => ?_
  obtain ⟨a, xs, e3, _⟩ := S1.ow i _ _ hi
  refine ⟨_, e3, tV_go ok.ok S1 h2 fun M2 H2 u T2 S2 R2 => ?_⟩
  have R1' := S1.rep T2 R1
  obtain ⟨a', xs', e4, m2, o, n, hx, rx, lx⟩ := S2.ow i _ _ hi2
  rw [e3] at e4
  cases e4
  unfold setD at hs
  split at hs
  case h_2 => cases hs
  rename_i jj hj
  split at hs
  case h_2 => cases hs
  rename_i k hk
  cases hs
  rw [hj] at R2
  cases R2
  obtain ⟨S3, _⟩ := S2.setOwn hi2 e3 (rx.set R1' k) (by rw [List.length_set]; exact lx)
  refine ⟨a, xs', jj, k, rfl, rfl, hx, by rw [rx.length]; exact hk, q M2 _ _ S3 (((S.later T1).trans (S1.later T2)).trans ?_)⟩
  exact ⟨fun b o' h q' => by rw [upd_ne (fun z => q' (by rw [z]; exact m2))]; exact h, fun b w => .inl w⟩
theorem snd_app {i : Nat} {m : ME} {st : Stmt} (h : PS X st (tDrop (tBM X.K "list" rAppend (tVar i) (tCons (tE X.K mo cf m) tNil)))) : PS X st (tS X.K mo cf (.app i m)) := PS.imp h fun D σ H q => by
  obtain ⟨F, M, env, fl, ok, S, e, q⟩ := q
  simp only [exS] at e
  split at e
  case h_2 => cases e
  rename_i p0 ds0 hi
  split at e
  case h_2 => cases e
  rename_i e1 r h1
  split at e
  case h_2 => cases e
  rename_i p ds hi2
  split at e
  case isFalse => cases e
  rename_i hl
  cases e
  obtain ⟨a, xs, e3, m0, o0, n0, hx0, _⟩ := S.ow i _ _ hi
  refine ⟨_, e3, .inl ⟨rfl, xs, SqL.of hx0⟩, tV_go ok.ok S h1 fun M1 H1 v T1 S1 R1 => ?_⟩
  obtain ⟨a', xs', e4, m2, o, n, hx, rx, lx⟩ := S1.ow i _ _ hi2
  rw [e3] at e4
  cases e4
  have hl := lenOk_le hl
  obtain ⟨S3, _⟩ := S1.setOwn hi2 e3 (rx.append (.cons R1 .nil)) (by rw [List.length_append]; exact hl)
  refine ⟨a, xs', v, rfl, rfl, hx, by rw [rx.length]; exact big_lt lx, q M1 _ _ S3 ((S.later T1).trans ?_)⟩
  exact ⟨fun b o' h q' => by rw [upd_ne (fun z => q' (by rw [z]; exact m2))]; exact h, fun b w => .inl w⟩
theorem snd_xpr {m : ME} {st : Stmt} (h : PS X st (tDrop (tE X.K mo cf m))) : PS X st (tS X.K mo cf (.xpr m)) := PS.imp h fun D σ H q => by
  obtain ⟨F, M, env, fl, ok, S, e, q⟩ := q
  simp only [exS] at e
  split at e
  case h_2 => cases e
  rename_i e1 r h1
  cases e
  exact tE_go ok.ok S h1 fun M1 H1 v T1 S1 R1 => q M1 _ _ S1 (S.later T1)
theorem snd_iteS {c : ME} {a b : MS} {t : Expr} {xs ys : List Stmt} {p : Pos} (hc : PT X t (tP X.K mo cf c)) (ha : PSs X xs (tS X.K mo cf a)) (hb : PSs X ys (tS X.K mo cf b)) : PS X (.If t xs ys p) (tS X.K mo cf (.ite c a b)) := PS.imp (ps_if hc ha hb) fun D σ H q => by
  obtain ⟨F, M, env, fl, ok, S, e, q⟩ := q
  simp only [exS] at e
  split at e
  case h_2 => cases e
  rename_i e1 k h1
  refine ⟨_, M, env, e1, k, S.snapOk, S.snap, h1, fun M1 H1 T1 => ?_⟩
  have S1 := S.trans T1
  split at e
  · rename_i hk
    dsimp only
    rw [if_pos hk]
    exact ⟨F, M1, e1, fl, ok, S1, e, q.later (S.later T1)⟩
  · rename_i hk
    dsimp only
    rw [if_neg hk]
    exact ⟨F, M1, e1, fl, ok, S1, e, q.later (S.later T1)⟩
theorem snd_ret {m : ME} {x : Expr} {p : Pos} (hm : ∀ i, m ≠ .var i) (h : PE X x (tE X.K mo cf m)) : PS X (.Return (some x) p) (tS X.K mo cf (.ret m)) := PS.imp (ps_ret h) fun D σ H q => by
  obtain ⟨F, M, env, fl, ok, S, e, q⟩ := q
  have e' : ∃ e1 r, evR mo cf m env = some (e1, r) ∧ fl = .rt e1 r := by
    cases m with
    | var i => exact absurd rfl (hm i)
    | _ =>
      simp only [exS] at e
      split at e
      case h_2 => cases e
      rename_i e1 r h1
      cases e
      exact ⟨e1, r, h1, rfl⟩
  obtain ⟨e1, r, h1, rfl⟩ := e'
  exact tE_go ok.ok S h1 fun M1 H1 v T1 S1 R1 => q M1 _ _ v S1 R1
theorem snd_retV {i : Nat} {x : Expr} {p : Pos} (h : PE X x (tVar i)) : PS X (.Return (some x) p) (tS X.K mo cf (.ret (.var i))) := PS.imp (ps_ret h) fun D σ H q => by
  obtain ⟨F, M, env, fl, ok, S, e, q⟩ := q
  simp only [exS] at e
  split at e
  · rename_i d hi
    cases e
    obtain ⟨v, e2, r⟩ := S.sh i d hi
    exact ⟨v, e2, q M σ H v S r⟩
  · rename_i ds hi
    cases e
    obtain ⟨a, xs, e2, m, o, n, hx, rx, lx⟩ := S.ow i _ _ hi
    have hlt : i < env.length := by
      rcases Nat.lt_or_ge i env.length with q | q
      · exact q
      · rw [List.getElem?_eq_none q] at hi; cases hi
    have get : ∀ (j : Nat) (sv : SV), (env.set i none)[j]? = some (some sv) → j ≠ i ∧ env[j]? = some (some sv) := fun j sv e => by
      by_cases hj : j = i
      · subst hj
        rw [List.getElem?_set_self hlt] at e; cases e
      · rw [List.getElem?_set_ne (Ne.symm hj)] at e
        exact ⟨hj, e⟩
    have S' : SR X.K F M (env.set i none) σ H := {
      keep := S.keep
      alive := S.alive
      m0 := S.m0
      grow := S.grow
      mok := S.mok
      sh := fun j d e => S.sh j d (get j _ e).2
      ow := fun j p es e => S.ow j p es (get j _ e).2
      inj := fun j k p q es fs b e1 e3 => S.inj j k p q es fs b (get j _ e1).2 (get k _ e3).2
      par := fun ia hia => by
        obtain ⟨⟨es, e1⟩, e3⟩ := S.par ia hia
        have hj : ia.1 ≠ i := fun z => by rw [z, hi] at e1; cases e1
        rw [List.getElem?_set_ne (Ne.symm hj)]
        exact ⟨⟨es, e1⟩, e3⟩
      len := by rw [List.length_set]; exact S.len }
    refine ⟨_, e2, q M σ H _ S' ⟨a, rfl, m, ?_, ⟨xs, hx, rx⟩, lx, fun w => ?_⟩⟩
    · exact o.resolve_left fun z => n rfl (ok.om a z)
    · obtain ⟨j, p, es, e1, e3⟩ := w
      obtain ⟨hj, e1⟩ := get j _ e1
      exact hj (S.inj j i p false es ds a e1 hi e3 e2)
  · cases e
theorem snd_retN {p : Pos} : PS X (.Return none p) (tS X.K mo cf .retN) := PS.imp ps_retN fun D σ H q => by
  obtain ⟨F, M, env, fl, ok, S, e, q⟩ := q
  simp only [exS] at e
  cases e
  exact q M σ H _ S .non
theorem snd_pass {p : Pos} : PS X (.Pass p) (tS X.K mo cf .pass) := PS.imp ps_pass fun D σ H q => by
  obtain ⟨F, M, env, fl, ok, S, e, q⟩ := q
  simp only [exS] at e
  cases e
  exact q M σ H S .refl
theorem snd_doc {x j} {p p' : Pos} : PS X (.Expr (.Constant (.str x) j p) p') (tS X.K mo cf .pass) := PS.imp ps_doc fun D σ H q => by
  obtain ⟨F, M, env, fl, ok, S, e, q⟩ := q
  simp only [exS] at e
  cases e
  exact q M σ H S .refl
theorem snd_brk {p : Pos} : PS X (.Break p) (tS X.K mo cf .brk) := PS.imp ps_break fun D σ H q => by
  obtain ⟨F, M, env, fl, ok, S, e, q⟩ := q
  simp only [exS] at e
  cases e
  exact q M σ H S .refl
theorem snd_cont {p : Pos} : PS X (.Continue p) (tS X.K mo cf .cont) := PS.imp ps_continue fun D σ H q => by
  obtain ⟨F, M, env, fl, ok, S, e, q⟩ := q
  simp only [exS] at e
  cases e
  exact q M σ H S .refl
theorem snd_nev {st : Stmt} : PS X st (tS X.K mo cf .nev) := PS.imp ps_never fun D σ H q => by
  obtain ⟨F, M, env, fl, ok, S, e, q⟩ := q
  simp only [exS] at e
  cases e
theorem snd_nevs {st : List Stmt} : PSs X st (tS X.K mo cf .nev) := PSs.imp pss_never fun D σ H q => by
  obtain ⟨F, M, env, fl, ok, S, e, q⟩ := q
  simp only [exS] at e
  cases e
theorem snd_for {t : Tg} {it : ME} {b : MS} {st : Stmt} (h : PS X st (tFor (tI X.K mo cf it) (tG X.K t) (tS X.K mo cf b))) : PS X st (tS X.K mo cf (.for_ t it b)) := PS.imp h fun D σ H q => by
  obtain ⟨F, M, env, fl, ok, S, e, q⟩ := q
  simp only [exS] at e
  split at e
  case h_2 => cases e
  rename_i e1 xs h1
  refine ⟨_, M, env, e1, xs, S.snapOk, S.snap, h1, fun M1 H1 J T1 jk => ?_⟩
  have S1 := S.trans T1
  have q1 : FlOk X.K F M1 H1 D fl := q.later (S.later T1)
  refine ⟨fun i m σc Hc => m = xs.length - i ∧ i ≤ xs.length ∧ ∃ Mc en, SR X.K F Mc en σc Hc ∧ Later M1 H1 Mc Hc ∧ loop (fun x en => match tgA t x en with
        | some en1 => exS mo cf b en1
        | none => none) (xs.drop i) en = some fl,
    ⟨xs.length, by omega, Nat.zero_le _, M1, e1, S1, .refl, e⟩, ?_⟩
  rintro i m σc Hc ⟨rfl, hi, Mc, en, Sc, Lc, ht⟩
  by_cases hlt : i < xs.length
  · refine .inr ?_
    obtain ⟨go, yl⟩ := jk.go i xs[i] Mc Hc Lc Sc.mok (List.getElem?_eq_getElem hlt)
    refine ⟨go, fun σ' H' => ∃ Mc en, SR X.K F Mc en σ' H' ∧ Later M1 H1 Mc H' ∧ loop (fun x en => match tgA t x en with
        | some en1 => exS mo cf b en1
        | none => none) (xs.drop (i + 1)) en = some fl, fun σ' H' p => ⟨xs.length - (i + 1), by omega, rfl, hlt, p⟩, fun x H3 y => ?_⟩
    obtain ⟨hH, rx⟩ := yl x H3 y
    rw [drop_cons hlt] at ht
    have S3 : SR X.K F Mc en σc H3 := by
      rcases hH with rfl | ⟨p, o, hp, rfl⟩
      · exact Sc
      · exact Sc.upd_new hp
    have L3 : Later M1 H1 Mc H3 := by
      rcases hH with rfl | ⟨p, o, hp, rfl⟩
      · exact Lc
      · exact ⟨fun b o' h q' => by rw [upd_ne (ne_of_none (Lc.k b o' h q') hp)]; exact Lc.k b o' h q', Lc.g⟩
    unfold loop at ht
    cases hg : tgA t xs[i] en with
    | none => simp only [hg] at ht; cases ht
    | some en1 =>
      simp only [hg] at ht
      refine ⟨F, Mc, en, en1, xs[i], ok.ok, S3, rx, hg, fun σ2 S4 k2 l2 => ?_⟩
      cases hb : exS mo cf b en1 with
      | none => simp only [hb] at ht; cases ht
      | some f =>
        simp only [hb] at ht
        refine ⟨F, Mc, en1, f, ok, S4, hb, ?_⟩
        cases f with
        | nx e' => exact fun M' σ' H' S' L' => ⟨M', e', S', L3.trans L', ht⟩
        | ct e' => exact fun M' σ' H' S' L' => ⟨M', e', S', L3.trans L', ht⟩
        | bk e' =>
          cases ht
          exact fun M' σ' H' S' L' => q1 M' σ' H' S' (L3.trans L')
        | rt e' r =>
          cases ht
          exact q1
  · have hi' : i = xs.length := by omega
    subst hi'
    rw [List.drop_length] at ht
    unfold loop at ht
    cases ht
    exact .inl ⟨jk.stop _ Mc Hc Lc Sc.mok (Nat.le_refl _), q1 Mc σc Hc Sc Lc⟩
theorem snd_while {c : ME} {b : MS} {st : Stmt} (h : PS X st (tWhile (tP X.K mo cf c) (tS X.K mo cf b))) : PS X st (tS X.K mo cf (.whl c b)) := PS.imp h fun D σ H q => by
  obtain ⟨F, M, env, fl, ok, S, e, q⟩ := q
  simp only [exS] at e
  generalize (1000000 : Nat) = N at e
  refine ⟨fun m σc Hc => ∃ Mc en, SR X.K F Mc en σc Hc ∧ Later M H Mc Hc ∧ whileN (fun en => tst c (evR mo cf c en) en) (fun en => exS mo cf b en) m en = some fl, ⟨N, M, env, S, .refl, e⟩, ?_⟩
  rintro m σc Hc ⟨Mc, en, Sc, Lc, ht⟩
  cases m with
  | zero => unfold whileN at ht; cases ht
  | succ m =>
    unfold whileN at ht
    split at ht
    · rename_i e1 h1
      refine ⟨_, Mc, en, e1, true, Sc.snapOk, Sc.snap, h1, fun M1 H1 T1 => ?_⟩
      have S1 := Sc.trans T1
      have L1 := Lc.trans (Sc.later T1)
      dsimp only
      rw [if_pos rfl]
      refine ⟨fun σ' H' => ∃ Mc en, SR X.K F Mc en σ' H' ∧ Later M H Mc H' ∧ whileN (fun en => tst c (evR mo cf c en) en) (fun en => exS mo cf b en) m en = some fl, fun σ' H' p => ⟨m, Nat.lt_succ_self m, p⟩, ?_⟩
      cases hb : exS mo cf b e1 with
      | none => simp only [hb] at ht; cases ht
      | some f =>
        simp only [hb] at ht
        refine ⟨F, M1, e1, f, ok, S1, hb, ?_⟩
        cases f with
        | nx e' => exact fun M' σ' H' S' L' => ⟨M', e', S', L1.trans L', ht⟩
        | ct e' => exact fun M' σ' H' S' L' => ⟨M', e', S', L1.trans L', ht⟩
        | bk e' =>
          cases ht
          exact fun M' σ' H' S' L' => q M' σ' H' S' (L1.trans L')
        | rt e' r =>
          cases ht
          exact q
    · rename_i e1 h1
      cases ht
      refine ⟨_, Mc, en, e1, false, Sc.snapOk, Sc.snap, h1, fun M1 H1 T1 => ?_⟩
      dsimp only
      rw [if_neg Bool.false_ne_true]
      exact q M1 σc H1 (Sc.trans T1) (Lc.trans (Sc.later T1))
    · cases ht
end
end MP

set_option Elab.async false
set_option linter.all false
set_option maxRecDepth 100000
namespace MP
open PySem PySem.Spec PyProof.Rows L2 RZ
/-! ### what stands in the text for it -/
structure MC where
  N : List Str
  sc : Scope
  fc : Str → Bool
  G : List Str
  KT : List (Nat × Nat × List Str × List Nat)
  /-- the module's own texts -/
  GC : List (Str × List Nat)
def MC.vis (C : MC) (i : Nat) (x : Str) : Bool := decide (C.N[i]? = some x) && (match C.sc.names.lookup x with | some .local => true | some .cell => true | some .free => true | _ => false) && !(x == ("__debug__" : Str)) && !(x == ("__classdict__" : Str))
def MC.loc (C : MC) (i : Nat) (x : Str) : Bool := decide (C.N[i]? = some x) && (match C.sc.names.lookup x with | some .local => true | some .cell => C.fc x | _ => false)
def MC.glo (C : MC) (x : Str) : Bool := (match C.sc.names.lookup x with | some .globalImplicit => true | _ => false) && !(x == ("__debug__" : Str))
def MC.nm (C : MC) (x : Str) (s : String) : Bool := (x == (Str.ofString s)) && C.glo x
def plainX : Expr → Bool
  | .Starred .. => false
  | _ => true
def noSet : Expr → Bool
  | .Set .. => false
  | _ => true
def noSlice : Expr → Bool
  | .Slice .. => false
  | _ => true
def noComp : Expr → Bool
  | .ListComp .. => false
  | .SetComp .. => false
  | .DictComp .. => false
  | _ => true
def noTup : Expr → Bool
  | .Tuple .. => false
  | _ => true
def isNop : ME → Bool
  | .nop => true
  | _ => false
def ownOf (N : List Str) (vs : List Nat) : List (Str × Nat) := vs.filterMap fun i => (N[i]?).map fun x => (x, i)
def MC.blk (C : MC) (scope : Scope) : MC := { C with sc := relS scope C.sc, fc := fun x => scope.names.lookup x == some .cell }
mutual
def mTg : Tg → MC → Expr → Bool
  | .nm i, C, .Name x _ => C.loc i x
  | .tp r, C, .Tuple es _ _ => mTgL r C es
  | _, _, _ => false
def mTgL : Tg → MC → List Expr → Bool
  | .nil, _, [] => true
  | .cons a r, C, e :: es => plainX e && mTg a C e && mTgL r C es
  | _, _, _ => false
end
def mK : D → Const → Bool
  | .non, .none => true
  | .bl b, .bool c => b == c
  | .int i, .int j => i == j
  | .str s, .str x => decide (x = str0 s) && okS s && lenOk s.length
  | _, _ => false
def mTys (C : MC) : List Ty → List Expr → Bool
  | [], [] => true
  | t :: ts, .Name z _ :: es => C.nm z (tyS t) && mTys C ts es
  | _, _ => false
/-- the names of keywords, none starred -/
def kwN : List Keyword → Option (List Str)
  | [] => some []
  | ⟨some n, _, _⟩ :: r => match kwN r with
    | some ns => some (n :: ns)
    | none => none
  | ⟨none, _, _⟩ :: _ => none
/-- a literal, or the name of one of the module's texts -/
def mKx (d : D) (C : MC) : Expr → Bool
  | .Constant c _ _ => mK d c
  | .Name y _ => (match d with
    | .str s => C.glo y && decide ((y, s) ∈ C.GC)
    | _ => false)
  | _ => false
def lc2Parts : Expr → Option (Comprehension × Comprehension × Expr × Scope)
  | .ListComp elt [a, b] scope _ => some (a, b, elt, scope)
  | _ => none
theorem lc2Parts_eq {x : Expr} {q : Comprehension × Comprehension × Expr × Scope} (h : lc2Parts x = some q) : ∃ p, x = .ListComp q.2.2.1 [q.1, q.2.1] q.2.2.2 p := by
  unfold lc2Parts at h
  split at h
  · cases h
    exact ⟨_, rfl⟩
  · cases h
/-- sorted({e for .. for ..}) -/
def ssParts : Expr → Option (Str × Comprehension × Comprehension × Expr × Scope)
  | .Call (.Name x _) [.SetComp elt [a, b] scope _] [] _ => some (x, a, b, elt, scope)
  | _ => none
theorem ssParts_eq {x : Expr} {q : Str × Comprehension × Comprehension × Expr × Scope} (h : ssParts x = some q) : ∃ p1 p2 p3, x = .Call (.Name q.1 p1) [.SetComp q.2.2.2.1 [q.2.1, q.2.2.1] q.2.2.2.2 p2] [] p3 := by
  unfold ssParts at h
  split at h
  · cases h
    exact ⟨_, _, _, rfl⟩
  · cases h
mutual
def mE : ME → MC → Expr → Bool
  | .k d, C, x => mKx d C x
  | .lc2 t it c t2 it2 c2 e vs vs2, C, x => (match lc2Parts x with
    | some q => decide (q.1.is_async = 0) && decide (q.2.1.is_async = 0) && noSet q.1.iter && noSet q.2.1.iter && blkC C.N C.sc q.2.2.2 (ownOf C.N vs) && decide ((ownOf C.N vs).map (·.2) = vs) && (tgs t).all (fun j => vs.contains j) && (tgs t2).all (fun j => vs2.contains j) && vs2.all (fun j => vs.contains j) && mI it C q.1.iter q.1.target && mTg t (C.blk q.2.2.2) q.1.target &&
      (match q.1.ifs with | [] => isNop c | [x] => !isNop c && mE c (C.blk q.2.2.2) x | _ => false) && mI it2 (C.blk q.2.2.2) q.2.1.iter q.2.1.target && mTg t2 (C.blk q.2.2.2) q.2.1.target && (match q.2.1.ifs with | [] => isNop c2 | [x] => !isNop c2 && mE c2 (C.blk q.2.2.2) x | _ => false) && mE e (C.blk q.2.2.2) q.2.2.1
    | none => false)
  | .ss2 t it c t2 it2 c2 e vs vs2, C, x => (match ssParts x with
    | some (n, q) => C.nm n "sorted" && (decide (q.1.is_async = 0) && decide (q.2.1.is_async = 0) && noSet q.1.iter && noSet q.2.1.iter && blkC C.N C.sc q.2.2.2 (ownOf C.N vs) && decide ((ownOf C.N vs).map (·.2) = vs) && (tgs t).all (fun j => vs.contains j) && (tgs t2).all (fun j => vs2.contains j) && vs2.all (fun j => vs.contains j) && mI it C q.1.iter q.1.target && mTg t (C.blk q.2.2.2) q.1.target &&
      (match q.1.ifs with | [] => isNop c | [x] => !isNop c && mE c (C.blk q.2.2.2) x | _ => false) && mI it2 (C.blk q.2.2.2) q.2.1.iter q.2.1.target && mTg t2 (C.blk q.2.2.2) q.2.1.target && (match q.2.1.ifs with | [] => isNop c2 | [x] => !isNop c2 && mE c2 (C.blk q.2.2.2) x | _ => false) && mE e (C.blk q.2.2.2) q.2.2.1)
    | none => false)
  | .var i, C, .Name x _ => C.vis i x
  | .bin op a b, C, .BinOp x o y _ => decide (o = pyOp op) && mE a C x && mE b C y
  | .neg a, C, .UnaryOp .USub x _ => mE a C x
  | .not a, C, .UnaryOp .Not x _ => mE a C x && !isNop a
  | .one a, C, .BoolOp _ [x] _ => mE a C x
  | .and a b, C, .BoolOp .And (x :: y :: r) p => mE a C x && mE b C (.BoolOp .And (y :: r) p)
  | .or a b, C, .BoolOp .Or (x :: y :: r) p => mE a C x && mE b C (.BoolOp .Or (y :: r) p)
  | .ite c a b, C, .IfExp t x y _ => mE c C t && !isNop c && mE a C x && mE b C y
  | .cmp op a b, C, .Compare x [o] [y] _ => decide (o = pyC op) && mE a C x && mE b C y && !behindInMarks o y
  | .chain o1 o2 a b c, C, .Compare x [p1, p2] [y, z] _ => decide (p1 = pyC o1) && decide (p2 = pyC o2) && mE a C x && mE b C y && mE c C z && !lastMarks [p1, p2] [y, z]
  | .tup es, C, .Tuple xs _ _ => mLd es C xs
  | .lst es, C, .List xs _ => mLd es C xs
  | .ix a b, C, .Subscript x y _ => noSlice y && mE a C x && mE b C y
  | .sl a lo hi, C, .Subscript x (.Slice l u none _) _ => mE a C x && (match l with | none => isNop lo | some e => !isNop lo && mE lo C e) && (match u with | none => isNop hi | some e => !isNop hi && mE hi C e)
  | .rev a, C, .Subscript x (.Slice none none (some (.UnaryOp .USub (.Constant (.int 1) _ _) _)) _) _ => mE a C x
  | .lrng a, C, .Call (.Name x _) [.Call (.Name z _) [y] [] _] [] _ => C.nm x "list" && C.nm z "range" && plainX y && mE a C y
  | .idx a b, C, .Call (.Attribute (.Name x xp) at_ ap) [y] [] cp => (at_ == ("index" : Str)) && (ap.endLine == cp.line) && plainX y && mE a C (.Name x xp) && mE b C y
  | .call f es, C, .Call (.Name x _) xs [] _ => decide (C.G[f]? = some x) && C.glo x && mL es C xs
  | .callk f np nk es ks pj, C, .Call (.Name x _) xs kws _ => decide (C.G[f]? = some x) && C.glo x && (match kwN kws with | some ns => decide ((f, np, ns, pj) ∈ C.KT) && decide (ns.length = nk) | none => false) && mL es C xs && mL ks C (kws.map fun k => k.value)
  | .bi .sortedset es, C, .Call (.Name x _) [.Call (.Name z _) (y :: ys) [] _] [] _ => C.nm x "sorted" && C.nm z "set" && mL es C (y :: ys)
  | .bi b es, C, .Call (.Name x _) (y :: ys) [] _ => (match bName b, tName b with | some n, _ => C.nm x n | none, some n => C.nm x n | _, _ => false) && mL es C (y :: ys)
  | .isi a cs one, C, .Call (.Name x _) [y, c] [] _ => C.nm x "isinstance" && plainX y && mE a C y && (match one, cs, c with
    | true, [t], .Name z _ => C.nm z (tyS t)
    | false, cs, .Tuple zs _ _ => mTys C cs zs && decide (cs.length ≤ 100)
    | _, _, _ => false)
  | .pop i m, C, .Call (.Attribute (.Name x _) at_ ap) xs [] cp => C.vis i x && (at_ == ("pop" : Str)) && (ap.endLine == cp.line) && (match xs with
    | [] => isNop m
    | [y] => plainX y && !isNop m && mE m C y
    | _ => false)
  | .lc t it c e vs, C, .ListComp elt [⟨tg, iter, ifs, n⟩] scope _ => decide (n = 0) && noSet iter && blkC C.N C.sc scope (ownOf C.N vs) && decide ((ownOf C.N vs).map (·.2) = vs) && (tgs t).all (fun j => vs.contains j) && mI it C iter tg && mTg t (C.blk scope) tg &&
    (match ifs with | [] => isNop c | [x] => !isNop c && mE c (C.blk scope) x | _ => false) && mE e (C.blk scope) elt
  | _, _, _ => false
def mL : ME → MC → List Expr → Bool
  | .nil, _, [] => true
  | .cons a r, C, x :: xs => plainX x && mE a C x && mL r C xs
  | _, _, _ => false
/-- a display's items: some may be starred -/
def mLd : ME → MC → List Expr → Bool
  | .nil, _, [] => true
  | .cons a r, C, x :: xs => plainX x && mE a C x && mLd r C xs
  | .cat a r, C, .Starred x _ :: xs => mE a C x && mLd r C xs
  | _, _, _ => false
def mI : ME → MC → Expr → Expr → Bool
  | .seq m, C, e, _ => mE m C e
  | .rng1 a, C, .Call (.Name x _) [y] [] _, _ => C.nm x "range" && plainX y && mE a C y
  | .rng2 a b, C, .Call (.Name x _) [y, z] [] _, _ => C.nm x "range" && plainX y && plainX z && mE a C y && mE b C z
  | .zip a b, C, .Call (.Name x _) [y, z] [] _, .Tuple _ _ _ => C.nm x "zip" && plainX y && plainX z && mE a C y && mE b C z
  | .enum a, C, .Call (.Name x _) [y] [] _, .Tuple _ _ _ => C.nm x "enumerate" && plainX y && mE a C y
  | _, _, _, _ => false
end

/-! ### a def's context -/
structure FI where
  x : Str
  a : Addr
  fd : FuncData
  ps : List Str
def bnames : List Str := ["len", "abs", "sorted", "all", "any", "min", "max", "int", "list", "tuple", "isinstance", "range", "zip", "enumerate", "bool", "str", "dict", "set"]
/-- what a call by keywords binds -/
def KB (K : PySem.W.Frag) (fd : FuncData) (ps : List Str) (np : Nat) (ns : List Str) (pj : List Nat) : Prop := pj.length = ps.length ∧ 0 < ps.length ∧
  ∀ (s : Shared) (us ws : List Value), K.In s.heap → us.length = np → ws.length = ns.length → BindsTo s fd ⟨us, ns.zip ws⟩ (ps.zip (pj.map fun j => (us ++ ws).getD j .none))
def gUk (np nk : Nat) (pj : List Nat) (us ws : List Value) : List Value := if us.length = np ∧ ws.length = nk then pj.map fun j => (us ++ ws).getD j .none else []
theorem vals_append : ∀ {vs zs : List V} {us ws : List Value}, Vals vs us → Vals zs ws → Vals (vs ++ zs) (us ++ ws)
  | _, _, _, _, .nil, r => r
  | _, _, _, _, .cons a t, r => .cons a (vals_append t r)
theorem vals_getD {j : Nat} : ∀ {vs : List V} {us : List Value}, Vals vs us → L2.RelV (vs.getD j .non) (us.getD j .none)
  | _, _, .nil => rfl
  | _, _, .cons a t => by
    cases j with
    | zero => exact a
    | succ j => exact vals_getD (j := j) t
theorem vals_pick {vs : List V} {us : List Value} (r : Vals vs us) : ∀ pj : List Nat, Vals (pj.map fun j => vs.getD j .non) (pj.map fun j => us.getD j .none)
  | [] => .nil
  | j :: pj => .cons (vals_getD r) (vals_pick r pj)
theorem KB.binds {K : PySem.W.Frag} {fd : FuncData} {ps : List Str} {np nk : Nat} {ns : List Str} {pj : List Nat} (b : KB K fd ps np ns pj) (h : ns.length = nk) : KBinds K fd ps ns (gUk np nk pj) (gVk np nk pj) where
  to := fun s us ws hk hl => by
    by_cases c : us.length = np ∧ ws.length = nk
    · unfold gUk
      rw [if_pos c]
      exact b.2.2 s us ws hk c.1 (c.2.trans h.symm)
    · unfold gUk at hl
      rw [if_neg c] at hl
      exact absurd hl (Nat.ne_of_lt b.2.1)
  rel := fun {vs us zs ws} r1 r2 => by
    unfold gVk gUk
    rw [r1.length, r2.length]
    split
    · exact vals_pick (vals_append r1 r2) pj
    · exact .nil
structure Ctx (T : List MF) (I : List FI) (n : Nat) (X : Cx) (C : MC) : Prop where
  hN : X.N = C.N
  nd : C.N.Nodup
  sc : X.env.scope = C.sc
  fk : C.sc.kind = .function
  calm : X.calm = true
  room : Room n X.A
  fc : ∀ x, C.fc x = true → X.fn x = true
  bn : ∀ x ∈ bnames, X.mg x = none
  fns : ∀ f F, T[f]? = some F → ∃ i, I[f]? = some i ∧ C.G[f]? = some i.x ∧ X.mg i.x = some (.ref i.a) ∧ PySem.W.keepIn X.K (.ref i.a) = true ∧ FnOk X.prog X.w X.K X.mg X.base CX0 n i.a i.fd i.ps (spC X.K (callI T n) f F.np) ∧ Binds X.K i.fd i.ps [] ∧ F.mu.length = F.np
  gc : ∀ x s, (x, s) ∈ C.GC → okS s = true ∧ lenOk s.length = true ∧ ∃ u, X.mg x = some u ∧ L2.RelV (V.str (str0 s)) u
  kf : ∀ f np ns pj, (f, np, ns, pj) ∈ C.KT → ∃ F i, T[f]? = some F ∧ I[f]? = some i ∧ KB X.K i.fd i.ps np ns pj ∧ pj.length = F.np
section
variable {T : List MF} {I : List FI} {n : Nat} {X : Cx} {C : MC}
theorem relS_blk {scope : Scope} (h : X.env.scope = C.sc) : relabel scope X.env = relS scope C.sc := by
  unfold relabel relS Env.kindOf
  rw [h]
theorem Ctx.blk (c : Ctx T I n X C) {scope : Scope} (hk : scope.kind = .function) (s : Shared) (H : Hp) (A : Addr) (cl : List (Str × Addr)) (fp : List Addr) : Ctx T I n (X.blk s H scope (compEnvC scope cl A X.env) fp) (C.blk scope) where
  hN := c.hN
  nd := c.nd
  sc := relS_blk c.sc
  fk := hk
  calm := c.calm
  room := c.room
  fc := fun x h => h
  bn := c.bn
  fns := c.fns
  gc := c.gc
  kf := c.kf
theorem Ctx.gl (c : Ctx T I n X C) {x : Str} (h : C.glo x = true) : Gl X x ∧ (x == ("__debug__" : Str)) = false := by
  unfold MC.glo at h
  rw [Bool.and_eq_true] at h
  refine ⟨?_, by simpa using h.2⟩
  have h1 := h.1
  show X.env.scope.names.lookup x = some .globalImplicit
  rw [c.sc]
  split at h1
  · assumption
  · cases h1
theorem Ctx.gn (c : Ctx T I n X C) {x : Str} {s : String} (h : C.nm x s = true) : x = Str.ofString s ∧ Gl X x ∧ (x == ("__debug__" : Str)) = false := by
  unfold MC.nm at h
  rw [Bool.and_eq_true] at h
  exact ⟨eq_of_beq h.1, c.gl h.2⟩
theorem Ctx.var (c : Ctx T I n X C) {i : Nat} {x : Str} {p : Pos} (h : C.vis i x = true) : PE X (.Name x p) (tVar i) := by
  unfold MC.vis at h
  simp only [Bool.and_eq_true, decide_eq_true_eq] at h
  obtain ⟨⟨⟨h1, h2⟩, h3⟩, h4⟩ := h
  refine pe_var (by rw [c.hN]; exact h1) ?_ (by simpa using h3) (by simpa using h4)
  unfold Vis
  rw [c.sc]
  split at h2
  · exact .inl ‹_›
  · exact .inr (.inl ‹_›)
  · exact .inr (.inr ‹_›)
  · cases h2
theorem Ctx.loc (c : Ctx T I n X C) {i : Nat} {x : Str} (h : C.loc i x = true) : X.N[i]? = some x ∧ L2.Loc X.env.scope x ∧ (X.fn x = true ∨ X.env.scope.names.lookup x = some .local) := by
  unfold MC.loc at h
  simp only [Bool.and_eq_true, decide_eq_true_eq] at h
  obtain ⟨h1, h2⟩ := h
  refine ⟨by rw [c.hN]; exact h1, ?_, ?_⟩
  · unfold L2.Loc
    rw [c.sc]
    split at h2
    · exact .inl ‹_›
    · exact .inr ‹_›
    · cases h2
  · rw [c.sc]
    split at h2
    · exact .inr ‹_›
    · exact .inl (c.fc x h2)
    · cases h2
theorem Ctx.hu (c : Ctx T I n X C) : X.A.units + 66 < cLine := by
  have := c.room.un
  omega
theorem star_cons {env : Env} {x : Expr} {xs : List Expr} (h : plainX x = true) : starEach (x :: xs) env = (false, eval x env) :: starEach xs env := by
  cases x <;> first | rfl | (cases h)
theorem assign_cons {env : Env} {x : Expr} {xs : List Expr} (h : plainX x = true) : assignEach (x :: xs) env = (false, assign x env) :: assignEach xs env := by
  cases x <;> first | rfl | (cases h)
theorem star_plain {env : Env} {pos : Pos} : ∀ {xs : List Expr}, xs.all plainX = true → (backTo pos (starEach xs env)).any (·.1) = false
  | [], _ => rfl
  | x :: xs, h => by
    rw [List.all_cons, Bool.and_eq_true] at h
    rw [star_cons h.1]
    show (false || (backTo pos (starEach xs env)).any (·.1)) = false
    rw [star_plain h.2]
    rfl
theorem mL_plain : ∀ {m : ME} {xs : List Expr}, mL m C xs = true → xs.all plainX = true
  | .nil, [], _ => rfl
  | .cons a r, x :: xs, h => by
    simp only [mL, Bool.and_eq_true] at h
    rw [List.all_cons, h.1.1, mL_plain h.2]
    rfl
  | .nil, _ :: _, h => by simp [mL] at h
  | .cons _ _, [], h => by simp [mL] at h
  | .var _, _, h => by simp [mL] at h
  | .k _, _, h => by simp [mL] at h
  | .bin _ _ _, _, h => by simp [mL] at h
  | .neg _, _, h => by simp [mL] at h
  | .not _, _, h => by simp [mL] at h
  | .one _, _, h => by simp [mL] at h
  | .and _ _, _, h => by simp [mL] at h
  | .or _ _, _, h => by simp [mL] at h
  | .ite _ _ _, _, h => by simp [mL] at h
  | .cmp _ _ _, _, h => by simp [mL] at h
  | .chain _ _ _ _ _, _, h => by simp [mL] at h
  | .tup _, _, h => by simp [mL] at h
  | .lst _, _, h => by simp [mL] at h
  | .ix _ _, _, h => by simp [mL] at h
  | .idx _ _, _, h => by simp [mL] at h
  | .sl _ _ _, _, h => by simp [mL] at h
  | .rev _, _, h => by simp [mL] at h
  | .lrng _, _, h => by simp [mL] at h
  | .nop, _, h => by simp [mL] at h
  | .call _ _, _, h => by simp [mL] at h
  | .callk _ _ _ _ _ _, _, h => by simp [mL] at h
  | .bi _ _, _, h => by simp [mL] at h
  | .isi _ _ _, _, h => by simp [mL] at h
  | .pop _ _, _, h => by simp [mL] at h
  | .lc _ _ _ _ _, _, h => by simp [mL] at h
  | .lc2 _ _ _ _ _ _ _ _ _, _, h => by simp [mL] at h
  | .ss2 _ _ _ _ _ _ _ _ _, _, h => by simp [mL] at h
  | .seq _, _, h => by simp [mL] at h
  | .rng1 _, _, h => by simp [mL] at h
  | .rng2 _ _, _, h => by simp [mL] at h
  | .zip _ _, _, h => by simp [mL] at h
  | .enum _, _, h => by simp [mL] at h
theorem ss_lc2 {t t2 : Tg} {it c it2 c2 e : ME} {vs vs2 : List Nat} {C : MC} {x : Expr} {n : Str} {q : Comprehension × Comprehension × Expr × Scope} (hq : ssParts x = some (n, q)) (h : mE (.ss2 t it c t2 it2 c2 e vs vs2) C x = true) (p : Pos) :
    C.nm n "sorted" = true ∧ mE (.lc2 t it c t2 it2 c2 e vs vs2) C (.ListComp q.2.2.1 [q.1, q.2.1] q.2.2.2 p) = true := by
  simp only [mE, hq] at h
  rw [Bool.and_eq_true] at h
  refine ⟨h.1, ?_⟩
  simp only [mE, lc2Parts]
  exact h.2
theorem boot_b {b : Bi} {n : String} (h : bName b = some n) : bootBuiltins (Str.ofString n) = some (.builtin n) ∧ Str.ofString n ∈ bnames ∧ Str.ofString n ≠ "__name__" := by
  cases b <;> simp only [bName] at h <;> first | (cases h; done) | (cases h; refine ⟨by decide +kernel, by decide +kernel, by decide +kernel⟩)
theorem boot_t {b : Bi} {n : String} (h : tName b = some n) : bootBuiltins (Str.ofString n) = some (.type n) ∧ Str.ofString n ∈ bnames ∧ Str.ofString n ≠ "__name__" := by
  cases b <;> simp only [tName] at h <;> first | (cases h; done) | (cases h; refine ⟨by decide +kernel, by decide +kernel, by decide +kernel⟩)
theorem boot_ty (t : Ty) : bootBuiltins (Str.ofString (tyS t)) = some (.type (tyS t)) ∧ Str.ofString (tyS t) ∈ bnames ∧ Str.ofString (tyS t) ≠ "__name__" := by
  cases t <;> refine ⟨by decide +kernel, by decide +kernel, by decide +kernel⟩
theorem Ctx.ty (c : Ctx T I n X C) {z : Str} {t : Ty} {p : Pos} (h : C.nm z (tyS t) = true) : PE X (.Name z p) (tC (.ty (tyS t))) := by
  obtain ⟨rfl, g, d⟩ := c.gn h
  obtain ⟨b1, b2, b3⟩ := boot_ty t
  exact pe_bltn g (c.bn _ b2) b1 rfl b3 d
theorem Ctx.tys (c : Ctx T I n X C) : ∀ {cs : List Ty} {es : List Expr}, mTys C cs es = true → PA X es (tTys cs)
  | [], [], _ => PA.imp pa_nil fun σ H Q q => q
  | t :: ts, .Name z p :: es, h => by
    simp only [mTys, Bool.and_eq_true] at h
    refine PA.imp (pa_cons (c.ty h.1) (c.tys h.2) rfl) fun σ H Q q => q
  | [], _ :: _, h => by simp [mTys] at h
  | _ :: _, [], h => by simp [mTys] at h
  | _ :: _, e :: _, h => by
    cases e with
    | Name z p =>
      simp only [mTys, Bool.and_eq_true] at h
      exact PA.imp (pa_cons (c.ty h.1) (c.tys h.2) rfl) fun σ H Q q => q
    | _ => simp [mTys] at h
end
end MP

set_option Elab.async false
set_option linter.all false
set_option maxRecDepth 100000
namespace MP
open PySem PySem.Spec PyProof.Rows L2 RZ
structure Snd1 (T : List MF) (I : List FI) (n : Nat) (m : ME) (X : Cx) (C : MC) : Prop where
  e : ∀ e, mE m C e = true → PE X e (tE X.K (moT T) (callI T n) m) ∧ PT X e (tT X.K (moT T) (callI T n) m) ∧ ∀ op vs p, e = .BoolOp op vs p → PW X e (tT X.K (moT T) (callI T n) m)
  l : ∀ es, mL m C es = true → PA X es (tL X.K (moT T) (callI T n) m) ∧ PA X es (tOs X.K (moT T) (callI T n) m) ∧ (∀ ms, PA X es (tA X.K (moT T) (callI T n) ms m)) ∧ ∀ kws : List Keyword, kws.map (fun k => k.value) = es → PK X kws (tL X.K (moT T) (callI T n) m)
  i : ∀ it tg, mI m C it tg = true → PI X tg it (tI X.K (moT T) (callI T n) m)
  d : ∀ es, mLd m C es = true → PA X es (tL X.K (moT T) (callI T n) m)
def Snd (T : List MF) (I : List FI) (n : Nat) (m : ME) : Prop := ∀ X C, Ctx T I n X C → Snd1 T I n m X C
section
variable {T : List MF} {I : List FI} {n : Nat}
/-- only an expression -/
theorem Snd1.ofE {m : ME} {X : Cx} {C : MC} (hl : ∀ es, mL m C es = false) (hi : ∀ it tg, mI m C it tg = false) (he : ∀ e, mE m C e = true → PE X e (tE X.K (moT T) (callI T n) m) ∧ PT X e (tT X.K (moT T) (callI T n) m) ∧ ∀ op vs p, e = .BoolOp op vs p → PW X e (tT X.K (moT T) (callI T n) m)) (hd : ∀ es, mLd m C es = false := by intro es; simp [mLd]) : Snd1 T I n m X C :=
  ⟨he, fun es h => (by rw [hl] at h; cases h), fun it tg h => (by rw [hi] at h; cases h), fun es h => (by rw [hd] at h; cases h)⟩
/-- an expression whose truth is its value's -/
theorem val3 {m : ME} {X : Cx} {e : Expr} (h : PE X e (tE X.K (moT T) (callI T n) m)) (ht : ∀ whole, isTrue e X.env whole = (do let v ← whole; standAt e.pos; holding [v] (truthy v))) (hb : ∀ op vs p, e ≠ .BoolOp op vs p) :
    PE X e (tE X.K (moT T) (callI T n) m) ∧ PT X e (tT X.K (moT T) (callI T n) m) ∧ ∀ op vs p, e = .BoolOp op vs p → PW X e (tT X.K (moT T) (callI T n) m) := ⟨h, snd_truth h ht, fun op vs p q => absurd q (hb op vs p)⟩
/-- a name looked at -/
theorem Ctx.varOf {X : Cx} {C : MC} (c : Ctx T I n X C) {i : Nat} {e : Expr} (h : mE (.var i) C e = true) : PE X e (tVar i) ∧ (∀ whole, isTrue e X.env whole = (do let v ← whole; standAt e.pos; holding [v] (truthy v))) := by
  unfold mE at h
  split at h
  all_goals first | (cases h; done) | (rename_i heq; cases heq)
  exact ⟨c.var h, fun _ => rfl⟩
theorem Ctx.op {X : Cx} {C : MC} (c : Ctx T I n X C) {m : ME} {e : Expr} (s : Snd1 T I n m X C) (h : mE m C e = true) : PE X e (tO X.K (moT T) (callI T n) m) :=
  snd_op (s.e e h).1 fun i hi => by subst hi; exact (c.varOf h).1
theorem Ctx.tst {X : Cx} {C : MC} (c : Ctx T I n X C) {m : ME} {e : Expr} (s : Snd1 T I n m X C) (h : mE m C e = true) (hn : isNop m = false) : PT X e (tP X.K (moT T) (callI T n) m) :=
  snd_tst (s.e e h).2.1 (fun i hi => by subst hi; exact snd_peekT (c.varOf h).1 (c.varOf h).2) fun z => by rw [z] at hn; cases hn
theorem plain_of {m : ME} {C : MC} {e : Expr} (h : mE m C e = true) : plainX e = true := by
  cases e <;> first | rfl | (unfold mE at h; split at h <;> first | (cases h; done) | (rename_i heq; cases heq))
theorem nset {e : Expr} (h : noSet e = true) : ∀ env x, foldedSetIterable e env x = pure x := by
  intro env x
  cases e <;> first | rfl | cases h
theorem tg_ok {X : Cx} {C : MC} (c : Ctx T I n X C) : ∀ t : Tg, (∀ e, mTg t C e = true → PG X e (tG X.K t)) ∧ ∀ es, mTgL t C es = true → PGs X es (tGs X.K t) ∧ (assignEach es X.env).findIdx? (·.1) = none ∧ (assignEach es X.env).length = es.length ∧ ∀ ds env env', tgL t ds env = some env' → ds.length = es.length := by
  intro t
  induction t with
  | nm i =>
    refine ⟨fun e h => ?_, fun es h => by simp [mTgL] at h⟩
    unfold mTg at h
    split at h
    all_goals first | (cases h; done) | (rename_i heq; cases heq)
    obtain ⟨h1, h2, h3⟩ := c.loc h
    exact snd_gnm (pg_name (by rw [c.hN]; exact c.nd) h1 h2 h3)
  | tp r ih =>
    refine ⟨fun e h => ?_, fun es h => by simp [mTgL] at h⟩
    unfold mTg at h
    split at h
    all_goals first | (cases h; done) | (rename_i heq; cases heq)
    obtain ⟨g, h1, h2, h3⟩ := ih.2 _ h
    exact snd_gtp (pg_tup c.calm g h2 h1) (pg_lst c.calm g h2 h1) h3
  | nil =>
    refine ⟨fun e h => by simp [mTg] at h, fun es h => ?_⟩
    cases es with
    | nil =>
      refine ⟨snd_gnil, rfl, rfl, fun ds env env' h => ?_⟩
      cases ds with
      | nil => rfl
      | cons _ _ => simp [tgL] at h
    | cons _ _ => simp [mTgL] at h
  | cons a r iha ihr =>
    refine ⟨fun e h => by simp [mTg] at h, fun es h => ?_⟩
    cases es with
    | nil => simp [mTgL] at h
    | cons e es =>
      simp only [mTgL, Bool.and_eq_true] at h
      obtain ⟨⟨hp, h1⟩, h2⟩ := h
      obtain ⟨g, k1, k2, k3⟩ := ihr.2 _ h2
      have ga := iha.1 _ h1
      refine ⟨snd_gcons ga g (pgs_cons ga g (by rw [assign_cons hp]; rfl)), ?_, ?_, fun ds env env' h => ?_⟩
      · rw [assign_cons hp, List.findIdx?_cons]
        simp only [Bool.false_eq_true, if_false]
        rw [k1]
        rfl
      · rw [assign_cons hp, List.length_cons, List.length_cons, k2]
      · cases ds with
        | nil => simp [tgL] at h
        | cons x xs =>
          simp only [tgL] at h
          split at h
          case h_2 => cases h
          rw [List.length_cons, List.length_cons, k3 _ _ _ h]
/-- the parts of a comprehension -/
structure LcP (T : List MF) (I : List FI) (n : Nat) (X : Cx) (C : MC) (t : Tg) (it c e : ME) (vs : List Nat) (elt tg iter : Expr) (ifs : List Expr) (scope : Scope) : Prop where
  hi : PI X tg iter (tI X.K (moT T) (callI T n) it)
  ok : BlkOk X.N X.env.scope scope (ownOf C.N vs)
  hvs : (ownOf C.N vs).map (·.2) = vs
  hg : ∀ (s : Shared) (H : Hp) (A : Addr) (cl : List (Str × Addr)) (fp : List Addr), PG (X.blk s H scope (compEnvC scope cl A X.env) fp) tg (tG X.K t)
  ht : ∀ (s : Shared) (H : Hp) (A : Addr) (cl : List (Str × Addr)) (fp : List Addr), PTs (X.blk s H scope (compEnvC scope cl A X.env) fp) ifs (tP X.K (moT T) (callI T n) c)
  he : ∀ (s : Shared) (H : Hp) (A : Addr) (cl : List (Str × Addr)) (fp : List Addr), PE (X.blk s H scope (compEnvC scope cl A X.env) fp) elt (tE X.K (moT T) (callI T n) e)
  hs : ∀ x, foldedSetIterable iter X.env x = pure x
  hv : ∀ j ∈ tgs t, j ∈ vs
theorem PTs.imp {X : Cx} {es : List Expr} {t t' : TT} (h : PTs X es t) (i : ∀ σ H Q, t' σ H Q → t σ H Q) : PTs X es t' := ⟨fun pins s σ H Q I q => h.run pins s σ H Q I (i σ H Q q)⟩
theorem tests_ok {X : Cx} {C : MC} (c : Ctx T I n X C) {m : ME} (sm : Snd1 T I n m X C) {ifs : List Expr} (h : (match ifs with | [] => isNop m | [x] => !isNop m && mE m C x | _ => false) = true) : PTs X ifs (tP X.K (moT T) (callI T n) m) := by
  split at h
  · have : m = .nop := by cases m <;> first | rfl | cases h
    subst this
    exact PTs.imp pts_nil fun σ H Q q => by
      obtain ⟨F, M, env, env', b, ok, S, e, q⟩ := q
      simp only [MP.tst] at e
      cases e
      exact q M H S
  · rw [Bool.and_eq_true] at h
    exact pts_one (c.tst sm h.2 (by simpa using h.1))
  · cases h
theorem lcP {X : Cx} {C : MC} (c : Ctx T I n X C) {t : Tg} {it cc e : ME} {vs : List Nat} (si : Snd T I n it) (sc : Snd T I n cc) (se : Snd T I n e) {elt tg iter : Expr} {ifs : List Expr} {k : Int} {scope : Scope} {p : Pos}
    (h : mE (.lc t it cc e vs) C (.ListComp elt [⟨tg, iter, ifs, k⟩] scope p) = true) : k = 0 ∧ LcP T I n X C t it cc e vs elt tg iter ifs scope := by
  simp only [mE, Bool.and_eq_true, decide_eq_true_eq] at h
  obtain ⟨⟨⟨⟨⟨⟨⟨⟨h0, h1⟩, h2⟩, h3⟩, h4⟩, h5⟩, h6⟩, h7⟩, h8⟩ := h
  have b : BlkOk C.N C.sc scope (ownOf C.N vs) := blkOk_by h2
  refine ⟨h0, (si X C c).i _ _ h5, by rw [c.hN, c.sc]; exact b, h3, fun s H A cl fp => (tg_ok (c.blk b.kind s H A cl fp) t).1 _ h6, fun s H A cl fp => tests_ok (c.blk b.kind s H A cl fp) (sc _ _ (c.blk b.kind s H A cl fp)) h7,
    fun s H A cl fp => ((se _ _ (c.blk b.kind s H A cl fp)).e _ h8).1, nset h1 _, fun j hj => ?_⟩
  have := List.all_eq_true.mp h4 j hj
  simpa using this
/-- the parts of a comprehension of two clauses -/
structure Lc2P (T : List MF) (I : List FI) (n : Nat) (X : Cx) (C : MC) (t t2 : Tg) (it c it2 c2 e : ME) (vs vs2 : List Nat) (elt tg iter tg1 iter1 : Expr) (ifs ifs1 : List Expr) (scope : Scope) : Prop where
  hi : PI X tg iter (tI X.K (moT T) (callI T n) it)
  ok : BlkOk X.N X.env.scope scope (ownOf C.N vs)
  hvs : (ownOf C.N vs).map (·.2) = vs
  hg : ∀ (s : Shared) (H : Hp) (A : Addr) (cl : List (Str × Addr)) (fp : List Addr), PG (X.blk s H scope (compEnvC scope cl A X.env) fp) tg (tG X.K t)
  ht : ∀ (s : Shared) (H : Hp) (A : Addr) (cl : List (Str × Addr)) (fp : List Addr), PTs (X.blk s H scope (compEnvC scope cl A X.env) fp) ifs (tP X.K (moT T) (callI T n) c)
  hi1 : ∀ (s : Shared) (H : Hp) (A : Addr) (cl : List (Str × Addr)) (fp : List Addr), PI (X.blk s H scope (compEnvC scope cl A X.env) fp) tg1 iter1 (tI X.K (moT T) (callI T n) it2)
  hg1 : ∀ (s : Shared) (H : Hp) (A : Addr) (cl : List (Str × Addr)) (fp : List Addr), PG (X.blk s H scope (compEnvC scope cl A X.env) fp) tg1 (tG X.K t2)
  ht1 : ∀ (s : Shared) (H : Hp) (A : Addr) (cl : List (Str × Addr)) (fp : List Addr), PTs (X.blk s H scope (compEnvC scope cl A X.env) fp) ifs1 (tP X.K (moT T) (callI T n) c2)
  he : ∀ (s : Shared) (H : Hp) (A : Addr) (cl : List (Str × Addr)) (fp : List Addr), PE (X.blk s H scope (compEnvC scope cl A X.env) fp) elt (tE X.K (moT T) (callI T n) e)
  hs : ∀ x, foldedSetIterable iter X.env x = pure x
  hs1 : ∀ env x, foldedSetIterable iter1 env x = pure x
  hv : ∀ j ∈ tgs t, j ∈ vs
  hv2 : ∀ j ∈ tgs t2, j ∈ vs2
  hvv : ∀ j ∈ vs2, j ∈ vs
theorem lc2P {X : Cx} {C : MC} (c : Ctx T I n X C) {t t2 : Tg} {it cc it2 cc2 e : ME} {vs vs2 : List Nat} (si : Snd T I n it) (sc : Snd T I n cc) (si2 : Snd T I n it2) (sc2 : Snd T I n cc2) (se : Snd T I n e) {q : Comprehension × Comprehension × Expr × Scope} {x : Expr} (hq : lc2Parts x = some q)
    (h : mE (.lc2 t it cc t2 it2 cc2 e vs vs2) C x = true) : q.1.is_async = 0 ∧ q.2.1.is_async = 0 ∧ Lc2P T I n X C t t2 it cc it2 cc2 e vs vs2 q.2.2.1 q.1.target q.1.iter q.2.1.target q.2.1.iter q.1.ifs q.2.1.ifs q.2.2.2 := by
  simp only [mE, hq, Bool.and_eq_true, decide_eq_true_eq] at h
  obtain ⟨⟨⟨⟨⟨⟨⟨⟨⟨⟨⟨⟨⟨⟨⟨h0, h0'⟩, h1⟩, h1'⟩, h2⟩, h3⟩, h4⟩, h4'⟩, h4''⟩, h5⟩, h6⟩, h7⟩, h8⟩, h9⟩, ha⟩, hb⟩ := h
  have b : BlkOk C.N C.sc q.2.2.2 (ownOf C.N vs) := blkOk_by h2
  have cb := fun s H A cl fp => c.blk b.kind s H A cl fp
  exact ⟨h0, h0', {
    hi := (si X C c).i _ _ h5
    ok := by rw [c.hN, c.sc]; exact b
    hvs := h3
    hg := fun s H A cl fp => (tg_ok (cb s H A cl fp) t).1 _ h6
    ht := fun s H A cl fp => tests_ok (cb s H A cl fp) (sc _ _ (cb s H A cl fp)) h7
    hi1 := fun s H A cl fp => (si2 _ _ (cb s H A cl fp)).i _ _ h8
    hg1 := fun s H A cl fp => (tg_ok (cb s H A cl fp) t2).1 _ h9
    ht1 := fun s H A cl fp => tests_ok (cb s H A cl fp) (sc2 _ _ (cb s H A cl fp)) ha
    he := fun s H A cl fp => ((se _ _ (cb s H A cl fp)).e _ hb).1
    hs := nset h1 _
    hs1 := fun env => nset h1' env
    hv := fun j hj => by simpa using List.all_eq_true.mp h4 j hj
    hv2 := fun j hj => by simpa using List.all_eq_true.mp h4' j hj
    hvv := fun j hj => by simpa using List.all_eq_true.mp h4'' j hj }⟩
end
end MP

set_option Elab.async false
set_option linter.all false
set_option maxRecDepth 100000
namespace MP
open PySem PySem.Spec PyProof.Rows L2 RZ
section
variable {T : List MF} {I : List FI} {n : Nat}
theorem snd_list (m : ME) (h : ∀ es C, mL m C es = false) (X : Cx) (C : MC) : ∀ es, mL m C es = true → PA X es (tL X.K (moT T) (callI T n) m) ∧ PA X es (tOs X.K (moT T) (callI T n) m) ∧ ∀ ms, PA X es (tA X.K (moT T) (callI T n) ms m) := fun es q => by rw [h] at q; cases q
theorem call_l {b : Bool} {f : Nat} (h : 1 = 1) : True := trivial
theorem slice_part {X : Cx} {C : MC} (c : Ctx T I n X C) {m : ME} (s : Snd1 T I n m X C) {o : Option Expr} (h : (match o with | none => isNop m | some e => !isNop m && mE m C e) = true) : PO X o (tPt X.K (moT T) (callI T n) m) := by
  split at h
  · have : m = .nop := by cases m <;> first | rfl | cases h
    subst this
    exact snd_nopart
  · rw [Bool.and_eq_true] at h
    exact snd_part (s.e _ h.2).1 fun z => by rw [z] at h; cases h.1
theorem no_slice {e : Expr} (h : noSlice e = true) : PlainIx e := by
  intro o i
  cases e <;> first | rfl | cases h
theorem PK.imp {X : Cx} {kws : List Keyword} {t t' : TA} (h : PK X kws t) (i : ∀ σ H Q, t' σ H Q → t σ H Q) : PK X kws t' := ⟨fun pos pins s σ H Q I q => h.run pos pins s σ H Q I (i σ H Q q)⟩
section
variable {X : Cx} {mo : Nat → List Bool} {cf : CF}
theorem snd_knil : PK X [] (tL X.K mo cf .nil) := PK.imp pk_nil fun σ H Q q => by
  obtain ⟨F, M, env, env', ds, ok, S, e, q⟩ := q
  simp only [evL] at e
  cases e
  exact q M H [] S .nil
theorem snd_kcons {a b : ME} {nm : Option Str} {x : Expr} {kp : Pos} {kws : List Keyword} (ha : PE X x (tE X.K mo cf a)) (hb : PK X kws (tL X.K mo cf b)) : PK X (⟨nm, x, kp⟩ :: kws) (tL X.K mo cf (.cons a b)) :=
  PK.imp (pk_cons ha hb) fun σ H Q q => by
    obtain ⟨F, M, env, env', ds, ok, S, e, q⟩ := q
    simp only [evL] at e
    split at e
    case h_2 => cases e
    rename_i e1 ra h1
    split at e
    case h_2 => cases e
    rename_i e2 xs2 h2
    cases e
    refine tV_go ok S h1 fun M1 H1 v T1 S1 R1 => ?_
    exact ⟨_, M1, e1, env', _, S1.snapOk, S1.snap, h2, fun M2 H2 vs T2 R2 => q M2 H2 (v :: vs) (S1.trans T2) (.cons (S1.rep T2 R1) R2)⟩
end
theorem kw_ok (env : Env) : ∀ (kws : List Keyword) {ns : List Str}, kwN kws = some ns → (∀ pos, (backToKw pos (keywordEach kws env)).all (·.1.isSome) = true) ∧ (∀ pos, (backToKw pos (keywordEach kws env)).filterMap (·.1) = ns) ∧ ∀ pos, (backToKw pos (keywordEach kws env)).any (·.1.isNone) = false
  | [], ns, h => by
    cases h
    exact ⟨fun _ => rfl, fun _ => rfl, fun _ => rfl⟩
  | ⟨none, _, _⟩ :: _, ns, h => by cases h
  | ⟨some n, v, p⟩ :: r, ns, h => by
    unfold kwN at h
    split at h
    case h_2 => cases h
    rename_i ms hm
    cases h
    obtain ⟨a, b, c⟩ := kw_ok env r hm
    refine ⟨fun pos => ?_, fun pos => ?_, fun pos => ?_⟩
    · show (true && (backToKw pos (keywordEach r env)).all (·.1.isSome)) = true
      rw [a pos]
      rfl
    · show n :: (backToKw pos (keywordEach r env)).filterMap (·.1) = n :: ms
      rw [b pos]
    · show (false || (backToKw pos (keywordEach r env)).any (·.1.isNone)) = false
      rw [c pos]
      rfl
theorem pe_kw {X : Cx} {CX : CXT} {k : Nat} {f : Addr} {fd : FuncData} {ps ks : List Str} {sp : Sp} {E : XK} {x : Str} {p pos : Pos} {kws : List Keyword} {tk : TA} {g : List Value → List Value → List Value} {gV : List V → List V → List V}
    (F : FnOk X.prog X.w X.K X.mg X.base CX k f fd ps sp) (hr : Room k X.A) (hg : Gl X x) (hm : X.mg x = some (.ref f)) (hk : PySem.W.keepIn X.K (.ref f) = true) (hb : KBinds X.K fd ps ks g gV) (hx : Passes CX X E) (hkw : PK X kws tk)
    (w1 : ∀ pos, (backToKw pos (keywordEach kws X.env)).all (·.1.isSome) = true) (w2 : ∀ pos, (backToKw pos (keywordEach kws X.env)).filterMap (·.1) = ks) (w3 : ∀ pos, (backToKw pos (keywordEach kws X.env)).any (·.1.isNone) = false) (d : (x == ("__debug__" : Str)) = false) :
    PE X (.Call (.Name x p) [] kws pos) (tCallK sp gV E tNil tk) := by
  refine ⟨fun pins s σ H Q I h => ?_⟩
  refine wpAny_Call_Name_kw (ld_glob I hg hm ?_ d)
  refine PySem.W.callWith_KW0 (h₀ := X.base) I.ok.mod.kin hk (w1 _) (thn (hkw.run pos pins s σ H _ I h) fun ws s2 ⟨zs, H2, I2, rz, q2⟩ => ⟨I2.kIn, ?_⟩) ?_
  · rw [w2]
    exact run_fnk F hr hb hx I2 .nil rz q2
  · rw [w3]
    rfl
theorem snd_all : ∀ m : ME, Snd T I n m := by
  intro m
  induction m with
  | var i =>
    intro X C c
    refine Snd1.ofE (fun es => by simp [mL]) (fun it tg => by simp [mI]) fun e h => ?_
    obtain ⟨h1, h2⟩ := c.varOf h
    refine val3 (snd_var h1) h2 fun op vs p z => ?_
    subst z
    simp [mE] at h
  | k d =>
    intro X C c
    refine Snd1.ofE (fun es => by simp [mL]) (fun it tg => by simp [mI]) fun e h => ?_
    simp only [mE] at h
    unfold mKx at h
    split at h
    · refine val3 ?_ (fun _ => rfl) fun op vs p z => by cases z
      unfold mK at h
      split at h
      · exact snd_k pe_non rfl
      · rename_i b b'
        have := eq_of_beq h
        subst this
        exact snd_k pe_bl rfl
      · rename_i i j
        have := eq_of_beq h
        subst this
        exact snd_k pe_int rfl
      · rename_i s x
        simp only [Bool.and_eq_true, decide_eq_true_eq] at h
        obtain ⟨⟨rfl, h2⟩, h3⟩ := h
        exact snd_k pe_str (by simp only [kV, h2, h3]; rfl)
      · cases h
    · refine val3 ?_ (fun _ => rfl) fun op vs p z => by cases z
      split at h
      · rename_i y p s
        simp only [Bool.and_eq_true, decide_eq_true_eq] at h
        obtain ⟨h1, h2⟩ := h
        obtain ⟨g, d⟩ := c.gl h1
        obtain ⟨k1, k2, u, hu, hr⟩ := c.gc _ _ h2
        exact snd_k (pe_glob g hu hr d) (by simp only [kV, k1, k2]; rfl)
      · cases h
    · cases h
  | bin op a b iha ihb =>
    intro X C c
    refine Snd1.ofE (fun es => by simp [mL]) (fun it tg => by simp [mI]) fun e h => ?_
    unfold mE at h
    split at h
    all_goals first | (cases h; done) | (rename_i heq; cases heq)
    simp only [Bool.and_eq_true, decide_eq_true_eq] at h
    obtain ⟨⟨rfl, h1⟩, h2⟩ := h
    exact val3 (snd_bin (c.op (iha X _ c) h1) (c.op (ihb X _ c) h2)) (fun _ => rfl) fun op vs p z => by cases z
  | neg a iha =>
    intro X C c
    refine Snd1.ofE (fun es => by simp [mL]) (fun it tg => by simp [mI]) fun e h => ?_
    unfold mE at h
    split at h
    all_goals first | (cases h; done) | (rename_i heq; cases heq)
    exact val3 (snd_neg ((iha X _ c).e _ h).1) (fun _ => rfl) fun op vs p z => by cases z
  | not a iha =>
    intro X C c
    refine Snd1.ofE (fun es => by simp [mL]) (fun it tg => by simp [mI]) fun e h => ?_
    unfold mE at h
    split at h
    all_goals first | (cases h; done) | (rename_i heq; cases heq)
    rw [Bool.and_eq_true] at h
    obtain ⟨h1, h2⟩ := h
    refine ⟨snd_not (c.op (iha X _ c) h1), snd_notT ((iha X _ c).e _ h1).2.1 (fun i hi => ?_) (fun z => by rw [z] at h2; cases h2), fun op vs p z => by cases z⟩
    subst hi
    exact snd_peekT (c.varOf h1).1 (c.varOf h1).2
  | one a iha =>
    intro X C c
    refine Snd1.ofE (fun es => by simp [mL]) (fun it tg => by simp [mI]) fun e h => ?_
    unfold mE at h
    split at h
    all_goals first | (cases h; done) | (rename_i heq; cases heq)
    obtain ⟨h1, h2, _⟩ := (iha X _ c).e _ h
    exact ⟨snd_one h1, (snd_oneW h2).pt, fun op vs p z => by cases z; exact snd_oneW h2⟩
  | and a b iha ihb =>
    intro X C c
    refine Snd1.ofE (fun es => by simp [mL]) (fun it tg => by simp [mI]) fun e h => ?_
    unfold mE at h
    split at h
    all_goals first | (cases h; done) | (rename_i heq; cases heq)
    rw [Bool.and_eq_true] at h
    obtain ⟨h1, h2⟩ := h
    obtain ⟨a1, a2, _⟩ := (iha X _ c).e _ h1
    obtain ⟨b1, _, b3⟩ := (ihb X _ c).e _ h2
    have w := snd_andW a2 (b3 _ _ _ rfl)
    exact ⟨snd_and a1 b1, w.pt, fun op vs p z => by cases z; exact w⟩
  | or a b iha ihb =>
    intro X C c
    refine Snd1.ofE (fun es => by simp [mL]) (fun it tg => by simp [mI]) fun e h => ?_
    unfold mE at h
    split at h
    all_goals first | (cases h; done) | (rename_i heq; cases heq)
    rw [Bool.and_eq_true] at h
    obtain ⟨h1, h2⟩ := h
    obtain ⟨a1, a2, _⟩ := (iha X _ c).e _ h1
    obtain ⟨b1, _, b3⟩ := (ihb X _ c).e _ h2
    have w := snd_orW a2 (b3 _ _ _ rfl)
    exact ⟨snd_or a1 b1, w.pt, fun op vs p z => by cases z; exact w⟩
  | ite c' a b ihc iha ihb =>
    intro X C c
    refine Snd1.ofE (fun es => by simp [mL]) (fun it tg => by simp [mI]) fun e h => ?_
    unfold mE at h
    split at h
    all_goals first | (cases h; done) | (rename_i heq; cases heq)
    simp only [Bool.and_eq_true] at h
    obtain ⟨⟨⟨h0, hn⟩, h1⟩, h2⟩ := h
    have t := c.tst (ihc X _ c) h0 (by simpa using hn)
    obtain ⟨a1, a2, _⟩ := (iha X _ c).e _ h1
    obtain ⟨b1, b2, _⟩ := (ihb X _ c).e _ h2
    exact ⟨snd_ite t a1 b1, snd_iteT t a2 b2, fun op vs p z => by cases z⟩
  | cmp op a b iha ihb =>
    intro X C c
    refine Snd1.ofE (fun es => by simp [mL]) (fun it tg => by simp [mI]) fun e h => ?_
    unfold mE at h
    split at h
    all_goals first | (cases h; done) | (rename_i heq; cases heq)
    simp only [Bool.and_eq_true, decide_eq_true_eq] at h
    obtain ⟨⟨⟨rfl, h1⟩, h2⟩, h3⟩ := h
    obtain ⟨p1, p2⟩ := snd_cmp c.hu (op := op) (p := by assumption) (c.op (iha X _ c) h1) (c.op (ihb X _ c) h2) (by simpa using h3)
    exact ⟨p1, p2, fun op vs p z => by cases z⟩
  | chain o1 o2 a b d iha ihb ihd =>
    intro X C c
    refine Snd1.ofE (fun es => by simp [mL]) (fun it tg => by simp [mI]) fun e h => ?_
    unfold mE at h
    split at h
    all_goals first | (cases h; done) | (rename_i heq; cases heq)
    simp only [Bool.and_eq_true, decide_eq_true_eq] at h
    obtain ⟨⟨⟨⟨⟨rfl, rfl⟩, h1⟩, h2⟩, h3⟩, h4⟩ := h
    obtain ⟨p1, p2⟩ := snd_chain c.hu (o1 := o1) (o2 := o2) (p := by assumption) ((iha X _ c).e _ h1).1 ((ihb X _ c).e _ h2).1 ((ihd X _ c).e _ h3).1 (by simpa using h4)
    exact ⟨p1, p2, fun op vs p z => by cases z⟩
  | tup es ih =>
    intro X C c
    refine Snd1.ofE (fun es => by simp [mL]) (fun it tg => by simp [mI]) fun e h => ?_
    unfold mE at h
    split at h
    all_goals first | (cases h; done) | (rename_i heq; cases heq)
    exact val3 (snd_tup ((ih X _ c).d _ h)) (fun _ => rfl) fun op vs p z => by cases z
  | lst es ih =>
    intro X C c
    refine Snd1.ofE (fun es => by simp [mL]) (fun it tg => by simp [mI]) fun e h => ?_
    unfold mE at h
    split at h
    all_goals first | (cases h; done) | (rename_i heq; cases heq)
    exact val3 (snd_lst ((ih X _ c).d _ h)) (fun _ => rfl) fun op vs p z => by cases z
  | nil =>
    intro X C c
    refine ⟨fun e h => by simp [mE] at h, fun es h => ?_, fun it tg h => by simp [mI] at h, fun es h => by
      cases es with
      | nil => exact snd_nil
      | cons _ _ => simp [mLd] at h⟩
    cases es with
    | nil =>
      refine ⟨snd_nil, snd_onil, fun ms => ?_, fun kws hk => ?_⟩
      rotate_left
      · cases kws with
        | nil => exact snd_knil
        | cons _ _ => cases hk
      cases ms with
      | nil => exact snd_anil
      | cons b ms =>
        refine PA.imp pa_nil fun σ H Q q => ?_
        obtain ⟨F, M, env, env', aps, ok, S, e, q⟩ := q
        cases b <;> simp [evA] at e
    | cons _ _ => simp [mL] at h
  | cat a r iha ihr =>
    intro X C c
    refine ⟨fun e h => by simp [mE] at h, fun es h => by simp [mL] at h, fun it tg h => by simp [mI] at h, fun es h => ?_⟩
    cases es with
    | nil => simp [mLd] at h
    | cons x xs =>
      cases x with
      | Starred x p =>
        simp only [mLd, Bool.and_eq_true] at h
        exact snd_cat ((iha X _ c).e _ h.1).1 ((ihr X _ c).d _ h.2)
      | _ => simp [mLd] at h
  | cons a r iha ihr =>
    intro X C c
    refine ⟨fun e h => by simp [mE] at h, fun es h => ?_, fun it tg h => by simp [mI] at h, fun es h => by
      cases es with
      | nil => simp [mLd] at h
      | cons x xs =>
        simp only [mLd, Bool.and_eq_true] at h
        exact snd_cons ((iha X _ c).e _ h.1.2).1 ((ihr X _ c).d _ h.2) (star_cons h.1.1)⟩
    cases es with
    | nil => simp [mL] at h
    | cons x xs =>
      simp only [mL, Bool.and_eq_true] at h
      obtain ⟨⟨h1, h2⟩, h3⟩ := h
      obtain ⟨l1, l2, l3, l4⟩ := (ihr X _ c).l _ h3
      have ea := ((iha X _ c).e _ h2).1
      refine ⟨snd_cons ea l1 (star_cons h1), snd_ocons (c.op (iha X _ c) h2) l2 (star_cons h1), fun ms => ?_, fun kws hk => ?_⟩
      rotate_left
      · cases kws with
        | nil => cases hk
        | cons k kws =>
          obtain ⟨nm, v, kp⟩ := k
          cases hk
          exact snd_kcons ea (l4 kws rfl)
      cases ms with
      | nil =>
        refine PA.imp (snd_cons ea l1 (star_cons h1)) fun σ H Q q => ?_
        obtain ⟨F, M, env, env', aps, ok, S, e, q⟩ := q
        simp [evA] at e
      | cons b ms => exact snd_acons ea (fun i hi => by subst hi; exact (c.varOf h2).1) (l3 ms) (star_cons h1)
  | ix a b iha ihb =>
    intro X C c
    refine Snd1.ofE (fun es => by simp [mL]) (fun it tg => by simp [mI]) fun e h => ?_
    unfold mE at h
    split at h
    all_goals first | (cases h; done) | (rename_i heq; cases heq)
    simp only [Bool.and_eq_true] at h
    obtain ⟨⟨h0, h1⟩, h2⟩ := h
    exact val3 (snd_ix (c.op (iha X _ c) h1) (c.op (ihb X _ c) h2) (no_slice h0)) (fun _ => rfl) fun op vs p z => by cases z
  | idx a b iha ihb =>
    intro X C c
    refine Snd1.ofE (fun es => by simp [mL]) (fun it tg => by simp [mI]) fun e h => ?_
    unfold mE at h
    split at h
    all_goals first | (cases h; done) | (rename_i heq; cases heq)
    simp only [Bool.and_eq_true] at h
    obtain ⟨⟨⟨⟨h0, h1⟩, h2⟩, h3⟩, h4⟩ := h
    have := eq_of_beq h0
    subst this
    have hst := star_cons (env := X.env) (xs := []) h2
    refine val3 (snd_idx (by have := c.hu; omega) (c.op (iha X _ c) h3) (c.op (ihb X _ c) h4) rfl ?_ h1 hst) (fun _ => rfl) fun op vs p z => by cases z
    rw [hst]
    rfl
  | sl a lo hi iha ihl ihh =>
    intro X C c
    refine Snd1.ofE (fun es => by simp [mL]) (fun it tg => by simp [mI]) fun e h => ?_
    unfold mE at h
    split at h
    all_goals first | (cases h; done) | (rename_i heq; cases heq)
    simp only [Bool.and_eq_true] at h
    obtain ⟨⟨h0, h1⟩, h2⟩ := h
    exact val3 (snd_sl (c.op (iha X _ c) h0) (slice_part c (ihl X _ c) h1) (slice_part c (ihh X _ c) h2)) (fun _ => rfl) fun op vs p z => by cases z
  | rev a iha =>
    intro X C c
    refine Snd1.ofE (fun es => by simp [mL]) (fun it tg => by simp [mI]) fun e h => ?_
    unfold mE at h
    split at h
    all_goals first | (cases h; done) | (rename_i heq; cases heq)
    exact val3 (snd_rev (c.op (iha X _ c) h)) (fun _ => rfl) fun op vs p z => by cases z
  | lrng a iha =>
    intro X C c
    refine Snd1.ofE (fun es => by simp [mL]) (fun it tg => by simp [mI]) fun e h => ?_
    unfold mE at h
    split at h
    all_goals first | (cases h; done) | (rename_i heq; cases heq)
    simp only [Bool.and_eq_true] at h
    obtain ⟨⟨⟨h0, h1⟩, h2⟩, h3⟩ := h
    obtain ⟨rfl, g0, d0⟩ := c.gn h0
    obtain ⟨rfl, g1, d1⟩ := c.gn h1
    have hst := star_cons (env := X.env) (xs := []) h2
    exact val3 (snd_lrng (pe_listRg c.calm g0 (c.bn _ (by decide +kernel)) (prg_1 g1 (c.bn _ (by decide +kernel)) ((iha X _ c).e _ h3).1 hst))) (fun _ => rfl) fun op vs p z => by cases z
  | nop =>
    intro X C c
    exact Snd1.ofE (fun es => by simp [mL]) (fun it tg => by simp [mI]) fun e h => by simp [mE] at h
  | call f es ih =>
    intro X C c
    refine Snd1.ofE (fun es => by simp [mL]) (fun it tg => by simp [mI]) fun e h => ?_
    unfold mE at h
    split at h
    all_goals first | (cases h; done) | (rename_i heq; cases heq)
    rename_i x px xs pos
    simp only [Bool.and_eq_true, decide_eq_true_eq] at h
    obtain ⟨⟨h0, h1⟩, h2⟩ := h
    obtain ⟨g, d⟩ := c.gl h1
    have ha := ((ih X _ c).l _ h2).2.2.1 (moT T f)
    have hp := mL_plain h2
    refine val3 ?_ (fun _ => rfl) fun op vs p z => by cases z
    cases hT : T[f]? with
    | none =>
      have key : ∀ (Q : TE), PE X (.Call (.Name x px) xs [] pos) Q → PE X (.Call (.Name x px) xs [] pos) (tE X.K (moT T) (callI T n) (.call f es)) := fun Q h => PE.imp h fun σ H R q => by
        obtain ⟨F, M, env, env', r, ok, S, e, q⟩ := q
        simp only [evR] at e
        have hc : ∀ avs, callI T n f avs = none := fun avs => by
          cases n with
          | zero => rfl
          | succ n => show (match T[f]? with | some F => runF (moT T) (callI T n) F avs | none => none) = none; rw [hT]
        split at e
        case h_2 => cases e
        split at e
        case isFalse => cases e
        split at e
        case h_2 => cases e
        rw [hc] at e
        cases e
      exact key _ ⟨fun _ _ _ _ _ _ (q : False) => q.elim⟩
    | some F =>
      obtain ⟨i, hI, hG, hm, hk, fo, bi, hmu⟩ := c.fns f F hT
      rw [hG] at h0
      cases h0
      have hl : (moT T f).length = F.np := by
        show ((T[f]?.map (·.mu)).getD []).length = F.np
        rw [hT]
        exact hmu
      refine snd_call hl ?_
      cases xs with
      | nil =>
        refine PE.imp (pe_call0 fo c.room g hm hk bi .nil pass0 d) fun σ H Q q => ?_
        cases es with
        | nil =>
          obtain ⟨F', M, env, env', aps, ok, S, e, q⟩ := q
          cases hms : moT T f with
          | nil =>
            rw [hms] at e q
            simp only [evA] at e
            cases e
            exact q M H [] S trivial rfl
          | cons b ms =>
            rw [hms] at e
            cases b <;> simp [evA] at e
        | _ => simp [mL] at h2
      | cons y ys =>
        rw [List.all_cons, Bool.and_eq_true] at hp
        exact pe_call fo c.room g hm hk bi .nil pass0 ha d (star_cons hp.1) (star_plain hp.2)
  | callk f np nk es ks pj ihe ihk =>
    intro X C c
    refine Snd1.ofE (fun es => by simp [mL]) (fun it tg => by simp [mI]) fun e h => ?_
    unfold mE at h
    split at h
    all_goals first | (cases h; done) | (rename_i heq; cases heq)
    simp only [Bool.and_eq_true, decide_eq_true_eq] at h
    obtain ⟨⟨⟨⟨h0, h1⟩, hn⟩, h2⟩, h3⟩ := h
    obtain ⟨g, d⟩ := c.gl h1
    split at hn
    case h_2 => cases hn
    rename_i ns hns
    simp only [Bool.and_eq_true, decide_eq_true_eq] at hn
    obtain ⟨F, i, hT, hI, hb, hpj⟩ := c.kf _ _ _ _ hn.1
    obtain ⟨i', hI', hG, hm, hk, fo, bi, hmu⟩ := c.fns f F hT
    rw [hI] at hI'
    cases hI'
    rw [hG] at h0
    cases h0
    obtain ⟨w1, w2, w3⟩ := kw_ok X.env _ hns
    refine val3 (snd_callk hpj ?_) (fun _ => rfl) fun op vs p z => by cases z
    have hp := mL_plain h2
    have hkw := ((ihk X _ c).l _ h3).2.2.2 _ rfl
    rename_i xs kws _ _
    cases xs with
    | cons y ys =>
      rw [List.all_cons, Bool.and_eq_true] at hp
      refine pe_callK fo c.room g hm hk (hb.binds hn.2) pass0 ((ihe X _ c).l _ h2).1 hkw (w1 _) (w2 _) d (star_cons hp.1) ?_
      rw [star_plain (mL_plain h2), w3]
      rfl
    | nil =>
      refine PE.imp (pe_kw fo c.room g hm hk (hb.binds hn.2) pass0 hkw w1 w2 w3 d) fun σ H Q q => ?_
      cases es with
      | nil =>
        obtain ⟨F', M, env, env', ds, ok, S, e, q⟩ := q
        simp only [evL] at e
        cases e
        exact q M H [] S .nil
      | _ => simp [mL] at h2
  | bi b es ih =>
    intro X C c
    refine Snd1.ofE (fun es => by simp [mL]) (fun it tg => by simp [mI]) fun e h => ?_
    unfold mE at h
    split at h
    all_goals first | (cases h; done) | skip
    all_goals rename_i heq
    all_goals first | (cases heq; done) | skip
    · cases heq
      rw [Bool.and_eq_true, Bool.and_eq_true] at h
      obtain ⟨⟨h0, h1⟩, h2⟩ := h
      have ha := ((ih X _ c).l _ h2).2.1
      have hp := mL_plain h2
      rw [List.all_cons, Bool.and_eq_true] at hp
      refine val3 ?_ (fun _ => rfl) fun op vs p z => by cases z
      refine snd_bi ?_
      obtain ⟨rfl, g0, d0⟩ := c.gn h0
      obtain ⟨rfl, g1, d1⟩ := c.gn h1
      exact pe_sset c.calm c.hu g0 (c.bn _ (by decide)) g1 (c.bn _ (by decide)) (by decide +kernel) (by decide +kernel) ha (star_cons hp.1) (star_plain hp.2)
    · cases heq
      rw [Bool.and_eq_true] at h
      obtain ⟨h0, h2⟩ := h
      have ha := ((ih X _ c).l _ h2).2.1
      have hp := mL_plain h2
      rw [List.all_cons, Bool.and_eq_true] at hp
      refine val3 ?_ (fun _ => rfl) fun op vs p z => by cases z
      refine snd_bi ?_
      split at h0
      · rename_i hb
        obtain ⟨rfl, g, d⟩ := c.gn h0
        obtain ⟨b1, b2, b3⟩ := boot_b hb
        exact pe_callB (call_bi c.calm b _ hb) g (c.bn _ b2) b1 ha b3 d (star_cons hp.1) (star_plain hp.2)
      · rename_i hb
        obtain ⟨rfl, g, d⟩ := c.gn h0
        obtain ⟨b1, b2, b3⟩ := boot_t hb
        exact pe_callTy (call_ti c.calm b _ hb) g (c.bn _ b2) b1 ha b3 d (star_cons hp.1) (star_plain hp.2)
      · cases h0
  | isi a cs one iha =>
    intro X C c
    refine Snd1.ofE (fun es => by simp [mL]) (fun it tg => by simp [mI]) fun e h => ?_
    unfold mE at h
    split at h
    all_goals first | (cases h; done) | (rename_i heq; cases heq)
    simp only [Bool.and_eq_true] at h
    obtain ⟨⟨⟨h0, h1⟩, h2⟩, h3⟩ := h
    obtain ⟨rfl, g, d⟩ := c.gn h0
    have ha := c.op (iha X _ c) h2
    refine val3 ?_ (fun _ => rfl) fun op vs p z => by cases z
    split at h3
    · rename_i t z pz
      exact snd_isi1 (pe_callB call_isi g (c.bn _ (by decide +kernel)) boot_isinstance (pa_cons ha (pa_cons (c.ty h3) pa_nil rfl) (star_cons h1)) (by decide +kernel) d (star_cons h1) rfl)
    · rename_i zs kz pz
      rw [Bool.and_eq_true] at h3
      exact snd_isi2 (of_decide_eq_true h3.2) (pe_callB call_isiT g (c.bn _ (by decide +kernel)) boot_isinstance (pa_cons ha (pa_cons (pe_tup (c.tys h3.1)) pa_nil rfl) (star_cons h1)) (by decide +kernel) d (star_cons h1) rfl)
    · cases h3
  | pop i m ih =>
    intro X C c
    refine Snd1.ofE (fun es => by simp [mL]) (fun it tg => by simp [mI]) fun e h => ?_
    unfold mE at h
    split at h
    all_goals first | (cases h; done) | (rename_i heq; cases heq)
    simp only [Bool.and_eq_true] at h
    obtain ⟨⟨⟨h0, h1⟩, h2⟩, h3⟩ := h
    have := eq_of_beq h1
    subst this
    refine val3 ?_ (fun _ => rfl) fun op vs p z => by cases z
    split at h3
    · have hm : m = .nop := by cases m <;> first | rfl | cases h3
      subst hm
      exact snd_pop0 (pe_bm0 PySem.F.plainAttrs_list PySem.F.slot_list_pop PySem.F.type_list_pop mt_pop (c.var h0) rfl h2)
    · rename_i y
      simp only [Bool.and_eq_true] at h3
      obtain ⟨⟨k1, k2⟩, k3⟩ := h3
      have hm : m ≠ .nop := fun z => by rw [z] at k2; cases k2
      have hst := star_cons (env := X.env) (xs := []) k1
      refine snd_pop1 hm (pe_bm PySem.F.plainAttrs_list PySem.F.slot_list_pop PySem.F.type_list_pop mt_popAt (c.var h0) (pa_cons ((ih X _ c).e _ k3).1 pa_nil hst) rfl ?_ h2 hst rfl)
      rw [hst]
      rfl
    · cases h3
  | lc t it c' e' vs ihi ihc ihe =>
    intro X C c
    refine Snd1.ofE (fun es => by simp [mL]) (fun it tg => by simp [mI]) fun e h => ?_
    have h' := h
    unfold mE at h
    split at h
    all_goals first | (cases h; done) | (rename_i heq; cases heq)
    obtain ⟨rfl, P⟩ := lcP c ihi ihc ihe h'
    refine val3 ?_ (fun _ => rfl) fun op vs p z => by cases z
    have p := pe_lc c.calm (by rw [c.hN]; exact c.nd) P.hi P.ok P.hg P.ht P.he P.hs (pos := by assumption)
    rw [P.hvs] at p
    exact PE.imp p fun σ H Q q => lc_read P.hv q
  | lc2 t it cc t2 it2 cc2 e' vs vs2 ihi ihc ihi2 ihc2 ihe =>
    intro X C c
    refine Snd1.ofE (fun es => by simp [mL]) (fun it tg => by simp [mI]) fun e h => ?_
    cases hq : lc2Parts e with
    | none => simp [mE, hq] at h
    | some q =>
    obtain ⟨k0, k1, P⟩ := lc2P c ihi ihc ihi2 ihc2 ihe hq h
    obtain ⟨pos, rfl⟩ := lc2Parts_eq hq
    obtain ⟨⟨tg, iter, ifs, k⟩, ⟨tg1, iter1, ifs1, kk⟩, elt, scope⟩ := q
    have k0 : k = 0 := k0
    have k1 : kk = 0 := k1
    subst k0
    subst k1
    refine val3 ?_ (fun _ => rfl) fun op vs p z => by cases z
    have p := pe_lc2 c.calm (by rw [c.hN]; exact c.nd) P.hi P.ok (vs1 := vs2) (by rw [P.hvs]; exact P.hvv) P.hg P.ht P.hi1 P.hg1 P.ht1 P.he P.hs P.hs1 (pos := pos)
    rw [P.hvs] at p
    exact PE.imp p fun σ H Q q => lc2_read P.hv P.hv2 P.hvv q
  | ss2 t it cc t2 it2 cc2 e' vs vs2 ihi ihc ihi2 ihc2 ihe =>
    intro X C c
    refine Snd1.ofE (fun es => by simp [mL]) (fun it tg => by simp [mI]) fun e h => ?_
    cases hq : ssParts e with
    | none => simp [mE, hq] at h
    | some q =>
    obtain ⟨nm, q⟩ := q
    obtain ⟨p1, p2, p3, rfl⟩ := ssParts_eq hq
    obtain ⟨hn, h2⟩ := ss_lc2 hq h p2
    obtain ⟨k0, k1, P⟩ := lc2P c ihi ihc ihi2 ihc2 ihe rfl h2
    obtain ⟨⟨tg, iter, ifs, k⟩, ⟨tg1, iter1, ifs1, kk⟩, elt, scope⟩ := q
    have k0 : k = 0 := k0
    have k1 : kk = 0 := k1
    subst k0
    subst k1
    refine val3 ?_ (fun _ => rfl) fun op vs p z => by cases z
    have p := pe_sc2 c.calm (by rw [c.hN]; exact c.nd) P.hi P.ok (vs1 := vs2) (by rw [P.hvs]; exact P.hvv) P.hg P.ht P.he P.hs P.hi1 P.hg1 P.ht1 P.hs1 (pos := p2)
    rw [P.hvs] at p
    obtain ⟨rfl, g0, _⟩ := c.gn hn
    exact PE.imp (pe_srt c.calm g0 (c.bn _ (by decide)) (by decide +kernel) p rfl) fun σ H Q q => ss2_read P.hv P.hv2 P.hvv q
  | seq m ih =>
    intro X C c
    refine ⟨fun e h => by simp [mE] at h, fun es h => by simp [mL] at h, fun it tg h => ?_, fun es h => by simp [mLd] at h⟩
    simp only [mI] at h
    exact snd_seq ((ih X _ c).e _ h).1
  | rng1 a iha =>
    intro X C c
    refine ⟨fun e h => by simp [mE] at h, fun es h => by simp [mL] at h, fun it tg h => ?_, fun es h => by simp [mLd] at h⟩
    unfold mI at h
    split at h
    all_goals first | (cases h; done) | (rename_i heq; cases heq)
    simp only [Bool.and_eq_true] at h
    obtain ⟨⟨h0, h1⟩, h2⟩ := h
    obtain ⟨rfl, g, d⟩ := c.gn h0
    have hst := star_cons (env := X.env) (xs := []) h1
    exact snd_rng1 (pi_range1 g (c.bn _ (by decide +kernel)) (pa_cons ((iha X _ c).e _ h2).1 pa_nil hst) hst)
  | rng2 a b iha ihb =>
    intro X C c
    refine ⟨fun e h => by simp [mE] at h, fun es h => by simp [mL] at h, fun it tg h => ?_, fun es h => by simp [mLd] at h⟩
    unfold mI at h
    split at h
    all_goals first | (cases h; done) | (rename_i heq; cases heq)
    simp only [Bool.and_eq_true] at h
    obtain ⟨⟨⟨⟨h0, h1⟩, h2⟩, h3⟩, h4⟩ := h
    obtain ⟨rfl, g, d⟩ := c.gn h0
    have hst := star_cons (env := X.env) (xs := []) h2
    have hst2 := fun z => star_cons (env := X.env) (xs := [z]) h1
    refine snd_rng2 (pi_range2 g (c.bn _ (by decide +kernel)) (pa_cons ((iha X _ c).e _ h3).1 (pa_cons ((ihb X _ c).e _ h4).1 pa_nil hst) (hst2 _)) ?_ hst)
    rw [hst2, hst]
    rfl
  | zip a b iha ihb =>
    intro X C c
    refine ⟨fun e h => by simp [mE] at h, fun es h => by simp [mL] at h, fun it tg h => ?_, fun es h => by simp [mLd] at h⟩
    unfold mI at h
    split at h
    all_goals first | (cases h; done) | (rename_i heq; cases heq)
    simp only [Bool.and_eq_true] at h
    obtain ⟨⟨⟨⟨h0, h1⟩, h2⟩, h3⟩, h4⟩ := h
    obtain ⟨rfl, g, d⟩ := c.gn h0
    have hst := star_cons (env := X.env) (xs := []) h2
    have hst2 := fun z => star_cons (env := X.env) (xs := [z]) h1
    refine snd_zip (pi_zipG g (c.bn _ (by decide +kernel)) (pa_cons ((iha X _ c).e _ h3).1 (pa_cons ((ihb X _ c).e _ h4).1 pa_nil hst) (hst2 _)) (hst2 _) ?_)
    rw [hst]
    rfl
  | enum a iha =>
    intro X C c
    refine ⟨fun e h => by simp [mE] at h, fun es h => by simp [mL] at h, fun it tg h => ?_, fun es h => by simp [mLd] at h⟩
    unfold mI at h
    split at h
    all_goals first | (cases h; done) | (rename_i heq; cases heq)
    simp only [Bool.and_eq_true] at h
    obtain ⟨⟨h0, h1⟩, h2⟩ := h
    obtain ⟨rfl, g, d⟩ := c.gn h0
    have hst := star_cons (env := X.env) (xs := []) h1
    exact snd_enum (pi_enumG g (c.bn _ (by decide +kernel)) (by decide +kernel) (pa_cons ((iha X _ c).e _ h2).1 pa_nil hst) hst)
end
end MP

set_option Elab.async false
set_option linter.all false
set_option maxRecDepth 100000
namespace MP
open PySem PySem.Spec PyProof.Rows L2 RZ
def MC.lcl (C : MC) (i : Nat) (x : Str) : Bool := decide (C.N[i]? = some x) && decide (C.sc.names.lookup x = some .local)
def MC.cel (C : MC) (x : Str) : Bool := decide (C.sc.names.lookup x = some .cell)
theorem sw_cell {elt : Expr} {gs : List Comprehension} {scope : Scope} {pos py : Pos} {y : Str} {l : Nat} {env : Env} (hy : List.lookup y env.scope.names = some .cell) : swapsWith (.ListComp elt gs scope pos) (some (.Name y py)) l env = pure false := by
  have hk : env.kindOf y = some .cell := hy
  show (pure (env.blockKind == .function && env.kindOf y == some .local && py.line == pos.line && _) : Sem Bool) = pure false
  rw [hk]
  have : (some NameKind.cell == some NameKind.local) = false := rfl
  rw [this, Bool.and_false, Bool.false_and, Bool.false_and]
/-- a parallel store of plain names -/
def parOk (xs : List Str) (ls : List Nat) (vs : List Expr) : Bool := decide xs.Nodup && (match ls with | [] => true | l :: r => r.all (· == l)) && vs.all plainX && !vs.all (foldedForSure 8) && !vs.all (constantsAlone 8)
/-- a target that a parallel store takes at once: a plain local name on the first one's line -/
def plainT (sc : Scope) (l : Nat) : Expr → Bool
  | .Name id pos => (sc.names.lookup id == some .local) && pos.line == l
  | _ => false
mutual
def mS : MS → MC → Stmt → Bool
  | .asg (.nm i) m, C, .Assign [.Name x px] v _ => C.loc i x && mE m C v && (match m, v with
    | .lc _ _ _ _ _, .ListComp _ [_] scope vp => C.cel x || (C.lcl i x && (px.line == vp.line) && !(scope.names.any fun (n, k) => n == x && (k == .local || k == .cell)))
    | .lc2 _ _ _ _ _ _ _ _ _, .ListComp _ [_, _] scope vp => C.cel x || (C.lcl i x && (px.line == vp.line) && !(scope.names.any fun (n, k) => n == x && (k == .local || k == .cell)))
    | _, v => noComp v)
  | .asg (.tp r) m, C, .Assign [.Tuple es k tp] v _ => mTg (.tp r) C (.Tuple es k tp) && noComp v && mE m C v && (match v with
    | .Tuple vs _ _ => vs.all (foldedForSure 8) || !(es.length == 2 || es.length == 3) || !es.all (plainT C.sc ((es.head?.map (·.pos.line)).getD 0))
    | _ => true)
  | .par2 i j a b, C, .Assign [.Tuple [.Name x px, .Name y py] _ _] (.Tuple [u, w] _ _) _ => C.lcl i x && C.lcl j y && parOk [x, y] [px.line, py.line] [u, w] && mE a C u && mE b C w
  | .par3 i j k a b c, C, .Assign [.Tuple [.Name x px, .Name y py, .Name z pz] _ _] (.Tuple [u, w, q] _ _) _ => C.lcl i x && C.lcl j y && C.lcl k z && parOk [x, y, z] [px.line, py.line, pz.line] [u, w, q] && mE a C u && mE b C w && mE c C q
  | .setix i j m, C, .Assign [.Subscript (.Name x _) y _] v _ => C.vis i x && noSlice y && mE j C y && mE m C v && noComp v
  | .app i m, C, .Expr (.Call (.Attribute (.Name x _) at_ ap) [y] [] cp) _ => C.vis i x && (at_ == ("append" : Str)) && (ap.endLine == cp.line) && plainX y && mE m C y
  | .xpr m, C, .Expr v _ => noComp v && mE m C v
  | .ite c a b, C, .If t xs ys _ => mE c C t && !isNop c && mSs a C xs && mSs b C ys
  | .for_ t it b, C, .For tg iter body [] _ => noSet iter && mI it C iter tg && mTg t C tg && mSs b C body
  | .whl c b, C, .While t body [] _ => mE c C t && !isNop c && mSs b C body
  | .ret m, C, .Return (some x) _ => mE m C x
  | .retN, _, .Return none _ => true
  | .pass, _, .Pass _ => true
  | .pass, _, .Expr (.Constant (.str _) _ _) _ => true
  | .brk, _, .Break _ => true
  | .cont, _, .Continue _ => true
  | .nev, _, _ => true
  | _, _, _ => false
def mSs : MS → MC → List Stmt → Bool
  | .nil, _, [] => true
  | .cons s r, C, st :: sts => mS s C st && mSs r C sts
  | .nev, _, _ => true
  | .wipe _ r, C, sts => mSs r C sts
  | _, _, _ => false
end
theorem nocomp_name {v : Expr} (h : noComp v = true) (t : Option Expr) (l : Nat) (env : Env) : swapsWith v t l env = pure false := by
  cases v <;> first | rfl | cases h
theorem nocomp_sole {v : Expr} (h : noComp v = true) (t : Expr) (l : Nat) (env : Env) : swapsWithSole [t] v l env = pure false := nocomp_name h (some t) l env
theorem sub_assign {o i : Expr} {pos : Pos} {env : Env} (h : noSlice i = true) (v : Value) : assign (.Subscript o i pos) env v = (do let ov ← holding [v] (eval o env); let iv ← holding [v, ov] (eval i env); standAt pos; holding [v, ov, iv] (setItem ov iv v); release [v, ov, iv] []) := by
  cases i <;> first | rfl | cases h
theorem fm_lt {α β : Type} (f : α → Option β) (p : α → Bool) (hp : ∀ x, p x = false → f x = none) : ∀ l : List α, l.all p = false → (l.filterMap f).length < l.length
  | [], h => by simp at h
  | x :: l, h => by
    have hle : (l.filterMap f).length ≤ l.length := List.length_filterMap_le f l
    rw [List.filterMap_cons]
    cases hx : p x with
    | false =>
      rw [hp x hx]
      show (l.filterMap f).length < l.length + 1
      omega
    | true =>
      rw [List.all_cons, hx, Bool.true_and] at h
      have := fm_lt f p hp l h
      cases f x with
      | none => show (l.filterMap f).length < l.length + 1; omega
      | some y => show (l.filterMap f).length + 1 < l.length + 1; omega
theorem sw_nonTup {es : List Expr} {k : Nat} {tp : Pos} {v : Expr} {env : Env} {sc : Scope} (hsc : env.scope = sc) (h : (match v with | .Tuple vs _ _ => vs.all (foldedForSure 8) || !(es.length == 2 || es.length == 3) || !es.all (plainT sc ((es.head?.map (·.pos.line)).getD 0)) | _ => true) = true) : swappedStores [.Tuple es k tp] v env = pure none := by
  cases v with
  | Tuple vs k2 p2 =>
    simp only [Bool.or_eq_true] at h
    unfold swappedStores
    rcases h with (h | h) | h
    · simp only
      split
      · rfl
      · split
        · rfl
        · split
          · rfl
          · first | rfl | rw [if_pos h]
    · simp only
      rw [if_pos (by rw [h]; rfl)]
    · simp only
      split
      · rfl
      · split
        · rfl
        · rw [if_pos]
          rw [Bool.or_eq_true]
          left
          have := fm_lt (fun x => match x with
            | .Name id pos => if env.kindOf id == some .local && pos.line == (es.head?.map (·.pos.line)).getD 0 then some id else none
            | _ => none) (plainT sc ((es.head?.map (·.pos.line)).getD 0)) (fun x hx => by
              cases x with
              | Name id pos =>
                have hx : ((sc.names.lookup id == some .local) && pos.line == (es.head?.map (·.pos.line)).getD 0) = false := hx
                show (if env.kindOf id == some .local && pos.line == (es.head?.map (·.pos.line)).getD 0 then some id else none) = none
                rw [show env.kindOf id = sc.names.lookup id by rw [← hsc]; rfl, hx]; rfl
              | _ => rfl) es (by simpa using h)
          rw [bne_iff_ne]
          exact Nat.ne_of_lt this
  | _ => rfl
theorem lines_all {l : Nat} {ls : List Nat} (h : ls.all (· == l) = true) : ∀ m ∈ ls, m = l := fun m hm => eq_of_beq (List.all_eq_true.mp h m hm)
theorem no_star {vs : List Expr} (h : vs.all plainX = true) : (vs.any fun | .Starred .. => true | _ => false) = false := by
  induction vs with
  | nil => rfl
  | cons v vs ih =>
    rw [List.all_cons, Bool.and_eq_true] at h
    rw [List.any_cons, ih h.2, Bool.or_false]
    cases v <;> first | rfl | cases h.1
theorem sw_par2 {env : Env} {x y : Str} {px py tp p2 : Pos} {u w : Expr} {k k2 : Nat} (hk : env.scope.kind = .function) (hx : env.scope.names.lookup x = some .local) (hy : env.scope.names.lookup y = some .local) (h : parOk [x, y] [px.line, py.line] [u, w] = true) :
    swappedStores [.Tuple [.Name x px, .Name y py] k tp] (.Tuple [u, w] k2 p2) env = pure (some [x, y]) := by
  simp only [parOk, Bool.and_eq_true, Bool.not_eq_true', decide_eq_true_eq] at h
  obtain ⟨⟨⟨⟨h1, h2⟩, h3⟩, h4⟩, h5⟩ := h
  have e1 := lines_all h2 py.line (by simp)
  have n1 : x ≠ y := by
    have := List.nodup_cons.mp h1
    simpa using this.1
  have b1 : (y == x) = false := beq_eq_false_iff_ne.mpr (Ne.symm n1)
  unfold swappedStores
  simp only [List.length_cons, List.length_nil, Env.blockKind, hk]
  rw [if_neg (by decide)]
  split
  · rename_i hh
    exact absurd (hh.symm.trans (no_star h3)) (by decide)
  simp only [List.head?_cons, Option.map_some, Option.getD_some, Expr.pos, List.filterMap_cons, List.filterMap_nil, Env.kindOf, hx, hy, e1, beq_self_eq_true, Bool.and_self, if_true]
  rw [if_neg (by simp [List.eraseDups_cons, b1]), if_neg (by rw [h4]; decide), if_neg (by rw [h5]; decide)]
theorem sw_par3 {env : Env} {x y z : Str} {px py pz tp p2 : Pos} {u w q : Expr} {k k2 : Nat} (hk : env.scope.kind = .function) (hx : env.scope.names.lookup x = some .local) (hy : env.scope.names.lookup y = some .local) (hz : env.scope.names.lookup z = some .local) (h : parOk [x, y, z] [px.line, py.line, pz.line] [u, w, q] = true) :
    swappedStores [.Tuple [.Name x px, .Name y py, .Name z pz] k tp] (.Tuple [u, w, q] k2 p2) env = pure (some [x, y, z]) := by
  simp only [parOk, Bool.and_eq_true, Bool.not_eq_true', decide_eq_true_eq] at h
  obtain ⟨⟨⟨⟨h1, h2⟩, h3⟩, h4⟩, h5⟩ := h
  have e1 := lines_all h2 py.line (by simp)
  have e2 := lines_all h2 pz.line (by simp)
  have n0 := List.nodup_cons.mp h1
  have n2 := List.nodup_cons.mp n0.2
  have m1 : x ≠ y := by have := n0.1; simp at this; exact this.1
  have m2 : x ≠ z := by have := n0.1; simp at this; exact this.2
  have m3 : y ≠ z := by have := n2.1; simpa using this
  have b1 : (y == x) = false := beq_eq_false_iff_ne.mpr (Ne.symm m1)
  have b2 : (z == x) = false := beq_eq_false_iff_ne.mpr (Ne.symm m2)
  have b3 : (z == y) = false := beq_eq_false_iff_ne.mpr (Ne.symm m3)
  unfold swappedStores
  simp only [List.length_cons, List.length_nil, Env.blockKind, hk]
  rw [if_neg (by decide)]
  split
  · rename_i hh
    exact absurd (hh.symm.trans (no_star h3)) (by decide)
  simp only [List.head?_cons, Option.map_some, Option.getD_some, Expr.pos, List.filterMap_cons, List.filterMap_nil, Env.kindOf, hx, hy, hz, e1, e2, beq_self_eq_true, Bool.and_self, if_true]
  rw [if_neg (by simp [List.eraseDups_cons, b1, b2, b3]), if_neg (by rw [h4]; decide), if_neg (by rw [h5]; decide)]
section
variable {T : List MF} {I : List FI} {n : Nat}
theorem Ctx.lcl {X : Cx} {C : MC} (c : Ctx T I n X C) {i : Nat} {x : Str} (h : C.lcl i x = true) : X.N[i]? = some x ∧ X.env.scope.names.lookup x = some .local := by
  unfold MC.lcl at h
  simp only [Bool.and_eq_true, decide_eq_true_eq] at h
  exact ⟨by rw [c.hN]; exact h.1, by rw [c.sc]; exact h.2⟩
theorem nth_ne {N : List Str} {i j : Nat} {x y : Str} (hx : N[i]? = some x) (hy : N[j]? = some y) (h : x ≠ y) : i ≠ j := fun e => by
  subst e
  rw [hx] at hy
  exact h (Option.some.inj hy)
theorem stm_all (b : MS) : (∀ X C, Ctx T I n X C → PassesOwn (model X.prog X.w) X.A X.env X.xe → (∀ st, mS b C st = true → PS X st (tS X.K (moT T) (callI T n) b)) ∧ ∀ sts, mSs b C sts = true → PSs X sts (tS X.K (moT T) (callI T n) b)) := by
  induction b with
  | nil =>
    intro X C c hp
    refine ⟨fun st h => by simp [mS] at h, fun sts h => ?_⟩
    cases sts with
    | nil => exact snd_snil
    | cons _ _ => simp [mSs] at h
  | cons s r ihs ihr =>
    intro X C c hp
    refine ⟨fun st h => by simp [mS] at h, fun sts h => ?_⟩
    cases sts with
    | nil => simp [mSs] at h
    | cons st sts =>
      simp only [mSs, Bool.and_eq_true] at h
      exact snd_scons ((ihs X C c hp).1 _ h.1) ((ihr X C c hp).2 _ h.2)
  | asg t m =>
    intro X C c hp
    refine ⟨fun st h => ?_, fun sts h => by simp [mSs] at h⟩
    unfold mS at h
    split at h
    all_goals first | (cases h; done) | (rename_i heq; cases heq)
    · rename_i spos
      simp only [Bool.and_eq_true] at h
      obtain ⟨⟨h1, h2⟩, h3⟩ := h
      obtain ⟨l1, l2, l3⟩ := c.loc h1
      have nd : X.N.Nodup := by rw [c.hN]; exact c.nd
      split at h3
      · rename_i t' it c' e' vs elt gen scope vp
        rcases Bool.or_eq_true _ _ |>.mp h3 with hce | h3
        · exact snd_asg (ps_set nd l1 l2 ((snd_all _ X _ c).e _ h2).1 (sw_cell (by rw [c.sc]; exact of_decide_eq_true hce)) l3) fun σ H Q q => q
        obtain ⟨tg, iter, ifs, k⟩ := gen
        simp only [Bool.and_eq_true, Bool.not_eq_true'] at h3
        obtain ⟨⟨k1, k2⟩, k3⟩ := h3
        obtain ⟨rfl, P⟩ := lcP c (snd_all it) (snd_all c') (snd_all e') h2
        obtain ⟨m1, m2⟩ := c.lcl k1
        have p := ps_setLc c.calm nd m1 m2 (sw_true (by rw [c.sc]; exact c.fk) m2 k2 k3) P.hi P.ok P.hg P.ht P.he P.hs (pos := vp) (spos := spos)
        rw [P.hvs] at p
        exact snd_asg p fun σ H Q q => lc_read P.hv q
      · rename_i t1 it1 cc1 t2 it2 cc2 e' vs vs2 elt g0 g1 scope vp
        rcases Bool.or_eq_true _ _ |>.mp h3 with hce | h3
        · exact snd_asg (ps_set nd l1 l2 ((snd_all _ X _ c).e _ h2).1 (sw_cell (by rw [c.sc]; exact of_decide_eq_true hce)) l3) fun σ H Q q => q
        obtain ⟨tg, iter, ifs, k⟩ := g0
        obtain ⟨tg1, iter1, ifs1, kk⟩ := g1
        simp only [Bool.and_eq_true, Bool.not_eq_true'] at h3
        obtain ⟨⟨k1, k2⟩, k3⟩ := h3
        obtain ⟨z0, z1, P⟩ := lc2P (q := (⟨tg, iter, ifs, k⟩, ⟨tg1, iter1, ifs1, kk⟩, elt, scope)) c (snd_all it1) (snd_all cc1) (snd_all it2) (snd_all cc2) (snd_all e') rfl h2
        have z0 : k = 0 := z0
        have z1 : kk = 0 := z1
        subst z0
        subst z1
        obtain ⟨m1, m2⟩ := c.lcl k1
        have p := ps_setLc2 c.calm nd m1 m2 (sw_true (by rw [c.sc]; exact c.fk) m2 k2 k3) P.hi P.ok (vs1 := vs2) (by rw [P.hvs]; exact P.hvv) P.hg P.ht P.hi1 P.hg1 P.ht1 P.he P.hs P.hs1 (pos := vp) (spos := spos)
        rw [P.hvs] at p
        exact snd_asg p fun σ H Q q => lc2_read P.hv P.hv2 P.hvv q
      · exact snd_asg (ps_set nd l1 l2 ((snd_all m X _ c).e _ h2).1 (nocomp_name h3 _ _ _) l3) fun σ H Q q => q
    · simp only [Bool.and_eq_true] at h
      obtain ⟨⟨⟨h1, h2⟩, h3⟩, h4⟩ := h
      exact snd_asgT (fun i z => by cases z) (ps_asg ((snd_all m X _ c).e _ h3).1 ((tg_ok c _).1 _ h1) (nocomp_sole h2 _ _ _) (sw_nonTup c.sc h4) rfl)
  | par2 i j a b =>
    intro X C c hp
    refine ⟨fun st h => ?_, fun sts h => by simp [mSs] at h⟩
    unfold mS at h
    split at h
    all_goals first | (cases h; done) | (rename_i heq; cases heq)
    simp only [Bool.and_eq_true] at h
    obtain ⟨⟨⟨⟨h1, h2⟩, h3⟩, h4⟩, h5⟩ := h
    obtain ⟨a1, a2⟩ := c.lcl h1
    obtain ⟨b1, b2⟩ := c.lcl h2
    have h3' := h3
    simp only [parOk, Bool.and_eq_true, decide_eq_true_eq, List.all_cons, List.all_nil] at h3'
    have hne := h3'.1.1.1.1
    have hst := h3'.1.1.2
    have ne := (List.nodup_cons.mp hne).1
    simp only [List.mem_cons, List.not_mem_nil, or_false] at ne
    exact snd_par2 (ps_par c.calm (by rw [c.hN]; exact c.nd) a1 b1 (nth_ne a1 b1 ne) a2 b2 (pa_cons ((snd_all a X _ c).e _ h4).1 (pa_cons ((snd_all b X _ c).e _ h5).1 pa_nil (star_cons hst.2.1)) (star_cons hst.1)) (sw_par2 (by rw [c.sc]; exact c.fk) a2 b2 h3) rfl)
  | par3 i j k a b d =>
    intro X C c hp
    refine ⟨fun st h => ?_, fun sts h => by simp [mSs] at h⟩
    unfold mS at h
    split at h
    all_goals first | (cases h; done) | (rename_i heq; cases heq)
    simp only [Bool.and_eq_true] at h
    obtain ⟨⟨⟨⟨⟨⟨h1, h2⟩, h2'⟩, h3⟩, h4⟩, h5⟩, h6⟩ := h
    obtain ⟨a1, a2⟩ := c.lcl h1
    obtain ⟨b1, b2⟩ := c.lcl h2
    obtain ⟨d1, d2⟩ := c.lcl h2'
    have h3' := h3
    simp only [parOk, Bool.and_eq_true, decide_eq_true_eq, List.all_cons, List.all_nil] at h3'
    have hne := h3'.1.1.1.1
    have hst := h3'.1.1.2
    have n0 := List.nodup_cons.mp hne
    have n2 := List.nodup_cons.mp n0.2
    have m12 := n0.1
    have m3 := n2.1
    simp only [List.mem_cons, List.not_mem_nil, or_false, not_or] at m12 m3
    exact snd_par3 (ps_par3 c.calm (by rw [c.hN]; exact c.nd) a1 b1 d1 (nth_ne a1 b1 m12.1) (nth_ne a1 d1 m12.2) (nth_ne b1 d1 m3) a2 b2 d2
      (pa_cons ((snd_all a X _ c).e _ h4).1 (pa_cons ((snd_all b X _ c).e _ h5).1 (pa_cons ((snd_all d X _ c).e _ h6).1 pa_nil (star_cons hst.2.2.1)) (star_cons hst.2.1)) (star_cons hst.1)) (sw_par3 (by rw [c.sc]; exact c.fk) a2 b2 d2 h3) rfl)
  | setix i j m =>
    intro X C c hp
    refine ⟨fun st h => ?_, fun sts h => by simp [mSs] at h⟩
    unfold mS at h
    split at h
    all_goals first | (cases h; done) | (rename_i heq; cases heq)
    simp only [Bool.and_eq_true] at h
    obtain ⟨⟨⟨⟨h1, h2⟩, h3⟩, h4⟩, h5⟩ := h
    exact snd_setix (ps_asg ((snd_all m X _ c).e _ h4).1 (pg_sub (c.var h1) ((snd_all j X _ c).e _ h3).1 set_list (sub_assign h2)) (nocomp_sole h5 _ _ _) rfl rfl)
  | app i m =>
    intro X C c hp
    refine ⟨fun st h => ?_, fun sts h => by simp [mSs] at h⟩
    unfold mS at h
    split at h
    all_goals first | (cases h; done) | (rename_i heq; cases heq)
    simp only [Bool.and_eq_true] at h
    obtain ⟨⟨⟨⟨h1, h2⟩, h3⟩, h4⟩, h5⟩ := h
    have := eq_of_beq h2
    subst this
    have hst := star_cons (env := X.env) (xs := []) h4
    refine snd_app (ps_expr (pe_bm PySem.F.plainAttrs_list PySem.F.slot_list_append PySem.F.type_list_append mt_append (c.var h1) (pa_cons ((snd_all m X _ c).e _ h5).1 pa_nil hst) rfl ?_ h3 hst rfl) rfl)
    rw [hst]
    rfl
  | xpr m =>
    intro X C c hp
    refine ⟨fun st h => ?_, fun sts h => by simp [mSs] at h⟩
    unfold mS at h
    split at h
    all_goals first | (cases h; done) | (rename_i heq; cases heq)
    simp only [Bool.and_eq_true] at h
    exact snd_xpr (ps_expr ((snd_all m X _ c).e _ h.2).1 (nocomp_name h.1 _ _ _))
  | ite cc a b iha ihb =>
    intro X C c hp
    refine ⟨fun st h => ?_, fun sts h => by simp [mSs] at h⟩
    unfold mS at h
    split at h
    all_goals first | (cases h; done) | (rename_i heq; cases heq)
    simp only [Bool.and_eq_true, Bool.not_eq_true'] at h
    obtain ⟨⟨⟨h1, h2⟩, h3⟩, h4⟩ := h
    exact snd_iteS (c.tst (snd_all cc X _ c) h1 h2) ((iha X _ c hp).2 _ h3) ((ihb X _ c hp).2 _ h4)
  | for_ t it b ih =>
    intro X C c hp
    refine ⟨fun st h => ?_, fun sts h => by simp [mSs] at h⟩
    unfold mS at h
    split at h
    all_goals first | (cases h; done) | (rename_i heq; cases heq)
    simp only [Bool.and_eq_true] at h
    obtain ⟨⟨⟨h1, h2⟩, h3⟩, h4⟩ := h
    exact snd_for (ps_for hp c.calm ((snd_all it X _ c).i _ _ h2) ((tg_ok c t).1 _ h3) ((ih X _ c hp).2 _ h4) (nset h1 _))
  | whl cc b ih =>
    intro X C c hp
    refine ⟨fun st h => ?_, fun sts h => by simp [mSs] at h⟩
    unfold mS at h
    split at h
    all_goals first | (cases h; done) | (rename_i heq; cases heq)
    simp only [Bool.and_eq_true, Bool.not_eq_true'] at h
    obtain ⟨⟨h1, h2⟩, h4⟩ := h
    exact snd_while (ps_while hp (c.tst (snd_all cc X _ c) h1 h2) ((ih X _ c hp).2 _ h4))
  | ret m =>
    intro X C c hp
    refine ⟨fun st h => ?_, fun sts h => by simp [mSs] at h⟩
    unfold mS at h
    split at h
    all_goals first | (cases h; done) | (rename_i heq; cases heq)
    cases m with
    | var i => exact snd_retV (c.varOf h).1
    | _ => exact snd_ret (fun i z => by cases z) ((snd_all _ X _ c).e _ h).1
  | retN =>
    intro X C c hp
    refine ⟨fun st h => ?_, fun sts h => by simp [mSs] at h⟩
    unfold mS at h
    split at h
    all_goals first | (cases h; done) | (rename_i heq; cases heq) | skip
    exact snd_retN
  | pass =>
    intro X C c hp
    refine ⟨fun st h => ?_, fun sts h => by simp [mSs] at h⟩
    cases st with
    | Pass p => exact snd_pass
    | Expr v p =>
      cases v with
      | Constant k j p' =>
        cases k with
        | str s => exact snd_doc
        | _ => simp [mS] at h
      | _ => simp [mS] at h
    | _ => simp [mS] at h
  | brk =>
    intro X C c hp
    refine ⟨fun st h => ?_, fun sts h => by simp [mSs] at h⟩
    cases st with
    | Break p => exact snd_brk
    | _ => simp [mS] at h
  | cont =>
    intro X C c hp
    refine ⟨fun st h => ?_, fun sts h => by simp [mSs] at h⟩
    cases st with
    | Continue p => exact snd_cont
    | _ => simp [mS] at h
  | nev =>
    intro X C c hp
    exact ⟨fun st h => snd_nev, fun sts h => snd_nevs⟩
  | wipe vs r ih =>
    intro X C c hp
    refine ⟨fun st h => by simp [mS] at h, fun sts h => ?_⟩
    have h : mSs r C sts = true := by
      unfold mSs at h
      exact h
    exact snd_wipe ((ih X C c hp).2 sts h)
end
end MP

set_option Elab.async false
set_option linter.all false
set_option maxRecDepth 100000
namespace MP
open PySem PySem.Spec PyProof.Rows L2 RZ
/-! ### a def keeps its promise -/
/-- the slots that hold the handed lists -/
def Pl : List V → List AV → Nat → List (Nat × Addr)
  | .ref a :: vs, .mu _ :: as, k => (k, a) :: Pl vs as (k + 1)
  | _ :: vs, _ :: as, k => Pl vs as (k + 1)
  | _, _, _ => []
section
variable {K : PySem.W.Frag} {M : Addr → Prop} {H : Hp}
theorem Args.pl : ∀ {vs : List V} {as : List AV} {L : List Addr} (k : Nat), Args K M H vs as L → (Pl vs as k).map (·.2) = L
  | [], [], [], _, _ => rfl
  | v :: vs, .sh d :: as, L, k, h => by
    have := Args.pl (k + 1) h.2
    cases v <;> exact this
  | v :: vs, .mu ds :: as, a :: L, k, h => by
    obtain ⟨⟨rfl, _⟩, h2⟩ := h
    show a :: (Pl vs as (k + 1)).map (·.2) = _
    rw [Args.pl (k + 1) h2]
  | v :: vs, .mu ds :: as, [], k, h => h.elim
  | [], [], _ :: _, _, h => h.elim
  | [], _ :: _, _, _, h => h.elim
  | _ :: _, [], _, _, h => h.elim
theorem Args.len : ∀ {vs : List V} {as : List AV} {L : List Addr}, Args K M H vs as L → vs.length = as.length
  | [], [], [], _ => rfl
  | v :: vs, .sh d :: as, L, h => by rw [List.length_cons, List.length_cons, Args.len h.2]
  | v :: vs, .mu ds :: as, a :: L, h => by rw [List.length_cons, List.length_cons, Args.len h.2]
  | v :: vs, .mu ds :: as, [], h => h.elim
  | [], [], _ :: _, h => h.elim
  | [], _ :: _, _, h => h.elim
  | _ :: _, [], _, h => h.elim
theorem Args.get : ∀ {vs : List V} {as : List AV} {L : List Addr} {i : Nat} {x : AV}, Args K M H vs as L → as[i]? = some x → ∃ v, vs[i]? = some v ∧ match x with
    | .sh d => Rep K M H v d
    | .mu ds => ∃ a, v = .ref a ∧ a ∈ L ∧ M a ∧ (∃ xs, H a = some (.lst xs) ∧ RepL K M H xs ds) ∧ ds.length ≤ big
  | [], [], [], _, _, _, e => by simp at e
  | v :: vs, .sh d :: as, L, 0, x, h, e => by
    simp at e; subst e
    exact ⟨v, rfl, h.1⟩
  | v :: vs, .sh d :: as, L, i + 1, x, h, e => by
    obtain ⟨u, h1, h2⟩ := Args.get (i := i) h.2 (by simpa using e)
    exact ⟨u, by simpa using h1, h2⟩
  | v :: vs, .mu ds :: as, a :: L, 0, x, h, e => by
    simp at e; subst e
    exact ⟨v, rfl, a, h.1.1, List.mem_cons_self, h.1.2⟩
  | v :: vs, .mu ds :: as, a :: L, i + 1, x, h, e => by
    obtain ⟨u, h1, h2⟩ := Args.get (i := i) h.2 (by simpa using e)
    refine ⟨u, by simpa using h1, ?_⟩
    cases x with
    | sh d => exact h2
    | mu es =>
      obtain ⟨b, e1, hb, r⟩ := h2
      exact ⟨b, e1, List.mem_cons_of_mem _ hb, r⟩
  | v :: vs, .mu ds :: as, [], _, _, h, _ => h.elim
  | [], [], _ :: _, _, _, h, _ => h.elim
  | [], _ :: _, _, _, _, h, _ => h.elim
  | _ :: _, [], _, _, _, h, _ => h.elim
/-- two handed lists at one address are one -/
theorem Args.inj : ∀ {vs : List V} {as : List AV} {L : List Addr} {i j : Nat} {ds es : List D} {a : Addr}, L.Nodup → Args K M H vs as L → as[i]? = some (.mu ds) → as[j]? = some (.mu es) → vs[i]? = some (.ref a) → vs[j]? = some (.ref a) → i = j
  | [], [], [], i, j, _, _, _, _, _, e, _, _, _ => by simp at e
  | v :: vs, .sh d :: as, L, 0, j, _, _, _, _, _, e, _, _, _ => by simp at e
  | v :: vs, .sh d :: as, L, i + 1, 0, _, _, _, _, _, _, e, _, _ => by simp at e
  | v :: vs, .sh d :: as, L, i + 1, j + 1, ds, es, a, nd, h, e1, e2, g1, g2 => by
    rw [Args.inj (i := i) (j := j) nd h.2 (by simpa using e1) (by simpa using e2) (by simpa using g1) (by simpa using g2)]
  | v :: vs, .mu d :: as, b :: L, 0, 0, _, _, _, _, _, _, _, _, _ => rfl
  | v :: vs, .mu d :: as, b :: L, 0, j + 1, ds, es, a, nd, h, e1, e2, g1, g2 => by
    obtain ⟨nb, nd2⟩ := List.nodup_cons.mp nd
    have e3 : v = .ref a := by simpa using g1
    obtain ⟨u, h1, c, h2, hc, _⟩ := Args.get (i := j) (x := .mu es) h.2 (by simpa using e2)
    have g2' : vs[j]? = some (V.ref a) := by simpa using g2
    rw [h1] at g2'
    cases g2'
    cases h2
    have hv := h.1.1
    rw [e3] at hv
    cases hv
    exact absurd hc nb
  | v :: vs, .mu d :: as, b :: L, i + 1, 0, ds, es, a, nd, h, e1, e2, g1, g2 => by
    obtain ⟨nb, nd2⟩ := List.nodup_cons.mp nd
    have e3 : v = .ref a := by simpa using g2
    obtain ⟨u, h1, c, h2, hc, _⟩ := Args.get (i := i) (x := .mu ds) h.2 (by simpa using e1)
    have g2' : vs[i]? = some (V.ref a) := by simpa using g1
    rw [h1] at g2'
    cases g2'
    cases h2
    have hv := h.1.1
    rw [e3] at hv
    cases hv
    exact absurd hc nb
  | v :: vs, .mu d :: as, b :: L, i + 1, j + 1, ds, es, a, nd, h, e1, e2, g1, g2 => by
    rw [Args.inj (i := i) (j := j) (List.nodup_cons.mp nd).2 h.2 (by simpa using e1) (by simpa using e2) (by simpa using g1) (by simpa using g2)]
  | v :: vs, .mu ds :: as, [], _, _, _, _, _, _, h, _, _, _, _ => h.elim
  | [], [], _ :: _, _, _, _, _, _, _, h, _, _, _, _ => h.elim
  | [], _ :: _, _, _, _, _, _, _, _, h, _, _, _, _ => h.elim
  | _ :: _, [], _, _, _, _, _, _, _, h, _, _, _, _ => h.elim
theorem Args.plmem : ∀ {vs : List V} {as : List AV} {L : List Addr} (k : Nat), Args K M H vs as L → ∀ ia ∈ Pl vs as k, ∃ i ds, ia.1 = k + i ∧ as[i]? = some (AV.mu ds) ∧ vs[i]? = some (V.ref ia.2)
  | [], [], [], _, _, ia, hm => by cases hm
  | v :: vs, .sh d :: as, L, k, h, ia, hm => by
    have hm : ia ∈ Pl vs as (k + 1) := by cases v <;> exact hm
    obtain ⟨i, ds, h1, h2, h3⟩ := Args.plmem (k + 1) h.2 ia hm
    exact ⟨i + 1, ds, by omega, by simpa using h2, by simpa using h3⟩
  | v :: vs, .mu ds :: as, a :: L, k, h, ia, hm => by
    obtain ⟨⟨rfl, _⟩, h2⟩ := h
    rcases List.mem_cons.mp hm with rfl | hm
    · exact ⟨0, ds, rfl, rfl, rfl⟩
    · obtain ⟨i, ds, h1, h2, h3⟩ := Args.plmem (k + 1) h2 ia hm
      exact ⟨i + 1, ds, by omega, by simpa using h2, by simpa using h3⟩
  | v :: vs, .mu ds :: as, [], k, h, _, _ => h.elim
  | [], [], _ :: _, _, h, _, _ => h.elim
  | [], _ :: _, _, _, h, _, _ => h.elim
  | _ :: _, [], _, _, h, _, _ => h.elim
end
def entry (M : Addr → Prop) (H : Hp) (vs : List V) (avs : List AV) (L : List Addr) : Fr := ⟨H, M, M, (· ∈ L), Pl vs avs 0⟩
theorem entry_get {avs : List AV} {k : Nat} {i : Nat} {x : SV} (h : (avs.map slot0 ++ List.replicate k none)[i]? = some (some x)) : ∃ a, avs[i]? = some a ∧ slot0 a = some x := by
  rcases Nat.lt_or_ge i avs.length with q | q
  · rw [List.getElem?_append_left (by simpa using q), List.getElem?_map] at h
    rw [List.getElem?_eq_getElem q] at h ⊢
    exact ⟨_, rfl, Option.some.inj h⟩
  · rw [List.getElem?_append_right (by simpa using q), List.getElem?_replicate] at h
    split at h <;> cases h
theorem start_get {N : List Str} {vs : List V} {i : Nat} {v : V} (h : vs[i]? = some v) : (L2.start N vs)[i]? = some (some v) := by
  have hl : i < vs.length := by
    rcases Nat.lt_or_ge i vs.length with q | q
    · exact q
    · rw [List.getElem?_eq_none q] at h; cases h
  unfold L2.start
  rw [List.getElem?_append_left (by simpa using hl), List.getElem?_map, h]
  rfl
theorem entry_sr {K : PySem.W.Frag} {M : Addr → Prop} {H : Hp} {vs : List V} {avs : List AV} {L : List Addr} {N : List Str} (mok : MOk M H) (nd : L.Nodup) (h : Args K M H vs avs L) (hl : avs.length ≤ N.length) :
    SR K (entry M H vs avs L) M (avs.map slot0 ++ List.replicate (N.length - avs.length) none) (L2.start N vs) H ∧ Fr.Top (entry M H vs avs L) := by
  have inL : ∀ a ∈ L, M a := by
    intro a ha
    rw [← h.pl 0] at ha
    obtain ⟨ia, hia, rfl⟩ := List.mem_map.mp ha
    obtain ⟨i, ds, _, h2, h3⟩ := h.plmem 0 ia hia
    obtain ⟨v, h4, b, h5, _, m, _⟩ := h.get h2
    rw [h3] at h4
    cases h4
    cases h5
    exact m
  refine ⟨{
    keep := fun b o h _ => h
    alive := fun b h => h
    m0 := fun b h => h
    grow := fun b h => .inl h
    mok := mok
    sh := fun i d e => by
      obtain ⟨x, h1, h2⟩ := entry_get e
      cases x with
      | sh d' =>
        cases h2
        obtain ⟨v, h3, r⟩ := h.get h1
        exact ⟨v, start_get h3, r⟩
      | mu ds => cases h2
    ow := fun i p ds e => by
      obtain ⟨x, h1, h2⟩ := entry_get e
      cases x with
      | sh d' => cases h2
      | mu es =>
        cases h2
        obtain ⟨v, h3, a, rfl, ha, m, ⟨xs, hx, rx⟩, l⟩ := h.get h1
        exact ⟨a, xs, start_get h3, m, .inl ha, (fun z => by cases z), hx, rx, l⟩
    inj := fun i j p q ds es a e1 e2 g1 g2 => by
      obtain ⟨x, h1, h2⟩ := entry_get e1
      obtain ⟨y, h3, h4⟩ := entry_get e2
      cases x with
      | sh d' => cases h2
      | mu ds' =>
        cases y with
        | sh d' => cases h4
        | mu es' =>
          obtain ⟨v, k1, b, rfl, _⟩ := h.get h1
          obtain ⟨u, k2, c, rfl, _⟩ := h.get h3
          rw [start_get k1] at g1
          rw [start_get k2] at g2
          cases g1
          cases g2
          exact h.inj nd h1 h3 k1 k2
    par := fun ia hia => by
      obtain ⟨i, ds, h1, h2, h3⟩ := h.plmem 0 ia hia
      rw [Nat.zero_add] at h1
      have hli : i < avs.length := by
        rcases Nat.lt_or_ge i avs.length with q | q
        · exact q
        · rw [List.getElem?_eq_none q] at h2; cases h2
      refine ⟨⟨ds, ?_⟩, by rw [h1]; exact start_get h3⟩
      rw [h1, List.getElem?_append_left (by simpa using hli), List.getElem?_map, h2]
      rfl
    len := by
      have := h.len
      unfold L2.start
      simp only [List.length_append, List.length_map, List.length_replicate]
      omega }, ⟨fun a h => h, mok⟩, inL⟩
theorem outs_ok {K : PySem.W.Frag} {M M' : Addr → Prop} {H H' : Hp} {F : Fr} {e : En} {σ : St} (S : SR K F M' e σ H') : ∀ {mu : List Bool} {vs : List V} {avs : List AV} {L : List Addr} {k : Nat} {os : List (List D)},
    Args K M H vs avs L → fits mu avs = true → (∀ ia ∈ Pl vs avs k, σ[ia.1]? = some (some (V.ref ia.2))) → outs e mu k = some os → Outs K M' H' L os
  | [], [], [], [], k, os, _, _, _, h => by
    simp only [outs] at h
    cases h
    trivial
  | false :: mu, v :: vs, .sh d :: avs, L, k, os, a, f, p, h => by
    simp only [outs] at h
    exact outs_ok S a.2 f (fun ia hia => p ia (by cases v <;> exact hia)) h
  | true :: mu, v :: vs, .mu ds :: avs, b :: L, k, os, a, f, p, h => by
    obtain ⟨⟨rfl, _⟩, a2⟩ := a
    simp only [outs] at h
    split at h
    case h_2 => cases h
    rename_i ds' l h1 h2
    cases h
    refine ⟨?_, outs_ok S a2 f (fun ia hia => p ia (List.mem_cons_of_mem _ hia)) h2⟩
    have e1 := p (k, b) List.mem_cons_self
    obtain ⟨c, xs, e2, m, _, _, hx, rx, l'⟩ := S.ow k true ds' h1
    have e1 : σ[k]? = some (some (V.ref b)) := e1
    rw [e1] at e2
    cases e2
    exact ⟨m, ⟨xs, hx, rx⟩, l'⟩
  | [], [], [], _ :: _, _, _, a, _, _, _ => a.elim
  | [], _ :: _, [], _, _, _, a, _, _, _ => a.elim
  | [], _, _ :: _, _, _, _, _, f, _, _ => by simp [fits] at f
  | false :: _, _, [], _, _, _, _, f, _, _ => by simp [fits] at f
  | true :: _, _, [], _, _, _, _, f, _, _ => by simp [fits] at f
  | false :: _, _, .mu _ :: _, _, _, _, _, f, _, _ => by simp [fits] at f
  | true :: _, _, .sh _ :: _, _, _, _, _, f, _, _ => by simp [fits] at f
  | false :: _, [], .sh _ :: _, _, _, _, a, _, _, _ => a.elim
  | true :: _, [], .mu _ :: _, _, _, _, a, _, _, _ => a.elim
  | true :: _, _ :: _, .mu _ :: _, [], _, _, a, _, _, _ => a.elim
theorem fits_len : ∀ {mu : List Bool} {avs : List AV}, fits mu avs = true → mu.length = avs.length
  | [], [], _ => rfl
  | false :: ms, .sh _ :: r, h => by simp only [fits] at h; rw [List.length_cons, List.length_cons, fits_len h]
  | true :: ms, .mu _ :: r, h => by simp only [fits] at h; rw [List.length_cons, List.length_cons, fits_len h]
  | [], _ :: _, h => by simp [fits] at h
  | false :: _, [], h => by simp [fits] at h
  | true :: _, [], h => by simp [fits] at h
  | false :: _, .mu _ :: _, h => by simp [fits] at h
  | true :: _, .sh _ :: _, h => by simp [fits] at h
/-- what is known of a def of the text -/
structure DefOk (K : PySem.W.Frag) (mg : Str → Option Value) (G : List Str) (KT : List (Nat × Nat × List Str × List Nat)) (GC : List (Str × List Nat)) (F : MF) (i : FI) : Prop where
  fn : ∃ (st : Stmt) (N : List Str) (qual : Str), Fun K i.x qual st i.a i.fd ∧ FnScope N i.ps (defScope st) ∧ N.length = F.nn ∧ mSs F.body ⟨N, defScope st, fun _ => true, G, KT, GC⟩ (defBody st) = true
  mg : mg i.x = some (.ref i.a)
  ps : i.ps.length = F.np
  mu : F.mu.length = F.np
  nn : F.np ≤ F.nn
  bi : Binds K i.fd i.ps []
theorem all_ok {P : Program} {w : World} {K : PySem.W.Frag} {mg : Str → Option Value} {base : Heap} {T : List MF} {I : List FI} {KT : List (Nat × Nat × List Str × List Nat)} {GC : List (Str × List Nat)} (hl : I.length = T.length)
    (hd : ∀ (f : Nat) (F : MF) (i : FI), T[f]? = some F → I[f]? = some i → DefOk K mg (I.map (·.x)) KT GC F i) (hb : ∀ x ∈ bnames, mg x = none)
    (hgc : ∀ x s, (x, s) ∈ GC → okS s = true ∧ lenOk s.length = true ∧ ∃ u, mg x = some u ∧ L2.RelV (V.str (str0 s)) u)
    (hkw : ∀ f np ns pj, (f, np, ns, pj) ∈ KT → ∃ F i, T[f]? = some F ∧ I[f]? = some i ∧ KB K i.fd i.ps np ns pj ∧ pj.length = F.np) :
    ∀ (n f : Nat) (F : MF) (i : FI), T[f]? = some F → I[f]? = some i → FnOk P w K mg base CX0 n i.a i.fd i.ps (spC K (callI T n) f F.np) := by
  intro n
  induction n with
  | zero =>
    intro f F i hF hi
    exact ⟨fun vs H Q E h => h.1.trans (hd f F i hF hi).ps.symm, fun A outer s H args us vs Q E hr e0 hbt hv h => by
      obtain ⟨_, M, avs, L, r, os, _, _, _, e, _⟩ := h
      cases e⟩
  | succ n ih =>
    intro f F i hF hi
    obtain ⟨⟨st, N, qual, fu, sc, hN, hm⟩, hmg, hps, hmu, hnn, hbi⟩ := hd f F i hF hi
    refine fu.ok sc (fun vs H Q E h => h.1.trans hps.symm) fun cdv A outer s H vs Q E hr h => ?_
    obtain ⟨hvl, M, avs, L, r, os, mok, nd, ha, e, q⟩ := h
    have c : Ctx T I n (cxOf CX0 P w K mg base N qual (defScope st) i.a cdv A outer s H E).nox ⟨N, defScope st, fun _ => true, I.map (·.x), KT, GC⟩ := {
      hN := rfl
      nd := sc.nd
      sc := rfl
      fk := sc.kind
      calm := rfl
      room := hr
      fc := fun _ _ => rfl
      bn := hb
      gc := hgc
      kf := hkw
      fns := fun g G hG => by
        have hlt : g < T.length := by
          rcases Nat.lt_or_ge g T.length with q | q
          · exact q
          · rw [List.getElem?_eq_none q] at hG; cases hG
        have hg : I[g]? = some I[g] := List.getElem?_eq_getElem (by omega)
        obtain ⟨⟨st', N', qual', fu', _⟩, hmg', _, hmu', _, hbi'⟩ := hd g G _ hG hg
        exact ⟨_, hg, by rw [List.getElem?_map, hg]; rfl, hmg', fu'.kp, ih g G _ hG hg, hbi', hmu'⟩ }
    refine ⟨_, (stm_all F.body _ _ c PassesOwn.never).2 _ hm, ?_⟩
    have e' : runF (moT T) (callI T n) F avs = some (r, os) := by
      have : callI T (n + 1) f avs = runF (moT T) (callI T n) F avs := by
        show (match T[f]? with | some F => runF (moT T) (callI T n) F avs | none => none) = _
        rw [hF]
      rw [← this]
      exact e
    unfold runF at e'
    split at e'
    case isFalse => cases e'
    rename_i hfit
    have hal : avs.length = F.np := by rw [← fits_len hfit]; exact hmu
    have hsz : F.nn - F.np = N.length - avs.length := by rw [hN, hal]
    obtain ⟨S0, top⟩ := entry_sr (N := N) mok nd ha (by omega)
    have fin : ∀ {e1 : En} {M' : Addr → Prop} {σ' : L2.St} {H' : Hp} {v : V} {r' : RV}, SR K (entry M H vs avs L) M' e1 σ' H' → RR K (entry M H vs avs L) M' e1 σ' H' v r' → outs e1 F.mu 0 = some os → r' = r → Q v H' := by
      intro e1 M' σ' H' v r' S R ho hr'
      subst hr'
      refine q M' H' v ⟨fun b o h q => S.keep b o h q, S.alive, S.m0, S.grow, S.mok, outs_ok S ha hfit (fun ia hia => (S.par ia hia).2) ho, ?_⟩
      cases r' with
      | sh d => exact R
      | own ds =>
        obtain ⟨a, e1, f⟩ := R
        exact ⟨a, e1, f.m, f.n, f.at_, f.l⟩
    split at e'
    · rename_i e1 r1 h1
      split at e'
      case h_2 => cases e'
      rename_i l hl1
      cases e'
      rw [hsz] at h1
      exact ⟨_, M, _, _, top, S0, h1, fun M' σ' H' v S R => fin S R hl1 rfl⟩
    · rename_i e1 h1
      split at e'
      case h_2 => cases e'
      rename_i l hl1
      cases e'
      rw [hsz] at h1
      exact ⟨_, M, _, _, top, S0, h1, fun M' σ' H' S _ => fin S (r' := .sh .non) .non hl1 rfl⟩
    · cases e'
end MP

set_option Elab.async false
set_option linter.all false
set_option maxRecDepth 100000
/-! Rules to go through the little language's texts by hand: expressions by equations, statements by what holds behind them. -/
namespace MP
section
variable {mo : Nat → List Bool} {cf : CF}
/-! ### expressions -/
def notVar : ME → Bool
  | .var _ => false
  | _ => true
def notNm : Tg → Bool
  | .nm _ => false
  | _ => true
def notTst : ME → Bool
  | .var _ => false
  | .nop => false
  | _ => true
theorem o_dv {a : ME} {env e : En} {r : RV} (h : evR mo cf a env = some (e, r)) (nv : notVar a = true) : opd a (evR mo cf a env) env = some (e, .dv r.fz) := by
  rw [h]; cases a <;> first | rfl | cases nv
theorem t_dv {a : ME} {env e : En} {r : RV} {b : Bool} (h : evR mo cf a env = some (e, r)) (nv : notTst a = true) (hb : tru r.fz = b) : tst a (evR mo cf a env) env = some (e, b) := by
  rw [h, ← hb]; cases a <;> first | rfl | cases nv
theorem q_bin {op : BOp} {a b : ME} {env e1 e2 : En} {oa ob : OP} {x y : D} {r : RV} (h1 : opd a (evR mo cf a env) env = some (e1, oa)) (h2 : opd b (evR mo cf b e1) e1 = some (e2, ob)) (h3 : rdO e2 oa = some x) (h4 : rdO e2 ob = some y) (h5 : binD op x y = some r) : evR mo cf (.bin op a b) env = some (e2, r) := by
  simp only [evR, h1, h2, h3, h4, h5]
theorem q_cmp {op : COp} {a b : ME} {env e1 e2 : En} {oa ob : OP} {x y : D} {r : Bool} (h1 : opd a (evR mo cf a env) env = some (e1, oa)) (h2 : opd b (evR mo cf b e1) e1 = some (e2, ob)) (h3 : rdO e2 oa = some x) (h4 : rdO e2 ob = some y) (h5 : cmpD op x y = some r) : evR mo cf (.cmp op a b) env = some (e2, .sh (.bl r)) := by
  simp only [evR, h1, h2, h3, h4, h5]
theorem q_ix {a b : ME} {env e1 e2 : En} {oa ob : OP} {x y r : D} (h1 : opd a (evR mo cf a env) env = some (e1, oa)) (h2 : opd b (evR mo cf b e1) e1 = some (e2, ob)) (h3 : rdO e2 oa = some x) (h4 : rdO e2 ob = some y) (h5 : ixD x y = some r) : evR mo cf (.ix a b) env = some (e2, .sh r) := by
  simp only [evR, h1, h2, h3, h4, h5]
theorem q_idx {a b : ME} {env e1 e2 : En} {oa ob : OP} {x1 x y r : D} (h1 : opd a (evR mo cf a env) env = some (e1, oa)) (h0 : rdO e1 oa = some x1) (h2 : opd b (evR mo cf b e1) e1 = some (e2, ob)) (h3 : rdO e2 oa = some x) (h4 : rdO e2 ob = some y) (h5 : idxD x1 x y = some r) : evR mo cf (.idx a b) env = some (e2, .sh r) := by
  simp only [evR, h1, h0, h2, h3, h4, h5]
theorem q_not {a : ME} {env e1 : En} {oa : OP} {x : D} (h1 : opd a (evR mo cf a env) env = some (e1, oa)) (h3 : rdO e1 oa = some x) : evR mo cf (.not a) env = some (e1, .sh (.bl (!tru x))) := by
  simp only [evR, h1, h3]
theorem q_neg {a : ME} {env e1 : En} {i : Int} (h : evR mo cf a env = some (e1, .sh (.int i))) : evR mo cf (.neg a) env = some (e1, .sh (.int (-i))) := by
  simp only [evR, h]
theorem q_one {a : ME} {env : En} {o} (h : evR mo cf a env = o) : evR mo cf (.one a) env = o := by
  simp only [evR, h]
theorem q_and_t {a b : ME} {env e1 : En} {r : RV} {o} (h : evR mo cf a env = some (e1, r)) (ht : tru r.fz = true) (h2 : evR mo cf b e1 = o) : evR mo cf (.and a b) env = o := by
  simp only [evR, h, ht, h2, if_true]
theorem q_and_f {a b : ME} {env e1 : En} {r : RV} (h : evR mo cf a env = some (e1, r)) (ht : tru r.fz = false) : evR mo cf (.and a b) env = some (e1, r) := by
  simp only [evR, h, ht]; rfl
theorem q_or_f {a b : ME} {env e1 : En} {r : RV} {o} (h : evR mo cf a env = some (e1, r)) (ht : tru r.fz = false) (h2 : evR mo cf b e1 = o) : evR mo cf (.or a b) env = o := by
  simp only [evR, h, ht, h2]; rfl
theorem q_or_t {a b : ME} {env e1 : En} {r : RV} (h : evR mo cf a env = some (e1, r)) (ht : tru r.fz = true) : evR mo cf (.or a b) env = some (e1, r) := by
  simp only [evR, h, ht, if_true]
/-- a row of tests that leave the names as they are: all of them asked -/
theorem q_andb {a b : ME} {env : En} {p q : Bool} (h : evR mo cf a env = some (env, .sh (.bl p))) (h2 : p = true → evR mo cf b env = some (env, .sh (.bl q))) : evR mo cf (.and a b) env = some (env, .sh (.bl (p && q))) := by
  cases p
  · exact q_and_f h rfl
  · exact q_and_t h rfl (h2 rfl)
theorem q_orb {a b : ME} {env : En} {p q : Bool} (h : evR mo cf a env = some (env, .sh (.bl p))) (h2 : p = false → evR mo cf b env = some (env, .sh (.bl q))) : evR mo cf (.or a b) env = some (env, .sh (.bl (p || q))) := by
  cases p
  · exact q_or_f h rfl (h2 rfl)
  · exact q_or_t h rfl
theorem q_ite_t {c a b : ME} {env e1 : En} {t : Bool} {o} (h : tst c (evR mo cf c env) env = some (e1, t)) (ht : t = true) (h2 : evR mo cf a e1 = o) : evR mo cf (.ite c a b) env = o := by
  simp only [evR, h, ht, h2, if_true]
theorem q_ite_f {c a b : ME} {env e1 : En} {t : Bool} {o} (h : tst c (evR mo cf c env) env = some (e1, t)) (ht : t = false) (h2 : evR mo cf b e1 = o) : evR mo cf (.ite c a b) env = o := by
  simp only [evR, h, ht, h2]; rfl
theorem q_chain_t {o1 o2 : COp} {a b c : ME} {env e1 e2 e3 : En} {ra rb rc : RV} {q : Bool} (h1 : evR mo cf a env = some (e1, ra)) (h2 : evR mo cf b e1 = some (e2, rb)) (h3 : cmpD o1 ra.fz rb.fz = some true) (h4 : evR mo cf c e2 = some (e3, rc)) (h5 : cmpD o2 rb.fz rc.fz = some q) : evR mo cf (.chain o1 o2 a b c) env = some (e3, .sh (.bl q)) := by
  simp only [evR, h1, h2, h3, h4, h5]
theorem q_chain_f {o1 o2 : COp} {a b c : ME} {env e1 e2 : En} {ra rb : RV} (h1 : evR mo cf a env = some (e1, ra)) (h2 : evR mo cf b e1 = some (e2, rb)) (h3 : cmpD o1 ra.fz rb.fz = some false) : evR mo cf (.chain o1 o2 a b c) env = some (e2, .sh (.bl false)) := by
  simp only [evR, h1, h2, h3]
theorem q_chainb {o1 o2 : COp} {a b c : ME} {env : En} {ra rb rc : RV} {p q : Bool} (h1 : evR mo cf a env = some (env, ra)) (h2 : evR mo cf b env = some (env, rb)) (h3 : cmpD o1 ra.fz rb.fz = some p) (h4 : evR mo cf c env = some (env, rc)) (h5 : cmpD o2 rb.fz rc.fz = some q) : evR mo cf (.chain o1 o2 a b c) env = some (env, .sh (.bl (p && q))) := by
  cases p
  · exact q_chain_f h1 h2 h3
  · exact q_chain_t h1 h2 h3 h4 h5
theorem q_tup {es : ME} {env e1 : En} {ds : List D} (h : evL mo cf es env = some (e1, ds)) (l : lenOk ds.length = true) : evR mo cf (.tup es) env = some (e1, .sh (.tup ds)) := by
  simp only [evR, h, l, if_true]
theorem q_lst {es : ME} {env e1 : En} {ds : List D} (h : evL mo cf es env = some (e1, ds)) (l : lenOk ds.length = true) : evR mo cf (.lst es) env = some (e1, .own ds) := by
  simp only [evR, h, l, if_true]
theorem q_sl {a lo hi : ME} {env e1 e2 e3 : En} {oa : OP} {rl rh r : RV} {x : D} {l h : Option Int} (h1 : opd a (evR mo cf a env) env = some (e1, oa)) (h2 : evR mo cf lo e1 = some (e2, rl)) (h3 : evR mo cf hi e2 = some (e3, rh)) (h4 : rdO e3 oa = some x) (h5 : part lo rl.fz = some l) (h6 : part hi rh.fz = some h) (h7 : slD x l h = some r) : evR mo cf (.sl a lo hi) env = some (e3, r) := by
  simp only [evR, h1, h2, h3, h4, h5, h6, h7]
theorem q_rev {a : ME} {env e1 : En} {oa : OP} {x : D} {r : RV} (h1 : opd a (evR mo cf a env) env = some (e1, oa)) (h3 : rdO e1 oa = some x) (h4 : revD x = some r) : evR mo cf (.rev a) env = some (e1, r) := by
  simp only [evR, h1, h3, h4]
theorem q_bi {b : Bi} {es : ME} {env e1 : En} {os : List OP} {ds : List D} {r : RV} (h1 : evO mo cf es env = some (e1, os)) (h2 : rdL e1 os = some ds) (h3 : biD b ds = some r) : evR mo cf (.bi b es) env = some (e1, r) := by
  simp only [evR, h1, h2, h3]
theorem q_isi {a : ME} {cs : List Ty} {o : Bool} {env e1 : En} {oa : OP} {x : D} (h1 : opd a (evR mo cf a env) env = some (e1, oa)) (h3 : rdO e1 oa = some x) : evR mo cf (.isi a cs o) env = some (e1, .sh (.bl (cs.any fun c => isTy c x))) := by
  simp only [evR, h1, h3]
theorem q_call {f : Nat} {es : ME} {env e1 e2 : En} {m : List Bool} {aps : List AP} {avs : List AV} {r : RV} {os : List (List D)} (hm : mo f = m) (h1 : evA mo cf m es env = some (e1, aps)) (h2 : nodup (AP.mvs aps) = true) (h3 : resolve e1 aps = some avs) (h4 : cf f avs = some (r, os)) (h5 : giveBack e1 (AP.mvs aps) os = some e2) : evR mo cf (.call f es) env = some (e2, r) := by
  subst hm
  simp only [evR, h1, h2, h3, h4, h5, if_true]
theorem q_callk {f np nk : Nat} {es ks : ME} {pj : List Nat} {env e1 e2 : En} {ds zs xs : List D} {r : RV} (h1 : evL mo cf es env = some (e1, ds)) (h2 : evL mo cf ks e1 = some (e2, zs)) (h3 : (ds.length == np && zs.length == nk && (mo f).all (fun b => !b)) = true) (h4 : pick (ds ++ zs) pj = some xs) (h5 : cf f (xs.map AV.sh) = some (r, [])) : evR mo cf (.callk f np nk es ks pj) env = some (e2, r) := by
  simp only [evR, h1, h2, h3, h4, h5, if_true]
theorem q_pop {i : Nat} {e : ME} {env e1 : En} {re : RV} {p0 p : Bool} {d0 ds ds' : List D} {d : D} (h0 : env[i]? = some (some (.own p0 d0))) (h1 : evR mo cf e env = some (e1, re)) (h2 : e1[i]? = some (some (.own p ds))) (h3 : popD e re.fz ds = some (d, ds')) : evR mo cf (.pop i e) env = some (e1.set i (some (.own p ds')), .sh d) := by
  simp only [evR, h0, h1, h2, h3]
theorem l_nil {env : En} : evL mo cf .nil env = some (env, []) := rfl
theorem l_cons {a r : ME} {env e1 e2 : En} {x : RV} {xs : List D} (h1 : evR mo cf a env = some (e1, x)) (h2 : evL mo cf r e1 = some (e2, xs)) : evL mo cf (.cons a r) env = some (e2, x.fz :: xs) := by
  simp only [evL, h1, h2]
theorem op_cons {a r : ME} {env e1 e2 : En} {x : OP} {xs : List OP} (h1 : opd a (evR mo cf a env) env = some (e1, x)) (h2 : evO mo cf r e1 = some (e2, xs)) : evO mo cf (.cons a r) env = some (e2, x :: xs) := by
  simp only [evO, h1, h2]
theorem a_mv {ms : List Bool} {i : Nat} {r : ME} {env e2 : En} {p : Bool} {ds : List D} {xs : List AP} (h1 : env[i]? = some (some (.own p ds))) (h2 : evA mo cf ms r env = some (e2, xs)) : evA mo cf (true :: ms) (.cons (.var i) r) env = some (e2, .mv i :: xs) := by
  simp only [evA, h1, h2]
theorem a_tm {ms : List Bool} {a r : ME} {env e1 e2 : En} {ds : List D} {xs : List AP} (nv : notVar a = true) (h1 : evR mo cf a env = some (e1, .own ds)) (h2 : evA mo cf ms r e1 = some (e2, xs)) : evA mo cf (true :: ms) (.cons a r) env = some (e2, .tm ds :: xs) := by
  cases a <;> first | (simp only [evA, h1, h2]; done) | cases nv
theorem a_sh {ms : List Bool} {a r : ME} {env e1 e2 : En} {x : RV} {xs : List AP} (h1 : evR mo cf a env = some (e1, x)) (h2 : evA mo cf ms r e1 = some (e2, xs)) : evA mo cf (false :: ms) (.cons a r) env = some (e2, .sh x.fz :: xs) := by
  simp only [evA, h1, h2]
theorem i_seq {e : ME} {env e1 : En} {r : RV} {xs : List D} (h : evR mo cf e env = some (e1, r)) (h2 : r.fz = .lst xs ∨ r.fz = .tup xs ∨ ∃ s, r.fz = .str s ∧ xs = chars s) : evI mo cf (.seq e) env = some (e1, xs) := by
  simp only [evI, h]
  rcases h2 with q | q | ⟨s, q, rfl⟩ <;> rw [q]
theorem i_rng1 {a : ME} {env e1 : En} {j : Int} (h : evR mo cf a env = some (e1, .sh (.int j))) (lo : -1000000 ≤ j) (hi : j ≤ 1000000) : evI mo cf (.rng1 a) env = some (e1, rangeL 0 j.toNat) := by
  simp only [evI, h, lo, hi, and_self, if_true, decide_true, Bool.and_self]
theorem i_zip {a b : ME} {env e1 e2 : En} {ra rb : RV} {xs ys : List D} (h1 : evR mo cf a env = some (e1, ra)) (h2 : evR mo cf b e1 = some (e2, rb)) (h3 : srcD ra.fz = some xs) (h4 : srcD rb.fz = some ys) : evI mo cf (.zip a b) env = some (e2, zipL xs ys) := by
  simp only [evI, h1, h2, h3, h4]
theorem i_enum {a : ME} {env e1 : En} {r : RV} {xs : List D} (h : evR mo cf a env = some (e1, r)) (h2 : srcD r.fz = some xs) : evI mo cf (.enum a) env = some (e1, enumL 0 xs) := by
  simp only [evI, h, h2]
/-! ### a comprehension without a test: one value for each item, the names as they were -/
theorem turns_map {body : D → En → Option (En × List D)} {env : En} {g : D → D} : ∀ {xs : List D}, (∀ x ∈ xs, body x env = some (env, [g x])) → turns body xs env = some (env, xs.map g)
  | [], _ => rfl
  | x :: xs, h => by
    have h1 := h x List.mem_cons_self
    have h2 := turns_map (xs := xs) fun y hy => h y (List.mem_cons_of_mem _ hy)
    simp only [turns, h1, h2, List.map_cons, List.cons_append, List.nil_append]
theorem q_lc {t : Tg} {it e : ME} {vs : List Nat} {env e1 : En} {xs : List D} {g : D → D} (h1 : evI mo cf it env = some (e1, xs)) (w : wipeOk e1 vs = true)
    (hb : ∀ x ∈ xs, ∃ en1 en3 r, tgA t x (wipeE (wipeE e1 vs) vs) = some en1 ∧ evR mo cf e en1 = some (en3, r) ∧ wipeE en3 vs = wipeE e1 vs ∧ r.fz = g x) (l : xs.length ≤ 1000000) :
    evR mo cf (.lc t it .nop e vs) env = some (unwipe e1 (wipeE e1 vs) vs, .own (xs.map g)) := by
  rw [evR.eq_def]
  simp only [h1, w, if_true]
  rw [turns_map (g := g)]
  · simp only [lenOk, List.length_map, l, decide_true, if_true]
  · intro x hx
    obtain ⟨en1, en3, r, h1, h2, h3, h4⟩ := hb x hx
    simp only [h1, tst, h2, h3, h4]
theorem turns_filter {body : D → En → Option (En × List D)} {env : En} {g : D → D} {p : D → Bool} : ∀ {xs : List D}, (∀ x ∈ xs, body x env = some (env, if p x then [g x] else [])) → turns body xs env = some (env, (xs.filter p).map g)
  | [], _ => rfl
  | x :: xs, h => by
    have h1 := h x List.mem_cons_self
    have h2 := turns_filter (xs := xs) fun y hy => h y (List.mem_cons_of_mem _ hy)
    simp only [turns, h1, h2, List.filter_cons]
    cases p x <;> rfl
theorem q_lcf {t : Tg} {it c e : ME} {vs : List Nat} {env e1 : En} {xs : List D} {g : D → D} {p : D → Bool} (h1 : evI mo cf it env = some (e1, xs)) (w : wipeOk e1 vs = true)
    (hb : ∀ x ∈ xs, ∃ en1 en2, tgA t x (wipeE (wipeE e1 vs) vs) = some en1 ∧ tst c (evR mo cf c en1) en1 = some (en2, p x) ∧ wipeE en2 vs = wipeE e1 vs ∧ (p x = true → ∃ en3 r, evR mo cf e en2 = some (en3, r) ∧ wipeE en3 vs = wipeE e1 vs ∧ r.fz = g x)) (l : xs.length ≤ 1000000) :
    evR mo cf (.lc t it c e vs) env = some (unwipe e1 (wipeE e1 vs) vs, .own ((xs.filter p).map g)) := by
  have hl : ((xs.filter p).map g).length ≤ 1000000 := by
    rw [List.length_map]
    exact Nat.le_trans (List.length_filter_le _ _) l
  rw [evR.eq_def]
  simp only [h1, w, if_true]
  rw [turns_filter (g := g) (p := p)]
  · simp only [lenOk, hl, decide_true, if_true]
  · intro x hx
    obtain ⟨en1, en2, h1, h2, h3, h4⟩ := hb x hx
    simp only [h1, h2]
    cases hp : p x
    · simp [h3]
    · obtain ⟨en3, r, h5, h6, h7⟩ := h4 hp
      simp [h5, h6, h7]
/-! ### operations with a side condition -/
theorem b_mod {i j : Int} (h : 0 < j) : binD .mod (.int i) (.int j) = some (.sh (.int (i % j))) := by simp only [binD, h, if_true]
theorem b_fdiv {i j : Int} (h : 0 < j) (h2 : j < 1073741824) : binD .fdiv (.int i) (.int j) = some (.sh (.int (i / j))) := by simp only [binD, h, h2, decide_true, Bool.and_self, if_true]
theorem b_mulr {i j : Int} (h : -(2 ^ 64) < j) (h2 : j < 2 ^ 64) : binD .mul (.int i) (.int j) = some (.sh (.int (i * j))) := by simp only [binD, inW, h, h2, decide_true, Bool.and_self, Bool.or_true, if_true]
theorem b_mull {i j : Int} (h : -(2 ^ 64) < i) (h2 : i < 2 ^ 64) : binD .mul (.int i) (.int j) = some (.sh (.int (i * j))) := by simp only [binD, inW, h, h2, decide_true, Bool.and_self, Bool.true_or, if_true]
theorem b_addl {x y : List D} (h : x.length + y.length ≤ 1000000) : binD .add (.lst x) (.lst y) = some (.own (x ++ y)) := by simp only [binD, lenOk, h, decide_true, if_true]
theorem b_addt {x y : List D} (h : x.length + y.length ≤ 1000000) : binD .add (.tup x) (.tup y) = some (.sh (.tup (x ++ y))) := by simp only [binD, lenOk, h, decide_true, if_true]
theorem c_eq {x y : D} (h : dep x ≤ 60) (h2 : dep y ≤ 60) : cmpD .eq x y = some (eqD x y) := by simp only [cmpD, shal, h, h2, decide_true, Bool.and_self, if_true]
theorem c_ne {x y : D} (h : dep x ≤ 60) (h2 : dep y ≤ 60) : cmpD .ne x y = some (!eqD x y) := by simp only [cmpD, shal, h, h2, decide_true, Bool.and_self, if_true]
theorem ixL_nat {α : Type} {xs : List α} {i : Int} {j : Nat} {x : α} (h : i = j) (h2 : xs[j]? = some x) : ixL xs i = some x := by
  have hj : j < xs.length := by
    rcases Nat.lt_or_ge j xs.length with q | q
    · exact q
    · rw [List.getElem?_eq_none q] at h2; cases h2
  subst h
  simp only [ixL, place, Int.natCast_nonneg, if_true, Int.ofNat_lt, hj, Option.bind_some, Int.toNat_natCast, h2]
theorem ix_lst {xs : List D} {i : Int} {j : Nat} {x : D} (h : i = j) (h2 : xs[j]? = some x) : ixD (.lst xs) (.int i) = some x := ixL_nat h h2
theorem ix_tup {xs : List D} {i : Int} {j : Nat} {x : D} (h : i = j) (h2 : xs[j]? = some x) : ixD (.tup xs) (.int i) = some x := ixL_nat h h2
theorem place_nat {n : Nat} {i : Int} (h : 0 ≤ i) (h2 : i < n) : place n i = some i.toNat := by simp only [place, h, h2, if_true]
theorem set_nat {ds : List D} {i : Int} {x : D} (h : 0 ≤ i) (h2 : i < ds.length) : setD (.int i) x ds = some (ds.set i.toNat x) := by simp only [setD, place_nat h h2]
theorem pop_nat {ds : List D} {i : Int} {d : D} (h : 0 ≤ i) (h2 : ds[i.toNat]? = some d) : popI (.int i) ds = some (d, ds.eraseIdx i.toNat) := by
  have hj : i.toNat < ds.length := by
    rcases Nat.lt_or_ge i.toNat ds.length with q | q
    · exact q
    · rw [List.getElem?_eq_none q] at h2; cases h2
  simp only [popI, place_nat h (show i < ds.length by omega), h2]
/-! ### statements: what holds behind them -/
def WP (o : Option Fl) (Q : Fl → Prop) : Prop := ∃ f, o = some f ∧ Q f
theorem WP.mono {o : Option Fl} {Q R : Fl → Prop} (h : WP o Q) (i : ∀ f, Q f → R f) : WP o R := by
  obtain ⟨f, e, q⟩ := h
  exact ⟨f, e, i f q⟩
variable {Q : Fl → Prop}
theorem w_nil {env : En} (q : Q (.nx env)) : WP (exS mo cf .nil env) Q := ⟨_, rfl, q⟩
theorem w_cons {s r : MS} {env : En} (h : WP (exS mo cf s env) fun f => match f with | .nx e => WP (exS mo cf r e) Q | f => Q f) : WP (exS mo cf (.cons s r) env) Q := by
  obtain ⟨f, e, q⟩ := h
  cases f with
  | nx e1 =>
    obtain ⟨f2, e2, q2⟩ := q
    refine ⟨f2, ?_, q2⟩
    rw [exS, e]; exact e2
  | bk e1 => exact ⟨_, by rw [exS, e], q⟩
  | ct e1 => exact ⟨_, by rw [exS, e], q⟩
  | rt e1 v => exact ⟨_, by rw [exS, e], q⟩
theorem w_wipe {vs : List Nat} {r : MS} {env e2 : En} (hp : vs.all (fun v => !isPar env v) = true) (he : wipeE env vs = e2) (q : WP (exS mo cf r e2) Q) : WP (exS mo cf (.wipe vs r) env) Q := by
  obtain ⟨f, e, q⟩ := q
  refine ⟨f, ?_, q⟩
  rw [exS, if_pos hp, he]
  exact e
theorem w_nx {s r : MS} {env e : En} (h : exS mo cf s env = some (.nx e)) (q : WP (exS mo cf r e) Q) : WP (exS mo cf (.cons s r) env) Q := w_cons ⟨_, h, q⟩
theorem w_rt {s r : MS} {env e : En} {v : RV} (h : exS mo cf s env = some (.rt e v)) (q : Q (.rt e v)) : WP (exS mo cf (.cons s r) env) Q := w_cons ⟨_, h, q⟩
theorem x_asg {i : Nat} {e : ME} {env e1 e2 : En} {v : RV} (h : evR mo cf e env = some (e1, v)) (h2 : put e1 i v.sv = some e2) : exS mo cf (.asg (.nm i) e) env = some (.nx e2) := by
  simp only [exS, h, h2]
theorem x_asgT {t : Tg} {e : ME} {env e1 e2 : En} {v : RV} (nt : notNm t = true) (h : evR mo cf e env = some (e1, v)) (h2 : tgA t v.fz e1 = some e2) : exS mo cf (.asg t e) env = some (.nx e2) := by
  cases t <;> first | (simp only [exS, h, h2]; done) | cases nt
theorem x_par2 {i j : Nat} {a b : ME} {env e1 e2 e3 e4 : En} {ra rb : RV} (h1 : evR mo cf a env = some (e1, ra)) (h2 : evR mo cf b e1 = some (e2, rb)) (h3 : put e2 i ra.sv = some e3) (h4 : put e3 j rb.sv = some e4) : exS mo cf (.par2 i j a b) env = some (.nx e4) := by
  simp only [exS, h1, h2, h3, h4]
theorem x_setix {i : Nat} {j e : ME} {env e1 e2 : En} {r rj : RV} {p0 p : Bool} {d0 ds ds' : List D} (h1 : evR mo cf e env = some (e1, r)) (h2 : e1[i]? = some (some (.own p0 d0))) (h3 : evR mo cf j e1 = some (e2, rj)) (h4 : e2[i]? = some (some (.own p ds))) (h5 : setD rj.fz r.fz ds = some ds') : exS mo cf (.setix i j e) env = some (.nx (e2.set i (some (.own p ds')))) := by
  simp only [exS, h1, h2, h3, h4, h5]
theorem x_app {i : Nat} {e : ME} {env e1 : En} {r : RV} {p0 p : Bool} {d0 ds : List D} (h0 : env[i]? = some (some (.own p0 d0))) (h1 : evR mo cf e env = some (e1, r)) (h2 : e1[i]? = some (some (.own p ds))) (h3 : ds.length + 1 ≤ 1000000) : exS mo cf (.app i e) env = some (.nx (e1.set i (some (.own p (ds ++ [r.fz]))))) := by
  simp only [exS, h0, h1, h2, lenOk, h3, decide_true, if_true]
theorem w_ite {c : ME} {a b r : MS} {env e1 : En} {t : Bool} (h : tst c (evR mo cf c env) env = some (e1, t)) (ht : t = true → WP (exS mo cf a e1) fun f => match f with | .nx e => WP (exS mo cf r e) Q | f => Q f) (hf : t = false → WP (exS mo cf b e1) fun f => match f with | .nx e => WP (exS mo cf r e) Q | f => Q f) : WP (exS mo cf (.cons (.ite c a b) r) env) Q := by
  refine w_cons ?_
  rw [exS, h]
  cases t
  · exact hf rfl
  · exact ht rfl
theorem x_ret {e : ME} {env e1 : En} {v : RV} (nv : notVar e = true) (h : evR mo cf e env = some (e1, v)) : exS mo cf (.ret e) env = some (.rt e1 v) := by
  cases e <;> first | (simp only [exS, h]; done) | cases nv
theorem w_ret {e : ME} {r : MS} {env e1 : En} {v : RV} (nv : notVar e = true) (h : evR mo cf e env = some (e1, v)) (q : Q (.rt e1 v)) : WP (exS mo cf (.cons (.ret e) r) env) Q := w_rt (x_ret nv h) q
theorem w_for {t : Tg} {it : ME} {b r : MS} {env e1 : En} {xs : List D} (h : evI mo cf it env = some (e1, xs)) (I : List D → En → Prop) (h0 : I xs e1)
    (st : ∀ x rest e, I (x :: rest) e → WP (match tgA t x e with | some en => exS mo cf b en | none => none) fun f => match f with | .nx e' => I rest e' | .ct e' => I rest e' | .bk e' => WP (exS mo cf r e') Q | .rt e' v => Q (.rt e' v))
    (hend : ∀ e, I [] e → WP (exS mo cf r e) Q) : WP (exS mo cf (.cons (.for_ t it b) r) env) Q := by
  refine w_cons ?_
  rw [exS, h]
  have : ∀ (xs : List D) (e : En), I xs e → WP (loop (fun x en => match tgA t x en with | some en1 => exS mo cf b en1 | none => none) xs e) fun f => match f with | .nx e => WP (exS mo cf r e) Q | f => Q f := by
    intro xs
    induction xs with
    | nil => exact fun e i => ⟨_, rfl, hend e i⟩
    | cons x xs ih =>
      intro e i
      obtain ⟨f, h1, h2⟩ := st x xs e i
      have hl : loop (fun x en => match tgA t x en with | some en1 => exS mo cf b en1 | none => none) (x :: xs) e = (match (some f : Option Fl) with
        | some (.nx e) => loop (fun x en => match tgA t x en with | some en1 => exS mo cf b en1 | none => none) xs e
        | some (.ct e) => loop (fun x en => match tgA t x en with | some en1 => exS mo cf b en1 | none => none) xs e
        | some (.bk e) => some (.nx e)
        | some (.rt e r) => some (.rt e r)
        | none => none) := by
        rw [← h1]; rfl
      rw [hl]
      cases f with
      | nx e' => exact ih e' h2
      | ct e' => exact ih e' h2
      | bk e' => exact ⟨_, rfl, h2⟩
      | rt e' v => exact ⟨_, rfl, h2⟩
  exact this xs e1 h0
/-- a loop: the target's store first -/
theorem w_loop {t : Tg} {it : ME} {b r : MS} {env e1 : En} {xs : List D} (h : evI mo cf it env = some (e1, xs)) (I : List D → En → Prop) (h0 : I xs e1)
    (st : ∀ x rest e, I (x :: rest) e → ∃ en, tgA t x e = some en ∧ WP (exS mo cf b en) fun f => match f with | .nx e' => I rest e' | .ct e' => I rest e' | .bk e' => WP (exS mo cf r e') Q | .rt e' v => Q (.rt e' v))
    (hend : ∀ e, I [] e → WP (exS mo cf r e) Q) : WP (exS mo cf (.cons (.for_ t it b) r) env) Q :=
  w_for h I h0 (fun x rest e i => by
    obtain ⟨en, h1, h2⟩ := st x rest e i
    rw [h1]
    exact h2) hend
/-! ### statements in a row -/
theorem w_asg {i : Nat} {e : ME} {r : MS} {env e1 e2 : En} {v : RV} (h : evR mo cf e env = some (e1, v)) (h2 : put e1 i v.sv = some e2) (q : WP (exS mo cf r e2) Q) : WP (exS mo cf (.cons (.asg (.nm i) e) r) env) Q := w_nx (x_asg h h2) q
theorem w_asgT {t : Tg} {e : ME} {r : MS} {env e1 e2 : En} {v : RV} (h : evR mo cf e env = some (e1, v)) (h2 : tgA t v.fz e1 = some e2) (nt : notNm t = true) (q : WP (exS mo cf r e2) Q) : WP (exS mo cf (.cons (.asg t e) r) env) Q := w_nx (x_asgT nt h h2) q
theorem w_par2 {i j : Nat} {a b : ME} {r : MS} {env e1 e2 e3 e4 : En} {ra rb : RV} (h1 : evR mo cf a env = some (e1, ra)) (h2 : evR mo cf b e1 = some (e2, rb)) (h3 : put e2 i ra.sv = some e3) (h4 : put e3 j rb.sv = some e4) (q : WP (exS mo cf r e4) Q) : WP (exS mo cf (.cons (.par2 i j a b) r) env) Q := w_nx (x_par2 h1 h2 h3 h4) q
theorem w_setix {i : Nat} {j e : ME} {s : MS} {env e1 e2 : En} {r rj : RV} {p0 p : Bool} {d0 ds ds' : List D} (h1 : evR mo cf e env = some (e1, r)) (h2 : e1[i]? = some (some (.own p0 d0))) (h3 : evR mo cf j e1 = some (e2, rj)) (h4 : e2[i]? = some (some (.own p ds))) (h5 : setD rj.fz r.fz ds = some ds') (q : WP (exS mo cf s (e2.set i (some (.own p ds')))) Q) : WP (exS mo cf (.cons (.setix i j e) s) env) Q := w_nx (x_setix h1 h2 h3 h4 h5) q
theorem w_app {i : Nat} {e : ME} {s : MS} {env e1 : En} {r : RV} {p0 p : Bool} {d0 ds : List D} (h0 : env[i]? = some (some (.own p0 d0))) (h1 : evR mo cf e env = some (e1, r)) (h2 : e1[i]? = some (some (.own p ds))) (h3 : ds.length + 1 ≤ 1000000) (q : WP (exS mo cf s (e1.set i (some (.own p (ds ++ [r.fz]))))) Q) : WP (exS mo cf (.cons (.app i e) s) env) Q := w_nx (x_app h0 h1 h2 h3) q
theorem w_retv {i : Nat} {r : MS} {env : En} {ds : List D} (h : env[i]? = some (some (.own false ds))) (q : Q (.rt (env.set i none) (.own ds))) : WP (exS mo cf (.cons (.ret (.var i)) r) env) Q := w_rt (by simp only [exS, h]) q
theorem w_rets {i : Nat} {r : MS} {env : En} {d : D} (h : env[i]? = some (some (.sh d))) (q : Q (.rt env (.sh d))) : WP (exS mo cf (.cons (.ret (.var i)) r) env) Q := w_rt (by simp only [exS, h]) q
theorem w_rete {e : ME} {r : MS} {env e1 : En} {v : RV} (h : evR mo cf e env = some (e1, v)) (nv : notVar e = true) (q : Q (.rt e1 v)) : WP (exS mo cf (.cons (.ret e) r) env) Q := w_rt (x_ret nv h) q
/-! ### defs -/
def FP (o : Option (RV × List (List D))) (R : RV → List (List D) → Prop) : Prop := ∃ v l, o = some (v, l) ∧ R v l
theorem f_run {F : MF} {args : List AV} {R : RV → List (List D) → Prop} (hf : MP.fits F.mu args = true) (h : WP (exS mo cf F.body (args.map slot0 ++ List.replicate (F.nn - F.np) none)) fun f => match f with | .rt e v => ∃ l, outs e F.mu 0 = some l ∧ R v l | .nx e => ∃ l, outs e F.mu 0 = some l ∧ R (.sh .non) l | _ => False) : FP (runF mo cf F args) R := by
  obtain ⟨f, h1, h2⟩ := h
  cases f with
  | nx e =>
    obtain ⟨l, h3, h4⟩ := h2
    exact ⟨_, l, by simp only [runF, hf, h1, h3, if_true], h4⟩
  | rt e v =>
    obtain ⟨l, h3, h4⟩ := h2
    exact ⟨_, l, by simp only [runF, hf, h1, h3, if_true], h4⟩
  | bk e => exact h2.elim
  | ct e => exact h2.elim
end
end MP

set_option Elab.async false
set_option linter.all false
set_option maxRecDepth 100000
namespace MP
/-! ### the draws -/
/-- the source of draws, so many times asked at most -/
def Box (N : Nat) (ds : List D) : Prop := ∃ a b c : Int, ds = [.int a, .int b, .int c] ∧ 0 ≤ c ∧ c ≤ N
theorem Box.le {N M : Nat} {ds : List D} (h : Box N ds) (l : N ≤ M) : Box M ds := by
  obtain ⟨a, b, c, e, h1, h2⟩ := h
  exact ⟨a, b, c, e, h1, by omega⟩
end MP

set_option Elab.async false
set_option linter.all false
set_option maxRecDepth 100000
namespace MP
/-! ### ascending texts and their sets -/
theorem lt_irr : ∀ x : List Nat, ltS x x = false
  | [] => rfl
  | a :: x => by simp [ltS, lt_irr x]
theorem lt_trans : ∀ {x y z : List Nat}, ltS x y = true → ltS y z = true → ltS x z = true
  | [], [], _, h, _ => by cases h
  | [], _ :: _, [], _, h => by cases h
  | [], _ :: _, _ :: _, _, _ => rfl
  | _ :: _, [], _, h, _ => by cases h
  | _ :: _, _ :: _, [], _, h => by cases h
  | a :: x, b :: y, c :: z, h1, h2 => by
    unfold ltS at h1 h2 ⊢
    by_cases p1 : a < b
    · by_cases p2 : b < c
      · have : a < c := by omega
        simp [this]
      · by_cases p3 : c < b
        · simp [p2, p3] at h2
        · have : a < c := by omega
          simp [this]
    · by_cases p4 : b < a
      · simp [p1, p4] at h1
      · have hab : a = b := by omega
        subst hab
        by_cases p2 : a < c
        · simp [p2]
        · by_cases p3 : c < a
          · simp [p2, p3] at h2
          · simp [p2, p3] at h2
            simp at h1
            simp [p2, p3]
            exact lt_trans h1 h2
theorem lt_tri : ∀ {x y : List Nat}, ltS x y = false → ltS y x = false → x = y
  | [], [], _, _ => rfl
  | [], _ :: _, h, _ => by cases h
  | _ :: _, [], _, h => by cases h
  | a :: x, b :: y, h1, h2 => by
    unfold ltS at h1 h2
    by_cases p1 : a < b
    · simp [p1] at h1
    · by_cases p4 : b < a
      · simp [p4] at h2
      · have hab : a = b := by omega
        subst hab
        simp at h1 h2
        rw [lt_tri h1 h2]
def ascB : List (List Nat) → Bool
  | x :: y :: r => ltS x y && ascB (y :: r)
  | _ => true
def Asc (ss : List (List Nat)) : Prop := ss.Pairwise fun a b => ltS a b = true
theorem asc_iff : ∀ ss : List (List Nat), ascB ss = true ↔ Asc ss
  | [] => ⟨fun _ => .nil, fun _ => rfl⟩
  | [x] => ⟨fun _ => List.pairwise_singleton _ _, fun _ => rfl⟩
  | x :: y :: r => by
    have ih := asc_iff (y :: r)
    unfold ascB
    rw [Bool.and_eq_true]
    constructor
    · rintro ⟨h1, h2⟩
      have p := ih.mp h2
      refine List.Pairwise.cons ?_ p
      intro z hz
      rcases List.mem_cons.mp hz with rfl | hz
      · exact h1
      · exact lt_trans h1 ((List.pairwise_cons.mp p).1 z hz)
    · intro h
      obtain ⟨h1, h2⟩ := List.pairwise_cons.mp h
      exact ⟨h1 y List.mem_cons_self, ih.mpr h2⟩
def insS (x : List Nat) : List (List Nat) → List (List Nat)
  | [] => [x]
  | y :: ys => if ltS y x then y :: insS x ys else x :: y :: ys
def sortS : List (List Nat) → List (List Nat)
  | [] => []
  | x :: xs => insS x (sortS xs)
def dedS : List (List Nat) → List (List Nat)
  | [] => []
  | x :: xs => x :: (dedS xs).filter fun y => !(x == y)
theorem ins_map (x : List Nat) : ∀ ys : List (List Nat), ins (.str x) (ys.map D.str) = (insS x ys).map D.str
  | [] => rfl
  | y :: ys => by
    show (if ltS y x then D.str y :: ins (.str x) (ys.map D.str) else D.str x :: D.str y :: ys.map D.str) = _
    rw [ins_map x ys, show insS x (y :: ys) = if ltS y x then y :: insS x ys else x :: y :: ys from rfl]
    cases ltS y x <;> rfl
theorem sort_map : ∀ ys : List (List Nat), isort (ys.map D.str) = (sortS ys).map D.str
  | [] => rfl
  | y :: ys => by
    show ins (.str y) (isort (ys.map D.str)) = _
    rw [sort_map ys, ins_map]; rfl
theorem ded_map : ∀ ys : List (List Nat), dedup (ys.map D.str) = (dedS ys).map D.str
  | [] => rfl
  | y :: ys => by
    show D.str y :: (dedup (ys.map D.str)).filter (fun z => !eqD (.str y) z) = D.str y :: ((dedS ys).filter fun z => !(y == z)).map D.str
    rw [ded_map ys, List.filter_map]
    rfl
theorem allS_mapS : ∀ ys : List (List Nat), allS (ys.map D.str) = true
  | [] => rfl
  | y :: ys => allS_mapS ys
theorem eqL_map : ∀ xs ys : List (List Nat), eqL (xs.map D.str) (ys.map D.str) = (xs == ys)
  | [], [] => rfl
  | [], _ :: _ => rfl
  | _ :: _, [] => rfl
  | x :: xs, y :: ys => by
    show (eqD (.str x) (.str y) && eqL (xs.map D.str) (ys.map D.str)) = (x :: xs == y :: ys)
    rw [eqL_map xs ys]; rfl
theorem mem_ins {x z : List Nat} : ∀ {ys : List (List Nat)}, z ∈ insS x ys → z = x ∨ z ∈ ys
  | [], h => by
    rcases List.mem_cons.mp h with h | h
    · exact .inl h
    · cases h
  | y :: ys, h => by
    unfold insS at h
    split at h
    · rcases List.mem_cons.mp h with h | h
      · exact .inr (by rw [h]; exact List.mem_cons_self)
      · rcases mem_ins h with h | h
        · exact .inl h
        · exact .inr (List.mem_cons_of_mem _ h)
    · rcases List.mem_cons.mp h with h | h
      · exact .inl h
      · exact .inr h
theorem mem_sort {z : List Nat} : ∀ {ys : List (List Nat)}, z ∈ sortS ys → z ∈ ys
  | y :: ys, h => by
    rcases mem_ins h with h | h
    · rw [h]; exact List.mem_cons_self
    · exact List.mem_cons_of_mem _ (mem_sort h)
theorem asc_ins {x : List Nat} : ∀ {ys : List (List Nat)}, x ∉ ys → Asc ys → Asc (insS x ys)
  | [], _, _ => List.pairwise_singleton _ _
  | y :: ys, hx, h => by
    obtain ⟨h1, h2⟩ := List.pairwise_cons.mp h
    unfold insS
    split
    · rename_i q
      refine List.Pairwise.cons ?_ (asc_ins (fun w => hx (List.mem_cons_of_mem _ w)) h2)
      intro z hz
      rcases mem_ins hz with rfl | hz
      · exact q
      · exact h1 z hz
    · rename_i q
      have hlt : ltS x y = true := by
        cases e : ltS x y with
        | true => rfl
        | false =>
          have : x = y := lt_tri e (by simpa using q)
          exact absurd (this ▸ List.mem_cons_self) hx
      refine List.Pairwise.cons ?_ h
      intro z hz
      rcases List.mem_cons.mp hz with rfl | hz
      · exact hlt
      · exact lt_trans hlt (h1 z hz)
theorem ded_nodup : ∀ ys : List (List Nat), (dedS ys).Nodup
  | [] => List.nodup_nil
  | y :: ys => by
    refine List.nodup_cons.mpr ⟨fun h => ?_, (ded_nodup ys).filter _⟩
    have := (List.mem_filter.mp h).2
    simp at this
theorem asc_sort : ∀ {ys : List (List Nat)}, ys.Nodup → Asc (sortS ys)
  | [], _ => .nil
  | y :: ys, h => by
    obtain ⟨h1, h2⟩ := List.nodup_cons.mp h
    exact asc_ins (fun w => h1 (mem_sort w)) (asc_sort h2)
theorem sort_asc : ∀ {ys : List (List Nat)}, Asc ys → sortS ys = ys
  | [], _ => rfl
  | [y], _ => rfl
  | x :: y :: ys, h => by
    obtain ⟨h1, h2⟩ := List.pairwise_cons.mp h
    show insS x (sortS (y :: ys)) = _
    rw [sort_asc h2]
    unfold insS
    have hxy := h1 y List.mem_cons_self
    have : ltS y x = false := by
      cases e : ltS y x with
      | false => rfl
      | true =>
        have := lt_trans hxy e
        rw [lt_irr] at this
        cases this
    rw [this]; rfl
theorem ded_asc : ∀ {ys : List (List Nat)}, Asc ys → dedS ys = ys
  | [], _ => rfl
  | y :: ys, h => by
    obtain ⟨h1, h2⟩ := List.pairwise_cons.mp h
    show y :: (dedS ys).filter _ = _
    rw [ded_asc h2, List.filter_eq_self.mpr]
    intro z hz
    have := h1 z hz
    have hne : y ≠ z := fun e => by
      rw [e, lt_irr] at this
      cases this
    simpa using hne
/-- a row is its own sorted set just if it ascends -/
theorem set_asc (ss : List (List Nat)) : eqL (ss.map D.str) (isort (dedup (ss.map D.str))) = ascB ss := by
  rw [ded_map, sort_map, eqL_map]
  cases h : ascB ss with
  | true =>
    have a := (asc_iff ss).mp h
    rw [ded_asc a, sort_asc a]
    exact beq_self_eq_true _
  | false =>
    rw [beq_eq_false_iff_ne]
    intro e
    have : Asc ss := by
      rw [e]
      exact asc_sort (ded_nodup ss)
    rw [(asc_iff ss).mpr this] at h
    cases h
end MP

set_option Elab.async false
set_option linter.all false
set_option maxRecDepth 100000
/-! The draws and the law's frame, for whatever numbers the defs have. -/
namespace MP
theorem fp_eq {o : Option (RV × List (List D))} {a : RV} {b : List (List D)} (h : FP o fun v l => v = a ∧ l = b) : o = some (a, b) := by
  obtain ⟨v, l, e, rfl, rfl⟩ := h
  exact e

def FTake : MF := { np := 2, nn := 6, mu := [true, false], body :=
  (.cons (.ite (.cmp .gt (.ix (.var 0) (.k (.int 0))) (.k (.int 0))) (.cons (.asg (.nm 5) (.bin .mod (.bi .int (.cons (.ix (.var 0) (.k (.int 0))) .nil)) (.var 1)))
  (.cons (.setix 0 (.k (.int 0)) (.bin .fdiv (.ix (.var 0) (.k (.int 0))) (.var 1)))
  (.cons (.ret (.var 5))
  .nil))) .nil)
  (.cons (.setix 0 (.k (.int 2)) (.bin .add (.ix (.var 0) (.k (.int 2))) (.k (.int 1))))
  (.cons (.asg (.nm 2) (.bin .mod (.bi .int (.cons (.bin .mul (.bin .add (.ix (.var 0) (.k (.int 1))) (.bin .mul (.k (.int 48271)) (.ix (.var 0) (.k (.int 2))))) (.bin .add (.k (.int 39373)) (.ix (.var 0) (.k (.int 2))))) .nil)) (.k (.int 2147483647))))
  (.cons (.asg (.nm 3) (.bin .add (.bin .mod (.bi .int (.cons (.var 2) .nil)) (.k (.int 40009))) (.k (.int 7))))
  (.cons (.asg (.nm 4) (.bin .mod (.bi .int (.cons (.bin .mul (.bin .add (.bin .add (.var 2) (.ix (.var 0) (.k (.int 2)))) (.bin .fdiv (.ix (.var 0) (.k (.int 1))) (.k (.int 1000003)))) (.var 3)) .nil)) (.k (.int 2147483629))))
  (.cons (.ret (.bin .mod (.bi .int (.cons (.bin .fdiv (.bin .mod (.bi .int (.cons (.bin .add (.bin .mul (.var 4) (.k (.int 48271))) (.var 2)) .nil)) (.k (.int 2147483587))) (.k (.int 64))) .nil)) (.var 1)))
  .nil)))))) }
def FCells : MF := { np := 2, nn := 6, mu := [false, false], body :=
  (.cons (.asg (.nm 2) (.or (.bi .list (.cons (.sl (.var 0) .nop (.var 1)) .nil)) (.one (.lst (.cons (.k (.int 0)) .nil)))))
  (.cons (.for_ (.tp (.cons (.nm 3) (.cons (.nm 4) .nil))) (.enum (.sl (.var 0) (.var 1) (.k (.int 63)))) (.cons (.asg (.nm 5) (.bin .mod (.bi .int (.cons (.var 3) .nil)) (.var 1)))
  (.cons (.setix 2 (.var 5) (.bin .add (.ix (.var 2) (.var 5)) (.bin .mul (.var 4) (.bin .add (.var 3) (.k (.int 2))))))
  (.wipe [3, 4, 5] .nil))))
  (.cons (.ret (.var 2))
  .nil))) }
def FPick (kt : Nat) : MF := { np := 3, nn := 6, mu := [true, false, false], body :=
  (.cons (.par2 4 5 (.bi .list (.cons (.var 1) .nil)) (.lst .nil))
  (.cons (.for_ (.nm 3) (.rng1 (.bi .min (.cons (.var 2) (.cons (.bi .len (.cons (.var 4) .nil)) .nil)))) (.cons (.app 5 (.pop 4 (.call kt (.cons (.var 0) (.cons (.bi .len (.cons (.var 4) .nil)) .nil)))))
  (.wipe [3] .nil)))
  (.cons (.ret (.var 5))
  .nil))) }
def FOf (kt : Nat) : MF := { np := 2, nn := 2, mu := [true, false], body :=
  (.cons (.ret (.ix (.var 1) (.call kt (.cons (.var 0) (.cons (.bi .len (.cons (.var 1) .nil)) .nil)))))
  .nil) }
def FPlank (kp kt : Nat) : MF := { np := 3, nn := 7, mu := [true, false, false], body :=
  (.cons (.asg (.nm 3) (.bi .sorted (.cons (.call kp (.cons (.var 0) (.cons (.lst (.cons (.k (.str [97])) (.cons (.k (.str [98])) (.cons (.k (.str [99])) (.cons (.k (.str [100])) (.cons (.k (.str [101])) (.cons (.k (.str [102])) (.cons (.k (.str [120])) (.cons (.k (.str [121, 121])) (.cons (.k (.str [97, 98, 99, 100, 101, 102, 103, 104])) .nil)))))))))) (.cons (.bin .add (.k (.int 1)) (.call kt (.cons (.var 0) (.cons (.var 1) .nil)))) .nil)))) .nil)))
  (.cons (.asg (.nm 4) (.lst .nil))
  (.cons (.for_ (.nm 5) (.seq (.var 3)) (.cons (.asg (.nm 6) (.call kt (.cons (.var 0) (.cons (.var 2) .nil))))
  (.cons (.app 4 (.tup (.cons (.var 5) (.cons (.var 6) (.cons (.bin .add (.var 6) (.call kt (.cons (.var 0) (.cons (.var 2) .nil)))) .nil)))))
  (.wipe [5, 6] .nil))))
  (.cons (.ret (.bi .tuple (.cons (.var 4) .nil)))
  .nil)))) }
def FBox (c : Int) : MF := { np := 2, nn := 3, mu := [false, false], body :=
  (.cons (.asg (.nm 2) (.ite (.cmp .lt (.var 1) (.bi .len (.cons (.var 0) .nil))) (.ix (.var 0) (.var 1)) (.k (.int 0))))
  (.cons (.ret (.lst (.cons (.bin .mul (.bi .abs (.cons (.var 2) .nil)) (.bi .int (.cons (.cmp .ge (.bi .abs (.cons (.var 2) .nil)) (.bin .pow (.k (.int 10)) (.k (.int 18)))) .nil))) (.cons (.bin .add (.bin .add (.bin .mod (.bi .int (.cons (.var 2) .nil)) (.k (.int 2305843009213693951))) (.bin .mul (.k (.int 39373)) (.var 1))) (.k (.int c))) (.cons (.k (.int 0)) .nil)))))
  .nil)) }
def FLaw (kh kc kr kb : Nat) : MF := { np := 1, nn := 3, mu := [false], body :=
  (.cons (.ite (.not (.call kh .nil)) (.cons (.ret (.k (.bl false)))
  .nil) .nil)
  (.cons (.asg (.nm 1) (.call kc (.cons (.var 0) (.cons (.k (.int 3)) .nil))))
  (.cons (.ret (.bi .all (.cons (.lc (.nm 2) (.rng1 (.bi .len (.cons (.var 1) .nil))) .nop (.call kr (.cons (.call kb (.cons (.var 1) (.cons (.var 2) .nil))) .nil)) [2]) .nil)))
  .nil))) }
def Take (cf : CF) (k : Nat) : Prop := ∀ (N : Nat) (ds : List D) (t : Int), Box N ds → N ≤ 1000000000 → 0 < t → t < 1073741824 →
    ∃ (r : Int) (ds' : List D), cf k [.mu ds, .sh (.int t)] = some (.sh (.int r), [ds']) ∧ 0 ≤ r ∧ r < t ∧ Box (N + 1) ds'
def Of (cf : CF) (k : Nat) : Prop := ∀ (N : Nat) (ds xs : List D), Box N ds → N ≤ 1000000000 → xs ≠ [] → xs.length < 1073741824 →
    ∃ (x : D) (ds' : List D), cf k [.mu ds, .sh (.lst xs)] = some (.sh x, [ds']) ∧ x ∈ xs ∧ Box (N + 1) ds'
/-- so many different places of a pool -/
def Pick (cf : CF) (k : Nat) : Prop := ∀ (N : Nat) (ds pool : List D) (sz : Int), Box N ds → N ≤ 100000000 → pool.length ≤ 1000 → 0 ≤ sz →
    ∃ (out rs ds' : List D), cf k [.mu ds, .sh (.lst pool), .sh (.int sz)] = some (.own out, [ds']) ∧ (out.length : Int) = (if (pool.length : Int) < sz then (pool.length : Int) else sz) ∧ (rs ++ out).Perm pool ∧ Box (N + pool.length) ds'
theorem rngL_len : ∀ (n : Nat) (lo : Int), (rangeL lo n).length = n
  | 0, _ => rfl
  | n + 1, lo => by rw [rangeL, List.length_cons, rngL_len n]
theorem mem_rngL : ∀ {n : Nat} {lo : Int} {x : D}, x ∈ rangeL lo n → ∃ i : Nat, i < n ∧ x = .int (lo + i)
  | n + 1, lo, x, h => by
    rcases List.mem_cons.mp h with rfl | h
    · exact ⟨0, by omega, by simp⟩
    · obtain ⟨i, h1, rfl⟩ := mem_rngL h
      exact ⟨i + 1, by omega, by congr 1; omega⟩
theorem erase_perm {α : Type} : ∀ {xs : List α} {i : Nat} (h : i < xs.length), (xs[i] :: xs.eraseIdx i).Perm xs
  | x :: xs, 0, _ => List.Perm.refl _
  | x :: xs, i + 1, h => by
    have h' : i < xs.length := by rw [List.length_cons] at h; omega
    exact (List.Perm.swap x xs[i] (xs.eraseIdx i)).trans ((erase_perm h').cons x)
section
variable {mo : Nat → List Bool} {cf : CF}
section
/- goes through an expression -/
local macro_rules
  | `(tactic| trivial) => `(tactic| first
  | rfl
  | (apply q_bin <;> trivial)
  | (apply q_ix <;> trivial)
  | (apply q_bi <;> trivial)
  | (apply op_cons <;> trivial)
  | (apply o_dv <;> trivial)
  | (exact b_mod (by omega))
  | (exact b_fdiv (by omega) (by omega))
  | (exact b_mulr (by omega) (by omega))
  | (exact b_mull (by omega) (by omega)))
theorem take_g (N : Nat) (ds : List D) (t : Int) (hb : Box N ds) (hN : N ≤ 1000000000) (ht : 0 < t) (ht2 : t < 1073741824) :
    ∃ (r : Int) (ds' : List D), runF mo cf FTake [.mu ds, .sh (.int t)] = some (.sh (.int r), [ds']) ∧ 0 ≤ r ∧ r < t ∧ Box (N + 1) ds' := by
  obtain ⟨a, b, c, rfl, hc, hc2⟩ := hb
  have h : FP (runF mo cf FTake [.mu [.int a, .int b, .int c], .sh (.int t)]) fun v l => ∃ r ds', v = .sh (.int r) ∧ l = [ds'] ∧ 0 ≤ r ∧ r < t ∧ Box (N + 1) ds' := by
    refine f_run rfl ?_
    refine w_ite (t := decide (0 < a)) rfl (fun h => ?_) (fun h => ?_)
    · apply w_asg (by trivial) rfl
      apply w_setix (by trivial) rfl (by trivial) rfl rfl
      exact w_rets rfl ⟨_, rfl, a % t, _, rfl, rfl, Int.emod_nonneg _ (by omega), Int.emod_lt_of_pos _ ht, _, _, _, rfl, hc, by omega⟩
    · refine w_nil ?_
      apply w_setix (by trivial) rfl (by trivial) rfl rfl
      apply w_asg (by trivial) rfl
      apply w_asg (by trivial) rfl
      apply w_asg (by trivial) rfl
      apply w_rete (by trivial) rfl
      exact ⟨_, rfl, _, _, rfl, rfl, Int.emod_nonneg _ (by omega), Int.emod_lt_of_pos _ ht, _, _, _, rfl, by omega, by omega⟩
  obtain ⟨v, l, e, r, ds', rfl, rfl, h1⟩ := h
  exact ⟨r, ds', e, h1⟩
end
theorem of_g {kt : Nat} (ht : Take cf kt) (hm : mo kt = [true, false]) (N : Nat) (ds xs : List D) (hb : Box N ds) (hN : N ≤ 1000000000) (hx : xs ≠ []) (hl : xs.length < 1073741824) :
    ∃ (x : D) (ds' : List D), runF mo cf (FOf kt) [.mu ds, .sh (.lst xs)] = some (.sh x, [ds']) ∧ x ∈ xs ∧ Box (N + 1) ds' := by
  have hp : 0 < xs.length := by
    cases xs with
    | nil => exact absurd rfl hx
    | cons => exact Nat.zero_lt_succ _
  obtain ⟨r, ds', e, h0, h1, hb'⟩ := ht N ds xs.length hb hN (by omega) (by omega)
  have hr : r.toNat < xs.length := by omega
  have h : FP (runF mo cf (FOf kt) [.mu ds, .sh (.lst xs)]) fun v l => v = .sh xs[r.toNat] ∧ l = [ds'] := by
    refine f_run rfl ?_
    apply w_rete
    · apply q_ix
      · rfl
      · apply o_dv
        · exact q_call hm rfl rfl rfl e rfl
        · rfl
      · rfl
      · rfl
      · exact ix_lst (j := r.toNat) (by omega) (List.getElem?_eq_getElem hr)
    · rfl
    · exact ⟨_, rfl, rfl, rfl⟩
  exact ⟨_, _, fp_eq h, List.getElem_mem hr, hb'⟩
theorem pick_g {kt : Nat} (ht : Take cf kt) (hm : mo kt = [true, false]) (N : Nat) (ds pool : List D) (sz : Int) (hb : Box N ds) (hN : N ≤ 100000000) (hl : pool.length ≤ 1000) (hs : 0 ≤ sz) :
    ∃ (out rs ds' : List D), runF mo cf (FPick kt) [.mu ds, .sh (.lst pool), .sh (.int sz)] = some (.own out, [ds']) ∧ (out.length : Int) = (if (pool.length : Int) < sz then (pool.length : Int) else sz) ∧ (rs ++ out).Perm pool ∧ Box (N + pool.length) ds' := by
  have h : FP (runF mo cf (FPick kt) [.mu ds, .sh (.lst pool), .sh (.int sz)]) fun v l => ∃ out rs ds', v = .own out ∧ l = [ds'] ∧ (out.length : Int) = (if (pool.length : Int) < sz then (pool.length : Int) else sz) ∧ (rs ++ out).Perm pool ∧ Box (N + pool.length) ds' := by
    refine f_run rfl ?_
    apply w_par2 rfl rfl rfl rfl
    generalize hmm : (if (pool.length : Int) < sz then (pool.length : Int) else sz) = m
    have hm1 : 0 ≤ m := by subst hmm; split <;> omega
    have hm2 : m ≤ sz := by subst hmm; split <;> omega
    have hm3 : m ≤ pool.length := by subst hmm; split <;> omega
    refine w_loop (e1 := [some (.own true ds), some (.sh (.lst pool)), some (.sh (.int sz)), none, some (.own false pool), some (.own false [])]) (xs := rangeL 0 m.toNat) (i_rng1 ?_ (by omega) (by omega)) (fun rest e => ∃ (ds' rs ss : List D) (k : Nat), rest.length + k = m.toNat ∧ Box (N + k) ds' ∧ rs.length + k = pool.length ∧ ss.length = k ∧ (rs ++ ss).Perm pool ∧ e = [some (.own true ds'), some (.sh (.lst pool)), some (.sh (.int sz)), none, some (.own false rs), some (.own false ss)]) ?_ ?_ ?_
    · rw [← hmm]; rfl
    · exact ⟨ds, pool, [], 0, by rw [rngL_len]; rfl, hb, rfl, rfl, by rw [List.append_nil], rfl⟩
    · rintro x rest e ⟨ds', rs, ss, k, h1, h2, h3, h4, h5, rfl⟩
      rw [List.length_cons] at h1
      have hq : tgA (.nm 3) x [some (.own true ds'), some (.sh (.lst pool)), some (.sh (.int sz)), none, some (.own false rs), some (.own false ss)] = some [some (.own true ds'), some (.sh (.lst pool)), some (.sh (.int sz)), some (.sh x), some (.own false rs), some (.own false ss)] := rfl
      refine ⟨_, hq, ?_⟩
      obtain ⟨r, ds2, e, q0, q1, q2⟩ := ht (N + k) ds' rs.length h2 (by omega) (by omega) (by omega)
      have hr : r.toNat < rs.length := by omega
      apply w_app
      · rfl
      · apply q_pop
        · rfl
        · exact q_call hm rfl rfl rfl e rfl
        · rfl
        · exact pop_nat q0 (List.getElem?_eq_getElem hr)
      · rfl
      · omega
      · refine w_wipe rfl rfl (w_nil ⟨ds2, rs.eraseIdx r.toNat, ss ++ [rs[r.toNat]], k + 1, by omega, by rw [← Nat.add_assoc]; exact q2, by rw [List.length_eraseIdx_of_lt hr]; omega, by rw [List.length_append, h4]; rfl, ?_, rfl⟩)
        refine List.Perm.trans ?_ h5
        have p := erase_perm hr
        refine List.Perm.trans ?_ (List.Perm.append_right ss p)
        rw [← List.append_assoc]
        refine List.Perm.trans (List.perm_append_comm) ?_
        exact List.Perm.refl _
    · rintro e ⟨ds', rs, ss, k, h1, h2, h3, h4, h5, rfl⟩
      have h1 : 0 + k = m.toNat := h1
      refine w_retv rfl ⟨_, rfl, _, rs, _, rfl, rfl, by rw [h4]; omega, h5, h2.le (by omega)⟩
  obtain ⟨v, l, e, out, rs, ds', rfl, rfl, h1⟩ := h
  exact ⟨out, rs, ds', e, h1⟩
end
/-! ### drawn FENCEs -/
def tagsS : List (List Nat) := [[97], [98], [99], [100], [101], [102], [120], [121, 121], [97, 98, 99, 100, 101, 102, 103, 104]]
abbrev Bill := List Nat × Int × Int
def billD (p : Bill) : D := .tup [.str p.1, .int p.2.1, .int p.2.2]
def fenceD (ps : List Bill) : D := .tup (ps.map billD)
structure IsPlank (most wide : Int) (ps : List Bill) : Prop where
  ne : 0 < ps.length
  len : (ps.length : Int) ≤ most
  asc : Asc (ps.map (·.1))
  tag : ∀ p ∈ ps, p.1 ∈ tagsS
  low : ∀ p ∈ ps, 0 ≤ p.2.1 ∧ p.2.1 < wide
  hi : ∀ p ∈ ps, p.2.1 ≤ p.2.2 ∧ p.2.2 < p.2.1 + wide
def Plank (cf : CF) (k : Nat) (most wide : Int) : Prop := ∀ (N : Nat) (ds : List D), Box N ds → N ≤ 10000000 →
    ∃ (ps : List Bill) (ds' : List D), cf k [.mu ds, .sh (.int most), .sh (.int wide)] = some (.sh (fenceD ps), [ds']) ∧ IsPlank most wide ps ∧ Box (N + 100) ds'
theorem allI_none : ∀ (s : List Nat) (r : List D), allI (.str s :: r) = false := fun _ _ => rfl
theorem b_sortedS (os : List (List Nat)) : biD .sorted [.lst (os.map D.str)] = some (.own ((sortS os).map D.str)) := by
  simp only [biD, allS_mapS, if_true, sort_map]
  cases allI (os.map D.str) <;> rfl
theorem insS_len (x : List Nat) : ∀ xs : List (List Nat), (insS x xs).length = xs.length + 1
  | [] => rfl
  | y :: ys => by
    unfold insS
    split
    · rw [List.length_cons, insS_len x ys, List.length_cons]
    · rfl
theorem sortS_len : ∀ ys : List (List Nat), (sortS ys).length = ys.length
  | [] => rfl
  | y :: ys => by
    show (insS y (sortS ys)).length = _
    rw [insS_len, sortS_len ys]; rfl
theorem strs_of : ∀ {xs : List D}, (∀ x ∈ xs, ∃ s, x = .str s ∧ s ∈ tagsS) → ∃ os : List (List Nat), xs = os.map D.str ∧ ∀ s ∈ os, s ∈ tagsS
  | [], _ => ⟨[], rfl, fun _ h => nomatch h⟩
  | x :: xs, h => by
    obtain ⟨s, rfl, hs⟩ := h x List.mem_cons_self
    obtain ⟨os, rfl, ho⟩ := strs_of (xs := xs) fun y hy => h y (List.mem_cons_of_mem _ hy)
    refine ⟨s :: os, rfl, fun t ht => ?_⟩
    rcases List.mem_cons.mp ht with rfl | ht
    · exact hs
    · exact ho t ht
section
variable {mo : Nat → List Bool} {cf : CF}
theorem plank_g {kp kt : Nat} (ht : Take cf kt) (hm : mo kt = [true, false]) (hp : Pick cf kp) (hmp : mo kp = [true, false, false]) (most wide : Int) (h1 : 0 < most) (h1' : most < 1000000) (h2 : 0 < wide) (h2' : wide < 1000000) (N : Nat) (ds : List D) (hb : Box N ds) (hN : N ≤ 10000000) :
    ∃ (ps : List Bill) (ds' : List D), runF mo cf (FPlank kp kt) [.mu ds, .sh (.int most), .sh (.int wide)] = some (.sh (fenceD ps), [ds']) ∧ IsPlank most wide ps ∧ Box (N + 100) ds' := by
  have h : FP (runF mo cf (FPlank kp kt) [.mu ds, .sh (.int most), .sh (.int wide)]) fun v l => ∃ ps ds', v = .sh (fenceD ps) ∧ l = [ds'] ∧ IsPlank most wide ps ∧ Box (N + 100) ds' := by
    refine f_run rfl ?_
    obtain ⟨r, d1, e1, q0, q1, b1⟩ := ht N ds most hb (by omega) (by omega) (by omega)
    obtain ⟨out, rs, d2, e2, q2, q3, b2⟩ := hp (N + 1) d1 (tagsS.map D.str) (1 + r) b1 (by omega) (by decide) (by omega)
    have hmem : ∀ x ∈ out, ∃ s, x = .str s ∧ s ∈ tagsS := fun x hx => by
      obtain ⟨s, hs, rfl⟩ := List.mem_map.mp (q3.mem_iff.mp (List.mem_append_right rs hx))
      exact ⟨s, rfl, hs⟩
    obtain ⟨os, rfl, hos⟩ := strs_of hmem
    have hnd : os.Nodup := by
      have hn0 : (tagsS.map D.str).Nodup := by
        have : tagsS.Nodup := by decide
        exact List.pairwise_map.mpr (this.imp fun h e => h (D.str.inj e))
      have := (List.nodup_append.mp (q3.nodup_iff.mpr hn0)).2.1
      exact (List.pairwise_map.mp this).imp fun h e => h (by rw [e])
    have hl9 : os.length ≤ 9 := by
      have := q3.length_eq
      rw [List.length_append, List.length_map, List.length_map] at this
      have : rs.length + os.length = 9 := this
      omega
    rw [List.length_map] at q2
    have hl1 : 0 < os.length ∧ (os.length : Int) ≤ 1 + r := by
      rw [show ((tagsS.map D.str).length : Int) = 9 from rfl] at q2
      split at q2 <;> omega
    apply w_asg
    · apply q_bi
      · apply op_cons
        · apply o_dv
          · apply q_call hmp
            · apply a_mv rfl
              apply a_sh rfl
              apply a_sh
              · apply q_bin
                · rfl
                · apply o_dv
                  · exact q_call hm rfl rfl rfl e1 rfl
                  · rfl
                · rfl
                · rfl
                · rfl
              · rfl
            · rfl
            · rfl
            · exact e2
            · rfl
          · rfl
        · rfl
      · rfl
      · exact b_sortedS os
    · rfl
    · apply w_asg rfl rfl
      have hasc := asc_sort hnd
      generalize hso : sortS os = so at hasc
      have hsl : so.length = os.length := by rw [← hso, sortS_len]
      have hst : ∀ s ∈ so, s ∈ tagsS := fun s hs => hos s (mem_sort (by rw [hso]; exact hs))
      refine w_loop (e1 := [some (.own true d2), some (.sh (.int most)), some (.sh (.int wide)), some (.sh (.lst (so.map D.str))), some (.own false []), none, none]) (xs := so.map D.str) (i_seq rfl (.inl rfl)) (fun rest e => ∃ (ds' : List D) (ps : List Bill) (rn : List (List Nat)) (k : Nat), rest = rn.map D.str ∧ rn.length + k = so.length ∧ so = ps.map (·.1) ++ rn ∧ Box (N + 10 + 2 * k) ds' ∧ ps.length = k ∧ (∀ p ∈ ps, 0 ≤ p.2.1 ∧ p.2.1 < wide) ∧ (∀ p ∈ ps, p.2.1 ≤ p.2.2 ∧ p.2.2 < p.2.1 + wide) ∧ e = [some (.own true ds'), some (.sh (.int most)), some (.sh (.int wide)), some (.sh (.lst (so.map D.str))), some (.own false (ps.map billD)), none, none]) ?_ ?_ ?_
      · exact ⟨d2, [], so, 0, rfl, rfl, rfl, b2.le (by show N + 1 + 9 ≤ _; omega), rfl, (fun x h => nomatch h), (fun x h => nomatch h), rfl⟩
      · rintro x rest e ⟨ds', ps, rn, k, hr, g1, g2, g3, g4, g5, g6, rfl⟩
        cases rn with
        | nil => cases hr
        | cons s rn =>
        obtain ⟨rfl, rfl⟩ := List.cons.inj hr
        rw [List.length_cons] at g1
        have hq : tgA (.nm 5) (.str s) [some (.own true ds'), some (.sh (.int most)), some (.sh (.int wide)), some (.sh (.lst (so.map D.str))), some (.own false (ps.map billD)), none, none] = some [some (.own true ds'), some (.sh (.int most)), some (.sh (.int wide)), some (.sh (.lst (so.map D.str))), some (.own false (ps.map billD)), some (.sh (.str s)), none] := rfl
        refine ⟨_, hq, ?_⟩
        obtain ⟨r1, d3, e3, q4, q5, b3⟩ := ht (N + 10 + 2 * k) ds' wide g3 (by omega) (by omega) (by omega)
        obtain ⟨r2, d4, e4, q6, q7, b4⟩ := ht _ d3 wide b3 (by omega) (by omega) (by omega)
        apply w_asg (e2 := [some (.own true d3), some (.sh (.int most)), some (.sh (.int wide)), some (.sh (.lst (so.map D.str))), some (.own false (ps.map billD)), some (.sh (.str s)), some (.sh (.int r1))])
        · exact q_call hm rfl rfl rfl e3 rfl
        · rfl
        · apply w_app
          · rfl
          · apply q_tup
            · apply l_cons rfl
              apply l_cons rfl
              apply l_cons
              · apply q_bin
                · rfl
                · apply o_dv
                  · exact q_call hm rfl rfl rfl e4 rfl
                  · rfl
                · rfl
                · rfl
                · rfl
              · rfl
            · rfl
          · rfl
          · rw [List.length_map]; omega
          · refine w_wipe rfl rfl (w_nil ⟨d4, ps ++ [(s, r1, r1 + r2)], rn, k + 1, rfl, by omega, by rw [g2, List.map_append, List.append_assoc]; rfl, b4.le (by omega), by rw [List.length_append, g4]; rfl, fun y hy => ?_, fun y hy => ?_, by rw [List.map_append]; rfl⟩)
            · rcases List.mem_append.mp hy with hy | hy
              · exact g5 y hy
              · rw [List.mem_singleton.mp hy]
                exact ⟨q4, q5⟩
            · rcases List.mem_append.mp hy with hy | hy
              · exact g6 y hy
              · rw [List.mem_singleton.mp hy]
                exact ⟨show r1 ≤ r1 + r2 by omega, show r1 + r2 < r1 + wide by omega⟩
      · rintro e ⟨ds', ps, rn, k, hr, g1, g2, g3, g4, g5, g6, rfl⟩
        cases rn with
        | cons _ _ => cases hr
        | nil =>
        rw [List.append_nil] at g2
        apply w_rete
        · apply q_bi
          · rfl
          · rfl
          · rfl
        · rfl
        · refine ⟨_, rfl, ps, ds', rfl, rfl, ⟨?_, ?_, by rw [← g2]; exact hasc, fun p hp => hst _ (by rw [g2]; exact List.mem_map_of_mem hp), g5, g6⟩, g3.le ?_⟩
          · have : ps.length = so.length := by rw [g2, List.length_map]
            omega
          · have : ps.length = so.length := by rw [g2, List.length_map]
            omega
          · have : ps.length = so.length := by rw [g2, List.length_map]
            omega
  obtain ⟨v, l, e, ps, ds', rfl, rfl, h1⟩ := h
  exact ⟨ps, ds', e, h1⟩
end
end MP

set_option Elab.async false
set_option linter.all false
set_option maxRecDepth 100000
namespace MP
section
variable {mo : Nat → List Bool} {cf : CF}
/-- a comprehension whose first turn may freeze a name -/
theorem turns_fix {body : D → En → Option (En × List D)} {env env1 : En} {g : D → D} : ∀ {xs : List D}, (∀ x ∈ xs, body x env = some (env1, [g x]) ∧ body x env1 = some (env1, [g x])) → ∃ e, turns body xs env = some (e, xs.map g) ∧ (e = env ∨ e = env1)
  | [], _ => ⟨env, rfl, .inl rfl⟩
  | x :: xs, h => by
    have h1 := (h x List.mem_cons_self).1
    have h2 : turns body xs env1 = some (env1, xs.map g) := turns_map fun y hy => (h y (List.mem_cons_of_mem _ hy)).2
    exact ⟨env1, by simp only [turns, h1, h2, List.map_cons, List.cons_append, List.nil_append], .inr rfl⟩
theorem q_lcx {t : Tg} {it e : ME} {vs : List Nat} {env e1 w1 : En} {xs : List D} {g : D → D} (h1 : evI mo cf it env = some (e1, xs)) (w : wipeOk e1 vs = true)
    (hb : ∀ x ∈ xs, (∃ en1 en3 r, tgA t x (wipeE (wipeE e1 vs) vs) = some en1 ∧ evR mo cf e en1 = some (en3, r) ∧ wipeE en3 vs = w1 ∧ r.fz = g x) ∧ (∃ en1 en3 r, tgA t x (wipeE w1 vs) = some en1 ∧ evR mo cf e en1 = some (en3, r) ∧ wipeE en3 vs = w1 ∧ r.fz = g x)) (l : xs.length ≤ 1000000) :
    ∃ e', evR mo cf (.lc t it .nop e vs) env = some (unwipe e1 e' vs, .own (xs.map g)) ∧ (e' = wipeE e1 vs ∨ e' = w1) := by
  have := turns_fix (body := fun x en => match tgA t x (wipeE en vs) with
            | some en1 => match tst ME.nop (evR mo cf ME.nop en1) en1 with
              | some (en2, true) => match evR mo cf e en2 with
                | some (en3, r) => some (wipeE en3 vs, [r.fz])
                | none => none
              | some (en2, false) => some (wipeE en2 vs, [])
              | none => none
            | none => none) (env := wipeE e1 vs) (env1 := w1) (g := g) (xs := xs) (fun x hx => by
    obtain ⟨⟨en1, en3, r, h1, h2, h3, h4⟩, ⟨em1, em3, s, k1, k2, k3, k4⟩⟩ := hb x hx
    exact ⟨by simp only [h1, tst, h2, h3, h4], by simp only [k1, tst, k2, k3, k4]⟩)
  obtain ⟨e', h2, h3⟩ := this
  refine ⟨e', ?_, h3⟩
  rw [evR.eq_def]
  simp only [h1, w, if_true]
  refine Eq.trans (b := (match (some (e', xs.map g) : Option (En × List D)) with
    | some (e2, ds) => if lenOk ds.length = true then some (unwipe e1 e2 vs, RV.own ds) else none
    | none => none)) ?_ ?_
  · rw [← h2] <;> rfl
  · simp only [lenOk, List.length_map, l, decide_true, if_true]
end
theorem cut_le {α : Type} (xs : List α) (lo hi : Option Int) : (cut xs lo hi).length ≤ xs.length := by
  unfold cut
  rw [List.length_take, List.length_drop]
  omega
/-- the script's numbers -/
def intsD (ks : List Int) : List D := ks.map D.int
theorem enumL_mem : ∀ {xs : List D} {i : Nat} {x : D}, x ∈ enumL i xs → ∃ j v, j < i + xs.length ∧ v ∈ xs ∧ x = .duo [.int (j : Nat), v]
  | y :: ys, i, x, h => by
    rcases List.mem_cons.mp h with rfl | h
    · exact ⟨i, y, by rw [List.length_cons]; omega, List.mem_cons_self, rfl⟩
    · obtain ⟨j, v, h1, h2, rfl⟩ := enumL_mem h
      exact ⟨j, v, by rw [List.length_cons]; omega, List.mem_cons_of_mem _ h2, rfl⟩
theorem mem_cut {α : Type} {xs : List α} {lo hi : Option Int} {x : α} (h : x ∈ cut xs lo hi) : x ∈ xs := List.mem_of_mem_drop (List.mem_of_mem_take h)
theorem cut_pre {α : Type} (xs : List α) (n : Nat) : cut xs none (some n) = xs.take n := by
  have e : bnd xs.length xs.length (some (n : Int)) = min n xs.length := by
    show (if (n : Int) < 0 then ((n : Int) + (xs.length : Int)).toNat else min (Int.toNat n) xs.length) = _
    rw [if_neg (by omega)]; rfl
  show List.take (bnd xs.length xs.length (some (n : Int)) - 0) (xs.drop 0) = _
  rw [e, List.drop_zero, Nat.sub_zero]
  rcases Nat.le_total n xs.length with h | h
  · rw [Nat.min_eq_left h]
  · rw [Nat.min_eq_right h, List.take_length, List.take_of_length_le h]
theorem cut_mid {α : Type} (xs : List α) (n m : Nat) (h : xs.length ≤ n) : cut xs (some n) (some m) = [] := by
  have e : bnd xs.length 0 (some (n : Int)) = min n xs.length := by
    show (if (n : Int) < 0 then ((n : Int) + (xs.length : Int)).toNat else min (Int.toNat n) xs.length) = _
    rw [if_neg (by omega)]; rfl
  show List.take _ (xs.drop (bnd xs.length 0 (some (n : Int)))) = _
  rw [e, Nat.min_eq_right h, List.drop_length, List.take_nil]
theorem isInt_all {xs : List D} (h : ∀ x ∈ xs, ∃ i, x = D.int i) : ∃ ks : List Int, xs = intsD ks := by
  induction xs with
  | nil => exact ⟨[], rfl⟩
  | cons x xs ih =>
    obtain ⟨i, rfl⟩ := h x List.mem_cons_self
    obtain ⟨ks, rfl⟩ := ih fun y hy => h y (List.mem_cons_of_mem _ hy)
    exact ⟨i :: ks, rfl⟩
theorem intsD_mem {ks : List Int} {x : D} (h : x ∈ intsD ks) : ∃ i, x = D.int i := by
  obtain ⟨i, _, rfl⟩ := List.mem_map.mp h
  exact ⟨i, rfl⟩
def Cells (cf : CF) (k : Nat) : Prop := ∀ ks : List Int, ks.length ≤ 63 → ∃ cs : List Int, cf k [.sh (.scr (intsD ks)), .sh (.int 3)] = some (.own (intsD cs), []) ∧ 1 ≤ cs.length ∧ cs.length ≤ 3
def BoxF (cf : CF) (k : Nat) : Prop := ∀ (cs : List Int) (i : Nat), i < cs.length → cs.length ≤ 3 → ∃ ds, cf k [.sh (.lst (intsD cs)), .sh (.int i)] = some (.own ds, []) ∧ Box 0 ds
end MP
namespace MP
section
variable {mo : Nat → List Bool} {cf : CF}
theorem box_g (c : Int) (cs : List Int) (i : Nat) (hi : i < cs.length) (hl : cs.length ≤ 3) : ∃ ds, runF mo cf (FBox c) [.sh (.lst (intsD cs)), .sh (.int i)] = some (.own ds, []) ∧ Box 0 ds := by
  have h : FP (runF mo cf (FBox c) [.sh (.lst (intsD cs)), .sh (.int i)]) fun v l => ∃ ds, v = .own ds ∧ l = [] ∧ Box 0 ds := by
    refine f_run rfl ?_
    have hg : (intsD cs)[i]? = some (.int cs[i]) := by
      unfold intsD
      rw [List.getElem?_map, List.getElem?_eq_getElem hi]; rfl
    apply w_asg
    · refine q_ite_t (t := decide ((i : Int) < ((intsD cs).length : Int))) rfl ?_ (q_ix rfl rfl rfl rfl (ix_lst (j := i) rfl hg))
      rw [decide_eq_true_eq]
      unfold intsD
      rw [List.length_map]
      omega
    · rfl
    generalize cs[i] = x
    have hbit : ∀ b : Bool, -(2 ^ 64) < (if b = true then (1 : Int) else 0) ∧ (if b = true then (1 : Int) else 0) < 2 ^ 64 := by decide
    apply w_rete
    · apply q_lst
      · apply l_cons
        · apply q_bin
          · rfl
          · rfl
          · rfl
          · rfl
          · refine b_mulr ?_ ?_
            · exact (hbit _).1
            · exact (hbit _).2
        · apply l_cons
          · apply q_bin
            · apply o_dv
              · apply q_bin
                · apply o_dv
                  · exact q_bin (x := .int x) rfl rfl rfl rfl (b_mod (by omega))
                  · rfl
                · apply o_dv
                  · exact q_bin (y := .int i) rfl rfl rfl rfl (b_mull (by omega) (by omega))
                  · rfl
                · rfl
                · rfl
                · rfl
              · rfl
            · rfl
            · rfl
            · rfl
            · rfl
          · rfl
      · rfl
    · rfl
    · exact ⟨_, rfl, _, rfl, rfl, _, _, _, rfl, by omega, by omega⟩
  obtain ⟨v, l, e, ds, rfl, rfl, h1⟩ := h
  exact ⟨ds, e, h1⟩
theorem cells_g (ks : List Int) (hk : ks.length ≤ 63) : ∃ cs : List Int, runF mo cf FCells [.sh (.scr (intsD ks)), .sh (.int 3)] = some (.own (intsD cs), []) ∧ 1 ≤ cs.length ∧ cs.length ≤ 3 := by
  have hkl : (intsD ks).length = ks.length := List.length_map ..
  have h : FP (runF mo cf FCells [.sh (.scr (intsD ks)), .sh (.int 3)]) fun v l => ∃ cs : List Int, v = .own (intsD cs) ∧ l = [] ∧ 1 ≤ cs.length ∧ cs.length ≤ 3 := by
    refine f_run rfl ?_
    have h1 : ∃ cs : List Int, evR mo cf (.or (.bi .list (.cons (.sl (.var 0) .nop (.var 1)) .nil)) (.one (.lst (.cons (.k (.int 0)) .nil)))) [some (.sh (.scr (intsD ks))), some (.sh (.int 3)), none, none, none, none] = some ([some (.sh (.scr (intsD ks))), some (.sh (.int 3)), none, none, none, none], .own (intsD cs)) ∧ 1 ≤ cs.length ∧ cs.length ≤ 3 ∧ (3 ≤ ks.length → cs.length = 3) := by
      have e : cut (intsD ks) none (some 3) = intsD (ks.take 3) := by
        unfold intsD
        rw [show (some (3 : Int)) = some ((3 : Nat) : Int) from rfl, cut_pre, List.map_take]
      cases ks with
      | nil => exact ⟨[0], q_or_f (r := .own []) rfl rfl rfl, by decide, by decide, fun h => by simp at h⟩
      | cons a r =>
        refine ⟨(a :: r).take 3, q_or_t ?_ ?_, ?_, ?_, ?_⟩
        · rw [← e]; rfl
        · rfl
        · rw [List.length_take, List.length_cons]; omega
        · rw [List.length_take]; omega
        · intro h; rw [List.length_take]; omega
    obtain ⟨cs, e1, l1, l2, l3⟩ := h1
    apply w_asg
    · exact e1
    · rfl
    refine w_loop (e1 := [some (.sh (.scr (intsD ks))), some (.sh (.int 3)), some (.own false (intsD cs)), none, none, none]) (xs := enumL 0 (cut (intsD ks) (some 3) (some 63))) (i_enum rfl rfl) (fun rest e => ∃ (cs : List Int), 1 ≤ cs.length ∧ cs.length ≤ 3 ∧ (rest ≠ [] → cs.length = 3) ∧ (∀ x ∈ rest, ∃ (j : Nat) (v : Int), j < 100 ∧ x = .duo [.int j, .int v]) ∧ e = [some (.sh (.scr (intsD ks))), some (.sh (.int 3)), some (.own false (intsD cs)), none, none, none]) ?_ ?_ ?_
    · refine ⟨cs, l1, l2, fun h => l3 ?_, fun x hx => ?_, rfl⟩
      · rcases Nat.lt_or_ge ks.length 3 with q | q
        · exfalso
          apply h
          rw [show (some (3 : Int)) = some ((3 : Nat) : Int) from rfl, show (some (63 : Int)) = some ((63 : Nat) : Int) from rfl, cut_mid _ _ _ (by omega)]
          rfl
        · exact q
      · obtain ⟨j, v, h1, h2, rfl⟩ := enumL_mem hx
        obtain ⟨i, rfl⟩ := intsD_mem (mem_cut h2)
        have := cut_le (intsD ks) (some 3) (some 63)
        exact ⟨j, i, by omega, rfl⟩
    · rintro x rest e ⟨cs, l1, l2, l3, hx, rfl⟩
      have l4 := l3 (by intro h; cases h)
      obtain ⟨j, v, hj, rfl⟩ := hx x List.mem_cons_self
      have hq : tgA (.tp (.cons (.nm 3) (.cons (.nm 4) .nil))) (.duo [.int (j : Int), .int v]) [some (.sh (.scr (intsD ks))), some (.sh (.int 3)), some (.own false (intsD cs)), none, none, none] = some [some (.sh (.scr (intsD ks))), some (.sh (.int 3)), some (.own false (intsD cs)), some (.sh (.int j)), some (.sh (.int v)), none] := rfl
      refine ⟨_, hq, ?_⟩
      apply w_asg (e2 := [some (.sh (.scr (intsD ks))), some (.sh (.int 3)), some (.own false (intsD cs)), some (.sh (.int j)), some (.sh (.int v)), some (.sh (.int ((j : Int) % 3)))])
      · exact q_bin (x := .int j) rfl rfl rfl rfl (b_mod (by omega))
      · rfl
      have hm : 0 ≤ (j : Int) % 3 ∧ (j : Int) % 3 < 3 := by omega
      have hg : (intsD cs)[((j : Int) % 3).toNat]? = some (.int cs[((j : Int) % 3).toNat]) := by
        unfold intsD
        rw [List.getElem?_map, List.getElem?_eq_getElem (by omega)]; rfl
      apply w_setix
      · exact q_bin (o_dv (q_ix rfl rfl rfl rfl (ix_lst (j := ((j : Int) % 3).toNat) (by omega) hg)) rfl) (o_dv (q_bin (x := .int v) (y := .int ((j : Int) + 2)) rfl rfl rfl rfl (b_mulr (by omega) (by omega))) rfl) rfl rfl rfl
      · rfl
      · rfl
      · rfl
      · refine set_nat hm.1 ?_
        unfold intsD
        rw [List.length_map]; omega
      refine w_wipe rfl rfl (w_nil ⟨cs.set ((j : Int) % 3).toNat (cs[((j : Int) % 3).toNat] + v * ((j : Int) + 2)), by rw [List.length_set]; exact l1, by rw [List.length_set]; exact l2, fun _ => by rw [List.length_set]; exact l4, fun y hy => hx y (List.mem_cons_of_mem _ hy), ?_⟩)
      unfold intsD
      rw [List.map_set]
      rfl
    · rintro e ⟨cs, l1, l2, l3, hx, rfl⟩
      exact w_retv rfl ⟨_, rfl, cs, rfl, rfl, l1, l2⟩
  obtain ⟨v, l, e, cs, rfl, rfl, h1⟩ := h
  exact ⟨cs, e, h1⟩

theorem allB_bl (p : D → Bool) : ∀ xs : List D, allB (xs.map fun x => D.bl (p x)) = true
  | [] => rfl
  | x :: xs => allB_bl p xs
theorem all_bl (p : D → Bool) : ∀ xs : List D, (xs.map fun x => D.bl (p x)).all isB = xs.all p
  | [] => rfl
  | x :: xs => by
    rw [List.map_cons, List.all_cons, List.all_cons, all_bl p xs]
    congr 1
    show isB (.bl (p x)) = p x
    cases p x <;> rfl
theorem b_all {xs : List D} (h : allB xs = true) : biD .all [.lst xs] = some (.sh (.bl (xs.all isB))) := by simp only [biD, h, if_true]
def Right (cf : CF) (k : Nat) : Prop := ∀ (ds : List D), Box 0 ds → ∃ ds' : List D, cf k [.mu ds] = some (.sh (.bl true), [ds'])
def isTrue : Option (RV × List (List D)) → Bool
  | some (.sh (.bl true), []) => true
  | _ => false
theorem isTrue_eq {o : Option (RV × List (List D))} (h : isTrue o = true) : o = some (.sh (.bl true), []) := by
  unfold isTrue at h
  split at h
  · rfl
  · cases h
theorem law_g {kh kc kr kb : Nat} (hmh : mo kh = []) (hmc : mo kc = [false, false]) (hmr : mo kr = [true]) (hmb : mo kb = [false, false]) (hh : cf kh [] = some (.sh (.bl true), [])) (hc : Cells cf kc) (hbx : BoxF cf kb) (hr : Right cf kr) (ks : List Int) (hk : ks.length ≤ 63) : runF mo cf (FLaw kh kc kr kb) [.sh (.scr (intsD ks))] = some (.sh (.bl true), []) := by
  refine fp_eq ?_
  refine f_run rfl ?_
  refine w_ite (t := false) (e1 := [some (.sh (.scr (intsD ks))), none, none]) (t_dv (q_not (o_dv (q_call hmh rfl rfl rfl hh rfl) rfl) rfl) rfl rfl) (fun h => by cases h) (fun _ => w_nil ?_)
  obtain ⟨cs, e1, l1, l2⟩ := hc ks hk
  apply w_asg
  · exact q_call hmc rfl rfl rfl e1 rfl
  · rfl
  have hl : (intsD cs).length = cs.length := List.length_map ..
  have := q_lcx (mo := mo) (cf := cf) (t := .nm 2) (it := .rng1 (.bi .len (.cons (.var 1) .nil))) (e := .call kr (.cons (.call kb (.cons (.var 1) (.cons (.var 2) .nil))) .nil)) (vs := [2]) (env := [some (.sh (.scr (intsD ks))), some (.own false (intsD cs)), none]) (e1 := [some (.sh (.scr (intsD ks))), some (.own false (intsD cs)), none]) (w1 := [some (.sh (.scr (intsD ks))), some (.sh (.lst (intsD cs))), none]) (xs := rangeL 0 cs.length) (g := fun _ => .bl true)
    (by
      have := i_rng1 (mo := mo) (cf := cf) (a := .bi .len (.cons (.var 1) .nil)) (env := [some (.sh (.scr (intsD ks))), some (.own false (intsD cs)), none]) (e1 := [some (.sh (.scr (intsD ks))), some (.own false (intsD cs)), none]) (j := cs.length) (by rw [← hl]; rfl) (by omega) (by omega)
      rw [Int.toNat_natCast] at this
      exact this) rfl
    (fun x hx => by
      obtain ⟨i, hi, rfl⟩ := mem_rngL hx
      rw [Int.zero_add]
      obtain ⟨ds, e2, hb⟩ := hbx cs i hi l2
      obtain ⟨ds', e3⟩ := hr ds hb
      exact ⟨⟨_, _, _, rfl, q_call hmr (a_tm rfl (q_call hmb rfl rfl rfl e2 rfl) rfl) rfl rfl e3 rfl, rfl, rfl⟩, ⟨_, _, _, rfl, q_call hmr (a_tm rfl (q_call hmb rfl rfl rfl e2 rfl) rfl) rfl rfl e3 rfl, rfl, rfl⟩⟩)
    (by rw [rngL_len]; omega)
  obtain ⟨e', h1, _⟩ := this
  apply w_rete
  · refine q_bi (op_cons (o_dv h1 rfl) rfl) rfl (b_all (allB_bl (fun _ => true) _))
  · rfl
  · refine ⟨_, rfl, ?_, rfl⟩
    rw [all_bl (fun _ => true)]
    rw [List.all_eq_true.mpr fun _ _ => rfl]
end
end MP

set_option Elab.async false
set_option linter.all false
set_option maxRecDepth 100000
/-! What many texts have in common: rows as tuples or lists, equal things, FENCEs, NAMEs. -/
namespace MP
/-- a row: a tuple or a list -/
def sq : Bool → List D → D
  | true, xs => .tup xs
  | false, xs => .lst xs
section
variable {mo : Nat → List Bool} {cf : CF}
theorem seq_sq {i : Nat} {env : En} {t : Bool} {xs : List D} (h : env[i]? = some (some (.sh (sq t xs)))) : evI mo cf (.seq (.var i)) env = some (env, xs) := by
  refine i_seq (r := .sh (sq t xs)) ?_ ?_
  · simp only [evR, h]
  · cases t
    · exact .inl rfl
    · exact .inr (.inl rfl)
/-! ### comprehensions over what stands for a row of things -/
theorem turns_flatA {α : Type} {body : D → En → Option (En × List D)} {env : En} {f : α → D} {ff : α → List D} : ∀ {as : List α}, (∀ a ∈ as, body (f a) env = some (env, ff a)) → turns body (as.map f) env = some (env, as.flatMap ff)
  | [], _ => rfl
  | a :: as, h => by
    have h1 := h a List.mem_cons_self
    have h2 := turns_flatA (as := as) fun y hy => h y (List.mem_cons_of_mem _ hy)
    simp only [List.map_cons, turns, h1, h2, List.flatMap_cons]
theorem flat_filter {α : Type} (p : α → Bool) (g : α → D) : ∀ as : List α, (as.flatMap fun a => if p a then [g a] else []) = (as.filter p).map g
  | [] => rfl
  | a :: as => by
    rw [List.flatMap_cons, flat_filter p g as, List.filter_cons]
    cases p a <;> rfl
theorem flat_one {α : Type} (g : α → D) : ∀ as : List α, (as.flatMap fun a => [g a]) = as.map g
  | [] => rfl
  | a :: as => by rw [List.flatMap_cons, flat_one g as]; rfl
theorem q_lcA {α : Type} {t : Tg} {it c e : ME} {vs : List Nat} {env e1 : En} {as : List α} {f g : α → D} {p : α → Bool} (h1 : evI mo cf it env = some (e1, as.map f)) (w : wipeOk e1 vs = true)
    (hb : ∀ a ∈ as, ∃ en1 en2, tgA t (f a) (wipeE (wipeE e1 vs) vs) = some en1 ∧ tst c (evR mo cf c en1) en1 = some (en2, p a) ∧ wipeE en2 vs = wipeE e1 vs ∧ (p a = true → ∃ en3 r, evR mo cf e en2 = some (en3, r) ∧ wipeE en3 vs = wipeE e1 vs ∧ r.fz = g a)) (l : as.length ≤ 1000000) :
    evR mo cf (.lc t it c e vs) env = some (unwipe e1 (wipeE e1 vs) vs, .own ((as.filter p).map g)) := by
  have hl : ((as.filter p).map g).length ≤ 1000000 := by
    rw [List.length_map]
    exact Nat.le_trans (List.length_filter_le _ _) l
  rw [evR.eq_def]
  simp only [h1, w, if_true]
  rw [turns_flatA (ff := fun a => if p a then [g a] else []), flat_filter]
  · simp only [lenOk, hl, decide_true, if_true]
  · intro x hx
    obtain ⟨en1, en2, h1, h2, h3, h4⟩ := hb x hx
    simp only [h1, h2]
    cases hp : p x
    · simp [h3]
    · obtain ⟨en3, r, h5, h6, h7⟩ := h4 hp
      simp [h5, h6, h7]
theorem q_lcM {α : Type} {t : Tg} {it e : ME} {vs : List Nat} {env e1 : En} {as : List α} {f g : α → D} (h1 : evI mo cf it env = some (e1, as.map f)) (w : wipeOk e1 vs = true)
    (hb : ∀ a ∈ as, ∃ en1 en3 r, tgA t (f a) (wipeE (wipeE e1 vs) vs) = some en1 ∧ evR mo cf e en1 = some (en3, r) ∧ wipeE en3 vs = wipeE e1 vs ∧ r.fz = g a) (l : as.length ≤ 1000000) :
    evR mo cf (.lc t it .nop e vs) env = some (unwipe e1 (wipeE e1 vs) vs, .own (as.map g)) := by
  rw [evR.eq_def]
  simp only [h1, w, if_true]
  rw [turns_flatA (ff := fun a => [g a]), flat_one]
  · simp only [lenOk, List.length_map, l, decide_true, if_true]
  · intro x hx
    obtain ⟨en1, en3, r, h1, h2, h3, h4⟩ := hb x hx
    simp only [h1, tst, h2, h3, h4]
/-! ### equal things are the same -/
def pl : Nat → D → Bool
  | _, .non => true
  | _, .bl _ => true
  | _, .int _ => true
  | _, .str _ => true
  | k + 1, .lst xs => decide (xs.length ≤ 1000000) && xs.all (pl k)
  | k + 1, .tup xs => decide (xs.length ≤ 1000000) && xs.all (pl k)
  | _, _ => false
theorem zip_self : ∀ {xs : List D} {x : D}, x ∈ zipL xs xs → ∃ y ∈ xs, x = .duo [y, y]
  | y :: ys, x, h => by
    rcases List.mem_cons.mp h with rfl | h
    · exact ⟨y, List.mem_cons_self, rfl⟩
    · obtain ⟨z, h1, h2⟩ := zip_self h
      exact ⟨z, List.mem_cons_of_mem _ h1, h2⟩
theorem zip_len : ∀ xs : List D, (zipL xs xs).length = xs.length
  | [] => rfl
  | x :: xs => by
    show (zipL xs xs).length + 1 = _
    rw [zip_len xs]; rfl
def FSame (k : Nat) : MF := { np := 2, nn := 5, mu := [false, false], body :=
  (.cons (.ite (.isi (.var 1) [.list, .tuple] false) (.cons (.ite (.or (.cmp .ne (.isi (.var 0) [.list] true) (.isi (.var 1) [.list] true)) (.one (.cmp .ne (.isi (.var 0) [.tuple] true) (.isi (.var 1) [.tuple] true)))) (.cons (.ret (.k (.bl false)))
  .nil) .nil)
  (.cons (.ret (.and (.cmp .eq (.bi .len (.cons (.var 0) .nil)) (.bi .len (.cons (.var 1) .nil))) (.one (.bi .all (.cons (.lc (.tp (.cons (.nm 3) (.cons (.nm 4) .nil))) (.zip (.var 0) (.var 1)) .nop (.call k (.cons (.var 3) (.cons (.var 4) .nil))) [3, 4]) .nil)))))
  .nil)) .nil)
  (.cons (.ite (.isi (.var 1) [.dict] true) (.cons (.ite (.or (.not (.isi (.var 0) [.dict] true)) (.one (.cmp .ne (.bi .sorted (.cons (.var 0) .nil)) (.bi .sorted (.cons (.var 1) .nil))))) (.cons (.ret (.k (.bl false)))
  .nil) .nil)
  (.cons (.ret (.bi .all (.cons (.lc (.nm 2) (.seq (.var 1)) .nop (.call k (.cons (.ix (.var 0) (.var 2)) (.cons (.ix (.var 1) (.var 2)) .nil))) [2]) .nil)))
  .nil)) .nil)
  (.cons (.ite (.or (.cmp .is (.var 1) (.k .non)) (.one (.isi (.var 1) [.bool, .str] false))) (.cons (.ret (.and (.cmp .eq (.var 0) (.var 1)) (.and (.cmp .eq (.isi (.var 0) [.bool] true) (.isi (.var 1) [.bool] true)) (.one (.cmp .eq (.cmp .is (.var 0) (.k .non)) (.cmp .is (.var 1) (.k .non)))))))
  .nil) .nil)
  (.cons (.ret (.and (.isi (.var 0) [.int] true) (.and (.not (.isi (.var 0) [.bool] true)) (.one (.cmp .eq (.var 0) (.var 1))))))
  .nil)))) }
theorem same_scal {k : Nat} (d : D) (h : match d with | .non => True | .bl _ => True | .int _ => True | .str _ => True | _ => False) : runF mo cf (FSame k) [.sh d, .sh d] = some (.sh (.bl true), []) := by
  cases d with
  | non => rfl
  | bl b => cases b <;> rfl
  | int i =>
    show some (RV.sh (.bl (i == i)), []) = _
    rw [beq_self_eq_true]
  | str s =>
    refine fp_eq ?_
    refine f_run rfl ?_
    refine w_ite (t := false) rfl (fun h => by cases h) fun _ => w_nil ?_
    refine w_ite (t := false) rfl (fun h => by cases h) fun _ => w_nil ?_
    refine w_ite (t := true) rfl (fun _ => ?_) (fun h => by cases h)
    refine w_rete (v := .sh (.bl true)) (q_and_t (r := .sh (.bl (s == s))) rfl ?_ rfl) rfl ⟨_, rfl, rfl, rfl⟩
    exact beq_self_eq_true _
  | _ => exact h.elim
theorem same_seq {k : Nat} (hm : mo k = [false, false]) (t : Bool) (xs : List D) (hl : xs.length ≤ 1000000) (hx : ∀ x ∈ xs, cf k [.sh x, .sh x] = some (.sh (.bl true), [])) : runF mo cf (FSame k) [.sh (sq t xs), .sh (sq t xs)] = some (.sh (.bl true), []) := by
  refine fp_eq ?_
  refine f_run rfl ?_
  have e1 : (((xs.length : Nat) : Int) == ((xs.length : Nat) : Int)) = true := beq_self_eq_true _
  have hlc : ∀ e1 : En, e1 = [some (.sh (sq t xs)), some (.sh (sq t xs)), none, none, none] → evR mo cf (.lc (.tp (.cons (.nm 3) (.cons (.nm 4) .nil))) (.zip (.var 0) (.var 1)) .nop (.call k (.cons (.var 3) (.cons (.var 4) .nil))) [3, 4]) e1 = some (e1, .own ((zipL xs xs).map fun _ => D.bl true)) := by
    rintro _ rfl
    refine q_lc (g := fun _ => D.bl true) (env := [some (.sh (sq t xs)), some (.sh (sq t xs)), none, none, none]) (e1 := [some (.sh (sq t xs)), some (.sh (sq t xs)), none, none, none]) (i_zip rfl rfl (by cases t <;> rfl) (by cases t <;> rfl)) rfl ?_ ?_
    · intro x hm'
      obtain ⟨y, hy, rfl⟩ := zip_self hm'
      exact ⟨_, _, _, rfl, q_call hm rfl rfl rfl (hx y hy) rfl, rfl, rfl⟩
    · rw [zip_len]; exact hl
  refine w_ite (t := true) (e1 := [some (.sh (sq t xs)), some (.sh (sq t xs)), none, none, none]) ?_ (fun _ => ?_) (fun h => by cases h)
  · cases t <;> rfl
  refine w_ite (t := false) (e1 := [some (.sh (sq t xs)), some (.sh (sq t xs)), none, none, none]) ?_ (fun h => by cases h) fun _ => w_nil ?_
  · cases t <;> rfl
  apply w_rete
  · refine q_and_t (r := .sh (.bl true)) ?_ rfl (q_one (q_bi (op_cons (o_dv (hlc _ rfl) rfl) rfl) rfl (b_all (allB_bl (fun _ => true) _))))
    cases t
    · show some (_, RV.sh (.bl (((xs.length : Nat) : Int) == ((xs.length : Nat) : Int)))) = _
      rw [e1]
    · show some (_, RV.sh (.bl (((xs.length : Nat) : Int) == ((xs.length : Nat) : Int)))) = _
      rw [e1]
  · rfl
  · refine ⟨_, rfl, ?_, rfl⟩
    rw [all_bl (fun _ => true), List.all_eq_true.mpr fun _ _ => rfl]
theorem same_g {T : List MF} {k : Nat} (hc : ∀ n a, callI T (n + 1) k a = runF (moT T) (callI T n) (FSame k) a) (hm : moT T k = [false, false]) : ∀ (j n : Nat) (d : D), pl j d = true → callI T (n + j + 1) k [.sh d, .sh d] = some (.sh (.bl true), []) := by
  intro j
  induction j with
  | zero =>
    intro n d h
    rw [hc]
    refine same_scal d ?_
    cases d <;> first | trivial | cases h
  | succ j ih =>
    intro n d h
    rw [hc]
    cases d with
    | lst xs =>
      have h : (decide (xs.length ≤ 1000000) && xs.all (pl j)) = true := h
      rw [Bool.and_eq_true, decide_eq_true_eq] at h
      exact same_seq hm false xs h.1 fun x hx => ih n x (List.all_eq_true.mp h.2 x hx)
    | tup xs =>
      have h : (decide (xs.length ≤ 1000000) && xs.all (pl j)) = true := h
      rw [Bool.and_eq_true, decide_eq_true_eq] at h
      exact same_seq hm true xs h.1 fun x hx => ih n x (List.all_eq_true.mp h.2 x hx)
    | scr xs => cases h
    | duo xs => cases h
    | non => exact same_scal _ trivial
    | bl b => exact same_scal _ trivial
    | int i => exact same_scal _ trivial
    | str s => exact same_scal _ trivial
theorem pl_sq {k : Nat} {t : Bool} {xs : List D} (hl : xs.length ≤ 1000000) (h : ∀ x ∈ xs, pl k x = true) : pl (k + 1) (sq t xs) = true := by
  cases t
  · show (decide (xs.length ≤ 1000000) && xs.all (pl k)) = true
    rw [decide_eq_true hl, List.all_eq_true.mpr h]; rfl
  · show (decide (xs.length ≤ 1000000) && xs.all (pl k)) = true
    rw [decide_eq_true hl, List.all_eq_true.mpr h]; rfl
theorem pl_tup {k : Nat} {xs : List D} (hl : xs.length ≤ 1000000) (h : ∀ x ∈ xs, pl k x = true) : pl (k + 1) (.tup xs) = true := pl_sq (t := true) hl h
theorem pl_lst {k : Nat} {xs : List D} (hl : xs.length ≤ 1000000) (h : ∀ x ∈ xs, pl k x = true) : pl (k + 1) (.lst xs) = true := pl_sq (t := false) hl h
theorem pl_str (k : Nat) (s : List Nat) : pl k (.str s) = true := by cases k <;> rfl
theorem pl_int (k : Nat) (i : Int) : pl k (.int i) = true := by cases k <;> rfl
theorem pl_bl (k : Nat) (b : Bool) : pl k (.bl b) = true := by cases k <;> rfl
theorem pl_non (k : Nat) : pl k .non = true := by cases k <;> rfl
/-! ### lists for tuples, tuples for lists -/
def FLists (k : Nat) : MF := { np := 1, nn := 2, mu := [false], body :=
  (.cons (.ret (.ite (.isi (.var 0) [.list, .tuple] false) (.lc (.nm 1) (.seq (.var 0)) .nop (.call k (.cons (.var 1) .nil)) [1]) (.var 0)))
  .nil) }
theorem lists_g {α : Type} {k : Nat} (hm : mo k = [false]) (t : Bool) (as : List α) (f g : α → D) (hl : as.length ≤ 1000000) (h : ∀ a ∈ as, ∃ r, cf k [.sh (f a)] = some (r, []) ∧ r.fz = g a) : runF mo cf (FLists k) [.sh (sq t (as.map f))] = some (.own (as.map g), []) := by
  refine fp_eq ?_
  refine f_run rfl ?_
  apply w_rete
  · refine q_ite_t (t := true) (e1 := [some (.sh (sq t (as.map f))), none]) ?_ rfl (q_lcM (as := as) (f := f) (g := g) (env := [some (.sh (sq t (as.map f))), none]) (e1 := [some (.sh (sq t (as.map f))), none]) (seq_sq rfl) rfl (fun a ha => ?_) hl)
    · cases t <;> rfl
    · obtain ⟨r, h1, h2⟩ := h a ha
      exact ⟨_, _, _, rfl, q_call hm rfl rfl rfl h1 rfl, rfl, h2⟩
  · rfl
  · exact ⟨_, rfl, rfl, rfl⟩
theorem lists_str {k : Nat} (s : List Nat) : runF mo cf (FLists k) [.sh (.str s)] = some (.sh (.str s), []) := rfl
theorem lists_int {k : Nat} (i : Int) : runF mo cf (FLists k) [.sh (.int i)] = some (.sh (.int i), []) := rfl
def FAsT (k : Nat) : MF := { np := 1, nn := 2, mu := [false], body :=
  (.cons (.ite (.isi (.var 0) [.list, .tuple] false) (.cons (.ret (.bi .tuple (.cons (.lc (.nm 1) (.seq (.var 0)) .nop (.call k (.cons (.var 1) .nil)) [1]) .nil)))
  .nil) .nil)
  (.cons (.ret (.var 0))
  .nil)) }
theorem asT_g {α : Type} {k : Nat} (hm : mo k = [false]) (t : Bool) (as : List α) (f g : α → D) (hl : as.length ≤ 1000000) (h : ∀ a ∈ as, ∃ r, cf k [.sh (f a)] = some (r, []) ∧ r.fz = g a) : runF mo cf (FAsT k) [.sh (sq t (as.map f))] = some (.sh (.tup (as.map g)), []) := by
  refine fp_eq ?_
  refine f_run rfl ?_
  refine w_ite (t := true) (e1 := [some (.sh (sq t (as.map f))), none]) ?_ (fun _ => ?_) (fun h => by cases h)
  · cases t <;> rfl
  apply w_rete
  · refine q_bi (op_cons (o_dv (q_lcM (as := as) (f := f) (g := g) (env := [some (.sh (sq t (as.map f))), none]) (e1 := [some (.sh (sq t (as.map f))), none]) (seq_sq rfl) rfl (fun a ha => ?_) hl) rfl) rfl) rfl rfl
    obtain ⟨r, h1, h2⟩ := h a ha
    exact ⟨_, _, _, rfl, q_call hm rfl rfl rfl h1 rfl, rfl, h2⟩
  · rfl
  · exact ⟨_, rfl, rfl, rfl⟩
theorem asT_str {k : Nat} (s : List Nat) : runF mo cf (FAsT k) [.sh (.str s)] = some (.sh (.str s), []) := rfl
theorem asT_int {k : Nat} (i : Int) : runF mo cf (FAsT k) [.sh (.int i)] = some (.sh (.int i), []) := rfl
/-! ### FENCEs of tuples and of lists -/
def billX (t : Bool) (p : Bill) : D := sq t [.str p.1, .int p.2.1, .int p.2.2]
def fenceX (t : Bool) (ps : List Bill) : D := sq t (ps.map (billX t))
theorem fence_true (ps : List Bill) : fenceX true ps = fenceD ps := rfl
theorem ix_bill (t : Bool) (p : Bill) : ixD (billX t p) (.int 0) = some (.str p.1) ∧ ixD (billX t p) (.int 1) = some (.int p.2.1) ∧ ixD (billX t p) (.int 2) = some (.int p.2.2) := by
  cases t <;> exact ⟨rfl, rfl, rfl⟩
def tagsD (ps : List Bill) : List D := ps.map fun p => D.str p.1
def inB (c : Int) (p : Bill) : Bool := decide (p.2.1 ≤ c) && decide (c ≤ p.2.2)
def overL (ps : List Bill) (c : Int) : List Bill := ps.filter (inB c)
def overD (ps : List Bill) (c : Int) : List D := tagsD (overL ps c)
def FNames : MF := { np := 1, nn := 2, mu := [false], body :=
  (.cons (.ret (.bi .tuple (.cons (.lc (.nm 1) (.seq (.var 0)) .nop (.ix (.var 1) (.k (.int 0))) [1]) .nil)))
  .nil) }
theorem names_g (t : Bool) (ps : List Bill) (hl : ps.length ≤ 1000000) : runF mo cf FNames [.sh (fenceX t ps)] = some (.sh (.tup (tagsD ps)), []) := by
  refine fp_eq ?_
  refine f_run rfl ?_
  apply w_rete
  · refine q_bi (op_cons (o_dv (q_lcM (as := ps) (f := billX t) (g := fun p => D.str p.1) (env := [some (.sh (fenceX t ps)), none]) (e1 := [some (.sh (fenceX t ps)), none]) (seq_sq rfl) rfl (fun p _ => ?_) hl) rfl) rfl) rfl rfl
    exact ⟨[some (.sh (fenceX t ps)), some (.sh (billX t p))], _, _, rfl, q_ix rfl rfl rfl rfl (ix_bill t p).1, rfl, rfl⟩
  · rfl
  · exact ⟨_, rfl, rfl, rfl⟩
def FOver : MF := { np := 2, nn := 5, mu := [false, false], body :=
  (.cons (.ret (.bi .tuple (.cons (.lc (.tp (.cons (.nm 2) (.cons (.nm 3) (.cons (.nm 4) .nil)))) (.seq (.var 0)) (.chain .le .le (.var 3) (.var 1) (.var 4)) (.var 2) [2, 3, 4]) .nil)))
  .nil) }
theorem over_g (t : Bool) (ps : List Bill) (c : Int) (hl : ps.length ≤ 1000000) : runF mo cf FOver [.sh (fenceX t ps), .sh (.int c)] = some (.sh (.tup (overD ps c)), []) := by
  refine fp_eq ?_
  refine f_run rfl ?_
  apply w_rete
  · refine q_bi (op_cons (o_dv (q_lcA (as := ps) (f := billX t) (g := fun p => D.str p.1) (p := inB c) (env := [some (.sh (fenceX t ps)), some (.sh (.int c)), none, none, none]) (e1 := [some (.sh (fenceX t ps)), some (.sh (.int c)), none, none, none]) (seq_sq rfl) rfl (fun p _ => ?_) hl) rfl) rfl) rfl rfl
    refine ⟨[some (.sh (fenceX t ps)), some (.sh (.int c)), some (.sh (.str p.1)), some (.sh (.int p.2.1)), some (.sh (.int p.2.2))], [some (.sh (fenceX t ps)), some (.sh (.int c)), some (.sh (.str p.1)), some (.sh (.int p.2.1)), some (.sh (.int p.2.2))], ?_, ?_, rfl, fun _ => ⟨_, _, rfl, rfl, rfl⟩⟩
    · cases t <;> rfl
    · exact t_dv (q_chainb rfl rfl rfl rfl rfl) rfl rfl
  · rfl
  · exact ⟨_, rfl, rfl, rfl⟩
def FLOver : MF := { np := 2, nn := 3, mu := [false, false], body :=
  (.cons (.ret (.lc (.nm 2) (.seq (.var 0)) (.chain .le .le (.ix (.var 2) (.k (.int 1))) (.var 1) (.ix (.var 2) (.k (.int 2)))) (.ix (.var 2) (.k (.int 0))) [2]))
  .nil) }
theorem lover_g (t : Bool) (ps : List Bill) (c : Int) (hl : ps.length ≤ 1000000) : runF mo cf FLOver [.sh (fenceX t ps), .sh (.int c)] = some (.own (overD ps c), []) := by
  refine fp_eq ?_
  refine f_run rfl ?_
  apply w_rete
  · refine q_lcA (as := ps) (f := billX t) (g := fun p => D.str p.1) (p := inB c) (env := [some (.sh (fenceX t ps)), some (.sh (.int c)), none]) (e1 := [some (.sh (fenceX t ps)), some (.sh (.int c)), none]) (seq_sq rfl) rfl (fun p _ => ?_) hl
    have ib := ix_bill t p
    refine ⟨[some (.sh (fenceX t ps)), some (.sh (.int c)), some (.sh (billX t p))], [some (.sh (fenceX t ps)), some (.sh (.int c)), some (.sh (billX t p))], rfl, ?_, rfl, fun _ => ⟨_, .sh (.str p.1), q_ix rfl rfl rfl rfl ib.1, rfl, rfl⟩⟩
    exact t_dv (q_chainb (ra := .sh (.int p.2.1)) (rc := .sh (.int p.2.2)) (q_ix rfl rfl rfl rfl ib.2.1) rfl rfl (q_ix rfl rfl rfl rfl ib.2.2) rfl) rfl rfl
  · rfl
  · exact ⟨_, rfl, rfl, rfl⟩
/-- a NAME stands at one BILL alone -/
def Uniq (ps : List Bill) : Prop := ∀ p ∈ ps, ∀ q ∈ ps, q.1 = p.1 → q = p
theorem uniq_of_asc : ∀ {ps : List Bill}, Asc (ps.map (·.1)) → Uniq ps
  | [], _ => fun p h => nomatch h
  | x :: ps, h => by
    obtain ⟨h1, h2⟩ := List.pairwise_cons.mp h
    have ih := uniq_of_asc h2
    have key : ∀ q ∈ ps, q.1 ≠ x.1 := fun q hq e => by
      have := h1 q.1 (List.mem_map_of_mem hq)
      rw [e, lt_irr] at this
      cases this
    intro p hp q hq e
    rcases List.mem_cons.mp hp with hp1 | hp1
    · rcases List.mem_cons.mp hq with hq1 | hq1
      · rw [hp1, hq1]
      · rw [hp1] at e
        exact absurd e (key q hq1)
    · rcases List.mem_cons.mp hq with hq1 | hq1
      · rw [hq1] at e
        exact absurd e.symm (key p hp1)
      · exact ih p hp1 q hq1 e
/-! ### a text among texts -/
def hasS (ss : List (List Nat)) (s : List Nat) : Bool := ss.any (· == s)
theorem depL_strs : ∀ ss : List (List Nat), depL (ss.map D.str) = 0
  | [] => rfl
  | s :: ss => by
    show max 0 (depL (ss.map D.str)) = 0
    rw [depL_strs ss]; rfl
theorem depL_ints : ∀ cs : List Int, depL (cs.map D.int) = 0
  | [] => rfl
  | p :: ps => by
    show max 0 (depL (ps.map D.int)) = 0
    rw [depL_ints ps]; rfl
theorem any_strs (s : List Nat) (ss : List (List Nat)) : ((ss.map D.str).any fun y => eqD y (.str s)) = hasS ss s := by
  unfold hasS
  rw [List.any_map]
  rfl
theorem shal_strs (t : Bool) (ss : List (List Nat)) : shal (sq t (ss.map D.str)) = true := by
  cases t
  · show decide (depL (ss.map D.str) + 1 ≤ 60) = true
    rw [depL_strs]; rfl
  · show decide (depL (ss.map D.str) + 1 ≤ 60) = true
    rw [depL_strs]; rfl
theorem in_row (s : List Nat) (t : Bool) (ys : List D) : cmpD .in_ (.str s) (sq t ys) = if shal (.str s) && shal (sq t ys) then some (ys.any fun y => eqD y (.str s)) else none := by
  cases t <;> rcases s with _ | ⟨a, _ | ⟨b, r⟩⟩ <;> rfl
theorem nin_row (s : List Nat) (t : Bool) (ys : List D) : cmpD .nin (.str s) (sq t ys) = if shal (.str s) && shal (sq t ys) then some (!ys.any fun y => eqD y (.str s)) else none := by
  cases t <;> rcases s with _ | ⟨a, _ | ⟨b, r⟩⟩ <;> rfl
theorem in_strs (s : List Nat) (t : Bool) (ss : List (List Nat)) : cmpD .in_ (.str s) (sq t (ss.map D.str)) = some (hasS ss s) := by
  rw [in_row, shal_strs, any_strs]; rfl
theorem nin_strs (s : List Nat) (t : Bool) (ss : List (List Nat)) : cmpD .nin (.str s) (sq t (ss.map D.str)) = some (!hasS ss s) := by
  rw [nin_row, shal_strs, any_strs]; rfl
theorem overD_eq (ps : List Bill) (c : Int) : overD ps c = ((overL ps c).map Prod.fst).map D.str := by
  unfold overD tagsD
  rw [List.map_map]
  rfl
theorem tagsD_eq (ps : List Bill) : tagsD ps = (ps.map Prod.fst).map D.str := by
  unfold tagsD
  rw [List.map_map]
  rfl
/-! ### the last one -/
theorem place_last {n : Nat} (h : 0 < n) : place n (-1) = some (n - 1) := by
  unfold place
  rw [if_neg (by omega), if_pos (by omega)]
  congr 1
  omega
theorem ix_last (t : Bool) {xs : List D} (h : xs ≠ []) : ixD (sq t xs) (.int (-1)) = some (xs.getLast h) := by
  have hp : 0 < xs.length := List.length_pos_iff.mpr h
  have e : ixL xs (-1) = some (xs.getLast h) := by
    show (place xs.length (-1)).bind _ = _
    rw [place_last hp, Option.bind_some, List.getLast_eq_getElem, List.getElem?_eq_getElem]
  cases t
  · exact e
  · exact e
end
end MP

set_option Elab.async false
set_option linter.all false
set_option maxRecDepth 100000
/-! Draws from a tuple or a list. -/
namespace MP
def Of2 (cf : CF) (k : Nat) : Prop := ∀ (N : Nat) (ds xs : List D) (b : Bool), Box N ds → N ≤ 1000000000 → xs ≠ [] → xs.length < 1073741824 →
    ∃ (x : D) (ds' : List D), cf k [.mu ds, .sh (sq b xs)] = some (.sh x, [ds']) ∧ x ∈ xs ∧ Box (N + 1) ds'
def Pick2 (cf : CF) (k : Nat) : Prop := ∀ (N : Nat) (ds pool : List D) (b : Bool) (sz : Int), Box N ds → N ≤ 100000000 → pool.length ≤ 1000 → 0 ≤ sz →
    ∃ (out rs ds' : List D), cf k [.mu ds, .sh (sq b pool), .sh (.int sz)] = some (.own out, [ds']) ∧ (out.length : Int) = (if (pool.length : Int) < sz then (pool.length : Int) else sz) ∧ (rs ++ out).Perm pool ∧ Box (N + pool.length) ds'
theorem Pick2.pick {cf : CF} {k : Nat} (h : Pick2 cf k) : Pick cf k := fun N ds pool sz h1 h2 h3 h4 => h N ds pool false sz h1 h2 h3 h4
theorem Of2.of {cf : CF} {k : Nat} (h : Of2 cf k) : Of cf k := fun N ds xs h1 h2 h3 h4 => h N ds xs false h1 h2 h3 h4
section
variable {mo : Nat → List Bool} {cf : CF}
theorem of2_g {kt : Nat} (ht : Take cf kt) (hm : mo kt = [true, false]) (N : Nat) (ds xs : List D) (b : Bool) (hb : Box N ds) (hN : N ≤ 1000000000) (hx : xs ≠ []) (hl : xs.length < 1073741824) :
    ∃ (x : D) (ds' : List D), runF mo cf (FOf kt) [.mu ds, .sh (sq b xs)] = some (.sh x, [ds']) ∧ x ∈ xs ∧ Box (N + 1) ds' := by
  cases b
  · exact of_g ht hm N ds xs hb hN hx hl
  have hp : 0 < xs.length := List.length_pos_iff.mpr hx
  obtain ⟨r, ds', e, h0, h1, hb'⟩ := ht N ds xs.length hb hN (by omega) (by omega)
  have hr : r.toNat < xs.length := by omega
  have h : FP (runF mo cf (FOf kt) [.mu ds, .sh (.tup xs)]) fun v l => v = .sh xs[r.toNat] ∧ l = [ds'] := by
    refine f_run rfl ?_
    apply w_rete
    · apply q_ix
      · rfl
      · apply o_dv
        · exact q_call hm rfl rfl rfl e rfl
        · rfl
      · rfl
      · rfl
      · exact ix_tup (j := r.toNat) (by omega) (List.getElem?_eq_getElem hr)
    · rfl
    · exact ⟨_, rfl, rfl, rfl⟩
  exact ⟨_, _, fp_eq h, List.getElem_mem hr, hb'⟩
theorem pickd_g {kt : Nat} {d : D} (ht : Take cf kt) (hm : mo kt = [true, false]) (N : Nat) (ds pool : List D) (hd : biD .list [d] = some (.own pool)) (sz : Int) (hb : Box N ds) (hN : N ≤ 100000000) (hl : pool.length ≤ 1000) (hs : 0 ≤ sz) :
    ∃ (out rs ds' : List D), runF mo cf (FPick kt) [.mu ds, .sh d, .sh (.int sz)] = some (.own out, [ds']) ∧ (out.length : Int) = (if (pool.length : Int) < sz then (pool.length : Int) else sz) ∧ (rs ++ out).Perm pool ∧ Box (N + pool.length) ds' := by
  have h : FP (runF mo cf (FPick kt) [.mu ds, .sh d, .sh (.int sz)]) fun v l => ∃ out rs ds', v = .own out ∧ l = [ds'] ∧ (out.length : Int) = (if (pool.length : Int) < sz then (pool.length : Int) else sz) ∧ (rs ++ out).Perm pool ∧ Box (N + pool.length) ds' := by
    refine f_run rfl ?_
    apply w_par2 (q_bi rfl rfl hd) rfl rfl rfl
    generalize hmm : (if (pool.length : Int) < sz then (pool.length : Int) else sz) = m
    have hm1 : 0 ≤ m := by subst hmm; split <;> omega
    have hm2 : m ≤ sz := by subst hmm; split <;> omega
    have hm3 : m ≤ pool.length := by subst hmm; split <;> omega
    refine w_loop (e1 := [some (.own true ds), some (.sh d), some (.sh (.int sz)), none, some (.own false pool), some (.own false [])]) (xs := rangeL 0 m.toNat) (i_rng1 ?_ (by omega) (by omega)) (fun rest e => ∃ (ds' rs ss : List D) (k : Nat), rest.length + k = m.toNat ∧ Box (N + k) ds' ∧ rs.length + k = pool.length ∧ ss.length = k ∧ (rs ++ ss).Perm pool ∧ e = [some (.own true ds'), some (.sh d), some (.sh (.int sz)), none, some (.own false rs), some (.own false ss)]) ?_ ?_ ?_
    · rw [← hmm]; rfl
    · exact ⟨ds, pool, [], 0, by rw [rngL_len]; rfl, hb, rfl, rfl, by rw [List.append_nil], rfl⟩
    · rintro x rest e ⟨ds', rs, ss, k, h1, h2, h3, h4, h5, rfl⟩
      rw [List.length_cons] at h1
      have hq : tgA (.nm 3) x [some (.own true ds'), some (.sh d), some (.sh (.int sz)), none, some (.own false rs), some (.own false ss)] = some [some (.own true ds'), some (.sh d), some (.sh (.int sz)), some (.sh x), some (.own false rs), some (.own false ss)] := rfl
      refine ⟨_, hq, ?_⟩
      obtain ⟨r, ds2, e, q0, q1, q2⟩ := ht (N + k) ds' rs.length h2 (by omega) (by omega) (by omega)
      have hr : r.toNat < rs.length := by omega
      apply w_app
      · rfl
      · apply q_pop
        · rfl
        · exact q_call hm rfl rfl rfl e rfl
        · rfl
        · exact pop_nat q0 (List.getElem?_eq_getElem hr)
      · rfl
      · omega
      · refine w_wipe rfl rfl (w_nil ⟨ds2, rs.eraseIdx r.toNat, ss ++ [rs[r.toNat]], k + 1, by omega, by rw [← Nat.add_assoc]; exact q2, by rw [List.length_eraseIdx_of_lt hr]; omega, by rw [List.length_append, h4]; rfl, ?_, rfl⟩)
        refine List.Perm.trans ?_ h5
        have p := erase_perm hr
        refine List.Perm.trans ?_ (List.Perm.append_right ss p)
        rw [← List.append_assoc]
        refine List.Perm.trans (List.perm_append_comm) ?_
        exact List.Perm.refl _
    · rintro e ⟨ds', rs, ss, k, h1, h2, h3, h4, h5, rfl⟩
      have h1 : 0 + k = m.toNat := h1
      refine w_retv rfl ⟨_, rfl, _, rs, _, rfl, rfl, by rw [h4]; omega, h5, h2.le (by omega)⟩
  obtain ⟨v, l, e, out, rs, ds', rfl, rfl, h1⟩ := h
  exact ⟨out, rs, ds', e, h1⟩
theorem pick2_g {kt : Nat} (ht : Take cf kt) (hm : mo kt = [true, false]) (N : Nat) (ds pool : List D) (b : Bool) (sz : Int) (hb : Box N ds) (hN : N ≤ 100000000) (hl : pool.length ≤ 1000) (hs : 0 ≤ sz) :
    ∃ (out rs ds' : List D), runF mo cf (FPick kt) [.mu ds, .sh (sq b pool), .sh (.int sz)] = some (.own out, [ds']) ∧ (out.length : Int) = (if (pool.length : Int) < sz then (pool.length : Int) else sz) ∧ (rs ++ out).Perm pool ∧ Box (N + pool.length) ds' :=
  pickd_g ht hm N ds pool (by cases b <;> rfl) sz hb hN hl hs
end
/-! ### sorted sets hold what they were made of -/
theorem ins_mem {a x : D} : ∀ {l : List D}, x ∈ ins a l → x = a ∨ x ∈ l
  | [], h => .inl (by simpa [ins] using h)
  | y :: ys, h => by
    unfold ins at h
    split at h
    · rcases List.mem_cons.mp h with rfl | h
      · exact .inr List.mem_cons_self
      · exact (ins_mem h).imp id (List.mem_cons_of_mem _)
    · exact List.mem_cons.mp h
theorem ins_len (a : D) : ∀ l : List D, (ins a l).length = l.length + 1
  | [] => rfl
  | y :: ys => by
    unfold ins
    split
    · rw [List.length_cons, ins_len a ys, List.length_cons]
    · rfl
theorem isort_mem {x : D} : ∀ {l : List D}, x ∈ isort l → x ∈ l
  | [], h => h
  | y :: ys, h => by
    rcases ins_mem h with rfl | h
    · exact List.mem_cons_self
    · exact List.mem_cons_of_mem _ (isort_mem h)
theorem isort_len : ∀ l : List D, (isort l).length = l.length
  | [] => rfl
  | y :: ys => by
    show (ins y (isort ys)).length = _
    rw [ins_len, isort_len ys, List.length_cons]
theorem dedup_mem' {x : D} : ∀ {l : List D}, x ∈ dedup l → x ∈ l
  | [], h => h
  | y :: ys, h => by
    unfold dedup at h
    rcases List.mem_cons.mp h with rfl | h
    · exact List.mem_cons_self
    · exact List.mem_cons_of_mem _ (dedup_mem' ((List.mem_filter.mp h).1))
theorem dedup_len' : ∀ l : List D, (dedup l).length ≤ l.length
  | [] => Nat.le_refl _
  | y :: ys => by
    unfold dedup
    rw [List.length_cons, List.length_cons]
    exact Nat.succ_le_succ (Nat.le_trans (List.length_filter_le _ _) (dedup_len' ys))
theorem lift_map {α : Type} {f : α → D} : ∀ {l : List D}, (∀ x ∈ l, ∃ w, x = f w) → ∃ ws : List α, l = ws.map f
  | [], _ => ⟨[], rfl⟩
  | x :: l, h => by
    obtain ⟨w, rfl⟩ := h x List.mem_cons_self
    obtain ⟨ws, rfl⟩ := lift_map (l := l) fun y hy => h y (List.mem_cons_of_mem _ hy)
    exact ⟨w :: ws, rfl⟩
theorem ss_lift {α : Type} {f : α → D} (fs : List α) (h : fs.length < 62) (hs : fs ≠ [] → allT (fs.map f) = true) : ∃ ws : List α, biD .sortedset [.lst (fs.map f)] = some (.own (ws.map f)) ∧ ws.length ≤ fs.length ∧ ∀ w ∈ ws, ∃ v ∈ fs, f v = f w := by
  have e : biD .sortedset [.lst (fs.map f)] = some (.own (isort (dedup (fs.map f)))) := by
    have l1 : (fs.map f).length < 3000 := by rw [List.length_map]; omega
    have l2 : (dedup (fs.map f)).length < 62 := by
      have := dedup_len' (fs.map f)
      rw [List.length_map] at this
      omega
    cases fs with
    | nil => rfl
    | cons a r =>
      have q := hs (List.cons_ne_nil _ _)
      simp only [biD, l1, l2, q, decide_true, Bool.and_true, if_true]
      cases allS ((a :: r).map f) <;> rfl
  have m : ∀ x ∈ isort (dedup (fs.map f)), x ∈ fs.map f := fun x hx => dedup_mem' (isort_mem hx)
  obtain ⟨ws, hw⟩ := lift_map (f := f) (l := isort (dedup (fs.map f))) fun x hx => by
    obtain ⟨w, _, rfl⟩ := List.mem_map.mp (m x hx)
    exact ⟨w, rfl⟩
  refine ⟨ws, by rw [e, hw], ?_, fun w hws => ?_⟩
  · have l : (ws.map f).length ≤ (fs.map f).length := by
      rw [← hw, isort_len]
      exact dedup_len' _
    rwa [List.length_map, List.length_map] at l
  · have q := m (f w) (by rw [hw]; exact List.mem_map.mpr ⟨w, hws, rfl⟩)
    obtain ⟨v, h1, h2⟩ := List.mem_map.mp q
    exact ⟨v, h1, h2⟩
/-- texts out of a pool of texts -/
theorem texts_lift {pool : List (List Nat)} {out rs : List D} (h : (rs ++ out).Perm (pool.map D.str)) : ∃ os : List (List Nat), out = os.map D.str ∧ ∀ s ∈ os, s ∈ pool := by
  obtain ⟨os, e⟩ := lift_map (f := D.str) (l := out) fun x hx => by
    obtain ⟨s, _, rfl⟩ := List.mem_map.mp (h.mem_iff.mp (List.mem_append_right rs hx))
    exact ⟨s, rfl⟩
  refine ⟨os, e, fun s hs => ?_⟩
  have q := h.mem_iff.mp (List.mem_append_right rs (by rw [e]; exact List.mem_map.mpr ⟨s, hs, rfl⟩))
  obtain ⟨s', h1, h2⟩ := List.mem_map.mp q
  cases h2
  exact h1
end MP

set_option Elab.async false
set_option linter.all false
set_option maxRecDepth 100000
/-! Numbers, NAMEs, triples, ascending texts. -/
namespace MP
def numB : D → Bool
  | .int _ => true
  | _ => false
def tripleB : D → Bool
  | .tup xs => (xs.length : Int) == 3
  | .duo xs => (xs.length : Int) == 3
  | _ => false
def letB (c : Nat) : Bool := decide (97 ≤ c) && decide (c ≤ 122)
def nameS (s : List Nat) : Bool := decide (1 ≤ s.length) && decide (s.length ≤ 8) && s.all letB
def nameB : D → Bool
  | .str s => nameS s
  | _ => false
def lets : D → D
  | .str [c] => .bl (letB c)
  | _ => .bl false
theorem mem_chars : ∀ {s : List Nat} {x : D}, x ∈ chars s → ∃ c ∈ s, x = .str [c]
  | c :: s, x, h => by
    rcases List.mem_cons.mp h with rfl | h
    · exact ⟨c, List.mem_cons_self, rfl⟩
    · obtain ⟨c', h1, h2⟩ := mem_chars h
      exact ⟨c', List.mem_cons_of_mem _ h1, h2⟩
theorem charsLen2 : ∀ s : List Nat, (chars s).length = s.length
  | [] => rfl
  | c :: s => by rw [chars, List.length_cons, List.length_cons, charsLen2 s]
theorem lets_allB : ∀ s : List Nat, allB ((chars s).map lets) = true
  | [] => rfl
  | c :: s => lets_allB s
theorem lets_all : ∀ s : List Nat, ((chars s).map lets).all isB = s.all letB
  | [] => rfl
  | c :: s => by
    rw [chars, List.map_cons, List.all_cons, List.all_cons, lets_all s]
    congr 1
    show isB (.bl (letB c)) = letB c
    cases letB c <;> rfl
theorem le_let (c : Nat) : (!ltS [c] [97] && !ltS [122] [c]) = letB c := by
  unfold letB ltS
  by_cases h1 : c < 97
  · have : ¬ 97 ≤ c := by omega
    simp [h1, this]
  · by_cases h2 : 97 < c
    · by_cases h3 : 122 < c
      · have : ¬ c ≤ 122 := by omega
        simp [h1, h2, h3, this]
      · have e1 : 97 ≤ c := by omega
        have e2 : c ≤ 122 := by omega
        by_cases h4 : c < 122
        · simp [h1, h2, h3, h4, e1, e2]
        · simp [h1, h2, h3, h4, ltS, e1, e2]
    · have : c = 97 := by omega
      subst this
      rfl
section
variable {mo : Nat → List Bool} {cf : CF}
def FNum : MF := { np := 1, nn := 1, mu := [false], body :=
  (.cons (.ret (.and (.isi (.var 0) [.int] true) (.one (.not (.isi (.var 0) [.bool] true)))))
  .nil) }
theorem num_g (d : D) : runF mo cf FNum [.sh d] = some (.sh (.bl (numB d)), []) := by cases d <;> rfl
def FTriple : MF := { np := 1, nn := 1, mu := [false], body :=
  (.cons (.ret (.and (.isi (.var 0) [.tuple] true) (.one (.cmp .eq (.bi .len (.cons (.var 0) .nil)) (.k (.int 3))))))
  .nil) }
theorem triple_g (d : D) : runF mo cf FTriple [.sh d] = some (.sh (.bl (tripleB d)), []) := by cases d <;> rfl
def FName : MF := { np := 1, nn := 2, mu := [false], body :=
  (.cons (.ite (.or (.not (.isi (.var 0) [.str] true)) (.one (.not (.chain .le .le (.k (.int 1)) (.bi .len (.cons (.var 0) .nil)) (.k (.int 8)))))) (.cons (.ret (.k (.bl false)))
  .nil) .nil)
  (.cons (.ret (.bi .all (.cons (.lc (.nm 1) (.seq (.var 0)) .nop (.chain .le .le (.k (.str [97])) (.var 1) (.k (.str [122]))) [1]) .nil)))
  .nil)) }
theorem len_e1 (s : List Nat) : decide (1 ≤ s.length) = decide ((1 : Int) ≤ (s.length : Int)) := by congr 1; simp only [eq_iff_iff]; omega
theorem len_e2 (s : List Nat) : decide (s.length ≤ 8) = decide ((s.length : Int) ≤ 8) := by congr 1; simp only [eq_iff_iff]; omega
theorem name_g (d : D) : runF mo cf FName [.sh d] = some (.sh (.bl (nameB d)), []) := by
  cases d <;> try rfl
  rename_i s
  refine fp_eq ?_
  refine f_run rfl ?_
  refine w_ite (t := !(decide ((1 : Int) ≤ (s.length : Int)) && decide ((s.length : Int) ≤ 8))) (e1 := [some (.sh (.str s)), none]) ?_ (fun h => ?_) (fun h => w_nil ?_)
  · refine t_dv (q_or_f (r := .sh (.bl false)) rfl rfl (q_one (q_not (o_dv (q_chainb (p := decide ((1 : Int) ≤ (s.length : Int))) rfl rfl rfl rfl rfl) rfl) rfl))) rfl rfl
  · refine w_rt rfl ⟨_, rfl, ?_, rfl⟩
    have h : (decide ((1 : Int) ≤ (s.length : Int)) && decide ((s.length : Int) ≤ 8)) = false := by
      rw [← Bool.not_eq_true']; exact h
    have : nameS s = false := by
      unfold nameS
      rw [len_e1, len_e2, h]; rfl
    show RV.sh (.bl false) = .sh (.bl (nameS s))
    rw [this]
  · have h : (decide ((1 : Int) ≤ (s.length : Int)) && decide ((s.length : Int) ≤ 8)) = true := by
      rw [← Bool.not_eq_false']; exact h
    have hl : s.length ≤ 8 := by
      simp only [Bool.and_eq_true, decide_eq_true_eq] at h
      omega
    apply w_rete
    · apply q_bi
      · apply op_cons
        · apply o_dv
          · apply q_lc (g := lets)
            · exact i_seq rfl (.inr (.inr ⟨s, rfl, rfl⟩))
            · rfl
            · intro x hx
              obtain ⟨c, hc, rfl⟩ := mem_chars hx
              refine ⟨_, _, _, rfl, q_chainb rfl rfl rfl rfl rfl, rfl, ?_⟩
              show D.bl (!ltS [c] [97] && !ltS [122] [c]) = D.bl (letB c)
              rw [le_let]
            · rw [charsLen2]; omega
          · rfl
        · rfl
      · rfl
      · exact b_all (lets_allB s)
    · rfl
    · refine ⟨_, rfl, ?_, rfl⟩
      rw [lets_all]
      show RV.sh (.bl (s.all letB)) = .sh (.bl (nameS s))
      unfold nameS
      rw [len_e1, len_e2, h]; rfl
/-! ### ascending texts -/
def ltP : D → D
  | .duo [.str x, .str y] => .bl (ltS x y)
  | _ => .bl false
theorem asc_all : ∀ (x : List Nat) (r : List (List Nat)), allB ((zipL ((x :: r).map D.str) (r.map D.str)).map ltP) = true ∧ ((zipL ((x :: r).map D.str) (r.map D.str)).map ltP).all isB = ascB (x :: r)
  | x, [] => ⟨rfl, rfl⟩
  | x, y :: r => by
    obtain ⟨h1, h2⟩ := asc_all y r
    refine ⟨h1, ?_⟩
    show (isB (.bl (ltS x y)) && ((zipL ((y :: r).map D.str) (r.map D.str)).map ltP).all isB) = (ltS x y && ascB (y :: r))
    rw [h2]
    cases ltS x y <;> rfl
theorem zipLen2 : ∀ (xs ys : List D), (zipL xs ys).length ≤ xs.length
  | [], _ => Nat.zero_le _
  | _ :: _, [] => Nat.zero_le _
  | x :: xs, y :: ys => by
    have := zipLen2 xs ys
    show (zipL xs ys).length + 1 ≤ xs.length + 1
    omega
theorem zip_mem : ∀ {xs ys : List (List Nat)} {x : D}, x ∈ zipL (xs.map D.str) (ys.map D.str) → ∃ a b, x = .duo [.str a, .str b]
  | [], _, _, h => by cases h
  | _ :: _, [], _, h => by cases h
  | x :: xs, y :: ys, z, h => by
    rcases List.mem_cons.mp h with rfl | h
    · exact ⟨x, y, rfl⟩
    · exact zip_mem h
theorem cut1 {α : Type} (xs : List α) : cut xs (some 1) none = xs.drop 1 := by
  unfold cut
  cases xs with
  | nil => rfl
  | cons x r =>
    have e1 : bnd (x :: r).length 0 (some 1) = 1 := by
      show min (Int.toNat 1) (r.length + 1) = 1
      have : Int.toNat 1 = 1 := rfl
      omega
    have e2 : bnd (x :: r).length (x :: r).length none = (x :: r).length := rfl
    rw [e1, e2]
    show List.take (r.length + 1 - 1) r = r
    rw [Nat.add_sub_cancel, List.take_length]
def FAsc : MF := { np := 1, nn := 3, mu := [false], body :=
  (.cons (.ret (.bi .all (.cons (.lc (.tp (.cons (.nm 1) (.cons (.nm 2) .nil))) (.zip (.var 0) (.sl (.var 0) (.k (.int 1)) .nop)) .nop (.cmp .lt (.var 1) (.var 2)) [1, 2]) .nil)))
  .nil) }
theorem asc_g (ss : List (List Nat)) (hl : ss.length ≤ 1000000) : runF mo cf FAsc [.sh (.lst (ss.map D.str))] = some (.sh (.bl (ascB ss)), []) := by
  refine fp_eq ?_
  refine f_run rfl ?_
  apply w_rete
  · apply q_bi
    · apply op_cons
      · apply o_dv
        · apply q_lc (g := ltP)
          · apply i_zip
            · rfl
            · rfl
            · rfl
            · rfl
          · rfl
          · intro x hx
            rw [cut1, ← List.map_drop] at hx
            obtain ⟨a, b, rfl⟩ := zip_mem hx
            exact ⟨_, _, _, rfl, rfl, rfl, rfl⟩
          · refine Nat.le_trans (zipLen2 _ _) ?_
            rw [List.length_map]; exact hl
        · rfl
      · rfl
    · rfl
    · refine b_all ?_
      rw [cut1, ← List.map_drop]
      cases ss with
      | nil => rfl
      | cons x r => exact (asc_all x r).1
  · rfl
  · refine ⟨_, rfl, ?_, rfl⟩
    rw [cut1, ← List.map_drop]
    cases ss with
    | nil => rfl
    | cons x r =>
      rw [List.drop_one, List.tail_cons, (asc_all x r).2]
end
/-! ### letters, as the laws look at them -/
def letters : List Nat := [97, 98, 99, 100, 101, 102, 103, 104, 105, 106, 107, 108, 109, 110, 111, 112, 113, 114, 115, 116, 117, 118, 119, 120, 121, 122]
theorem in_letters (c : Nat) : decide (c ∈ letters) = letB c := by
  unfold letB
  by_cases h : 97 ≤ c ∧ c ≤ 122
  · obtain ⟨h1, h2⟩ := h
    obtain ⟨k, rfl⟩ : ∃ k, c = 97 + k := ⟨c - 97, by omega⟩
    have hk : k < 26 := by omega
    have : ∀ k : Fin 26, decide ((97 + k.val) ∈ letters) = (decide (97 ≤ 97 + k.val) && decide (97 + k.val ≤ 122)) := by decide
    exact this ⟨k, hk⟩
  · have h1 : ¬ c ∈ letters := by
      intro hm
      apply h
      have : ∀ x ∈ letters, 97 ≤ x ∧ x ≤ 122 := by decide
      exact this c hm
    have h2 : (decide (97 ≤ c) && decide (c ≤ 122)) = false := by
      rw [← Bool.not_eq_true, Bool.and_eq_true, decide_eq_true_eq, decide_eq_true_eq]
      exact h
    rw [h2, decide_eq_false_iff_not]
    exact h1
def odd1 : D → Bool
  | .str [c] => !letB c
  | _ => false
theorem depL_chars : ∀ s : List Nat, ∀ p : D → Bool, depL ((chars s).filter p) = 0
  | [], _ => rfl
  | c :: s, p => by
    rw [chars, List.filter_cons]
    split
    · show max (dep (.str [c])) (depL _) = 0
      rw [depL_chars s p]; rfl
    · exact depL_chars s p
theorem odd_none : ∀ s : List Nat, eqL ((chars s).filter odd1) [] = s.all letB
  | [] => rfl
  | c :: s => by
    rw [chars, List.filter_cons, List.all_cons]
    have : odd1 (.str [c]) = !letB c := rfl
    rw [this, ← odd_none s]
    cases letB c
    · rfl
    · simp
/-- what may be spoilt so deep -/
def Wd : Nat → D → Prop
  | 0, _ => True
  | _ + 1, .scr _ => False
  | k + 1, .lst xs => xs.length ≤ 9 ∧ ∀ x ∈ xs, Wd k x
  | k + 1, .tup xs => xs.length ≤ 9 ∧ ∀ x ∈ xs, Wd k x
  | _ + 1, _ => True
def shortB : D → Bool
  | .tup xs => decide (xs.length ≤ 1000)
  | _ => true
end MP
namespace MP
/-! ### comprehensions of two clauses -/
section
variable {mo : Nat → List Bool} {cf : CF}
theorem q_lc2A {α β : Type} {t t2 : Tg} {it it2 c2 e : ME} {vs vs2 : List Nat} {env e1 : En} {as : List α} {f : α → D} {ff : α → List D} (h1 : evI mo cf it env = some (e1, as.map f)) (w : wipeOk e1 vs = true)
    (hb : ∀ a ∈ as, ∃ (en1 en3 : En) (bs : List β) (f2 g : β → D) (p : β → Bool), tgA t (f a) (wipeE (wipeE e1 vs) vs) = some en1 ∧ evI mo cf it2 en1 = some (en3, bs.map f2) ∧
      (∀ b ∈ bs, ∃ em1 em2, tgA t2 (f2 b) (wipeE (wipeE en3 vs2) vs2) = some em1 ∧ tst c2 (evR mo cf c2 em1) em1 = some (em2, p b) ∧ wipeE em2 vs2 = wipeE en3 vs2 ∧ (p b = true → ∃ em3 r, evR mo cf e em2 = some (em3, r) ∧ wipeE em3 vs2 = wipeE en3 vs2 ∧ r.fz = g b)) ∧
      wipeE (wipeE en3 vs2) vs = wipeE e1 vs ∧ (bs.filter p).map g = ff a) (l : (as.flatMap ff).length ≤ 1000000) :
    evR mo cf (.lc2 t it .nop t2 it2 c2 e vs vs2) env = some (unwipe e1 (wipeE e1 vs) vs, .own (as.flatMap ff)) := by
  rw [evR.eq_def]
  simp only [h1, w, if_true]
  rw [turns_flatA (ff := ff)]
  · simp only [lenOk, l, decide_true, if_true]
  · intro a ha
    obtain ⟨en1, en3, bs, f2, g, p, k1, k2, k3, k4, k5⟩ := hb a ha
    have t_nop : ∀ x env, tst ME.nop x env = some (env, true) := fun _ _ => rfl
    simp only [k1, t_nop, k2]
    rw [turns_flatA (ff := fun b => if p b then [g b] else []), flat_filter]
    · simp only [k4, k5]
    · intro b hb
      obtain ⟨em1, em2, j1, j2, j3, j4⟩ := k3 b hb
      simp only [j1, j2]
      cases hp : p b
      · simp [j3]
      · obtain ⟨en3, r, h5, h6, h7⟩ := j4 hp
        simp [h5, h6, h7]
theorem flat_len {α : Type} {ff : α → List D} {n : Nat} : ∀ {as : List α}, (∀ a ∈ as, (ff a).length ≤ n) → (as.flatMap ff).length ≤ as.length * n
  | [], _ => by simp
  | a :: as, h => by
    have h1 := h a List.mem_cons_self
    have h2 := flat_len (as := as) fun y hy => h y (List.mem_cons_of_mem _ hy)
    rw [List.flatMap_cons, List.length_append, List.length_cons, Nat.add_mul]
    omega
end
theorem turns_cons1 {body : D → En → Option (En × List D)} {x y : D} {xs zs : List D} {env e1 e2 : En} (h1 : body x env = some (e1, [y])) (h2 : turns body xs e1 = some (e2, zs)) : turns body (x :: xs) env = some (e2, y :: zs) := by
  simp only [turns, h1, h2]
  rfl
/-- a comprehension's turn -/
def lcB (mo : Nat → List Bool) (cf : CF) (t : Tg) (c e : ME) (vs : List Nat) : D → En → Option (En × List D) := fun x en => match tgA t x (wipeE en vs) with
  | some en1 => match tst c (evR mo cf c en1) en1 with
    | some (en2, true) => match evR mo cf e en2 with
      | some (en3, r) => some (wipeE en3 vs, [r.fz])
      | none => none
    | some (en2, false) => some (wipeE en2 vs, [])
    | none => none
  | none => none
theorem lcB_nop {mo : Nat → List Bool} {cf : CF} {t : Tg} {e : ME} {vs : List Nat} {x : D} {en en1 en3 : En} {r : RV} (h1 : tgA t x (wipeE en vs) = some en1) (h2 : evR mo cf e en1 = some (en3, r)) : lcB mo cf t .nop e vs x en = some (wipeE en3 vs, [r.fz]) := by
  simp only [lcB, h1, tst, h2]
theorem q_lcT {mo : Nat → List Bool} {cf : CF} {t : Tg} {it c e : ME} {vs : List Nat} {env e1 e2 : En} {xs zs : List D} (h1 : evI mo cf it env = some (e1, xs)) (w : wipeOk e1 vs = true) (h2 : turns (lcB mo cf t c e vs) xs (wipeE e1 vs) = some (e2, zs)) (l : zs.length ≤ 1000000) :
    evR mo cf (.lc t it c e vs) env = some (unwipe e1 e2 vs, .own zs) := by
  have q : evR mo cf (.lc t it c e vs) env = (match evI mo cf it env with
    | some (e1, xs) => if wipeOk e1 vs then match turns (lcB mo cf t c e vs) xs (wipeE e1 vs) with
        | some (e2, ds) => if lenOk ds.length then some (unwipe e1 e2 vs, .own ds) else none
        | none => none
      else none
    | none => none) := by
    rw [evR]
    rfl
  rw [q, h1]
  simp only [w, h2, lenOk, l, decide_true, if_true]
/-! ### depth -/
theorem depL_le {n : Nat} : ∀ {xs : List D}, depL xs ≤ n ↔ ∀ x ∈ xs, dep x ≤ n
  | [] => by simp [depL]
  | x :: xs => by
    have h := depL_le (n := n) (xs := xs)
    rw [depL, Nat.max_le, h]
    simp
end MP

set_option Elab.async false
set_option linter.all false
set_option maxRecDepth 100000
/-! Comprehensions that leave the names just as they were. -/
namespace MP
theorem unwipe_len3 (e e' : En) : ∀ vs, (unwipe e e' vs).length = e'.length
  | [] => rfl
  | v :: vs => by rw [unwipe, List.length_set, unwipe_len3 e e' vs]
theorem wipe_len (e : En) : ∀ vs, (wipeE e vs).length = e.length
  | [] => rfl
  | v :: vs => by rw [wipeE, List.length_set, wipe_len e vs]
theorem wipe_out (e : En) (i : Nat) : ∀ vs, i ∉ vs → (wipeE e vs)[i]? = e[i]?
  | [], _ => rfl
  | v :: vs, h => by
    rw [wipeE, List.getElem?_set, if_neg (show ¬ v = i from fun q => h (by rw [q]; exact List.mem_cons_self))]
    exact wipe_out e i vs fun q => h (List.mem_cons_of_mem _ q)
theorem unwipe_of (e e' : En) (hl : e'.length = e.length) : ∀ vs, (∀ i, i ∉ vs → e'[i]? = e[i]?) → unwipe e e' vs = e
  | [], h => List.ext_getElem? fun i => h i (fun q => nomatch q)
  | v :: vs, h => by
    have key : ∀ vs i, (unwipe e e' vs)[i]? = if i ∈ vs then e[i]? else e'[i]? := by
      intro vs
      induction vs with
      | nil => intro i; rw [if_neg (fun q => nomatch q)]; rfl
      | cons v vs ih =>
        intro i
        rw [unwipe, List.getElem?_set, ih i, unwipe_len3]
        by_cases q : v = i
        · subst q
          rw [if_pos rfl, if_pos List.mem_cons_self]
          by_cases l : v < e'.length
          · rw [if_pos l, List.getElem?_eq_getElem (by omega)]
            rfl
          · rw [if_neg l, List.getElem?_eq_none (by omega)]
        · rw [if_neg q]
          by_cases m : i ∈ vs
          · rw [if_pos m, if_pos (List.mem_cons_of_mem _ m)]
          · rw [if_neg m, if_neg fun z => (List.mem_cons.mp z).elim (fun z => q z.symm) m]
    refine List.ext_getElem? fun i => ?_
    rw [key]
    split
    · rfl
    · exact h i (by assumption)
theorem unwipe_wipe (e : En) (vs : List Nat) : unwipe e (wipeE e vs) vs = e := unwipe_of e _ (wipe_len e vs) vs fun i h => wipe_out e i vs h
/-- an item's value, the names wiped behind it -/
def OneE (mo : Nat → List Bool) (cf : CF) (e : ME) (vs : List Nat) (w en : En) (y : D) : Prop := ∃ en3 r, evR mo cf e en = some (en3, r) ∧ wipeE en3 vs = w ∧ r.fz = y
def OneM (mo : Nat → List Bool) (cf : CF) (t : Tg) (e : ME) (vs : List Nat) (w : En) (x y : D) : Prop := ∃ en1, tgA t x (wipeE w vs) = some en1 ∧ OneE mo cf e vs w en1 y
def OneA (mo : Nat → List Bool) (cf : CF) (t : Tg) (c e : ME) (vs : List Nat) (w : En) (x : D) (p : Bool) (y : D) : Prop := ∃ en1 en2, tgA t x (wipeE w vs) = some en1 ∧ tst c (evR mo cf c en1) en1 = some (en2, p) ∧ wipeE en2 vs = w ∧ (p = true → OneE mo cf e vs w en2 y)
section
variable {mo : Nat → List Bool} {cf : CF}
theorem OneE.mk {e : ME} {vs : List Nat} {w en en3 : En} {r : RV} {y : D} (h1 : evR mo cf e en = some (en3, r)) (h2 : wipeE en3 vs = w) (h3 : r.fz = y) : OneE mo cf e vs w en y := ⟨en3, r, h1, h2, h3⟩
theorem OneM.mk {t : Tg} {e : ME} {vs : List Nat} {w en en3 : En} {r : RV} {x y : D} (h0 : tgA t x (wipeE w vs) = some en) (h1 : evR mo cf e en = some (en3, r)) (h2 : wipeE en3 vs = w) (h3 : r.fz = y) : OneM mo cf t e vs w x y := ⟨en, h0, en3, r, h1, h2, h3⟩
theorem OneA.mk {t : Tg} {c e : ME} {vs : List Nat} {w en1 en2 : En} {p : Bool} {x y : D} (h0 : tgA t x (wipeE w vs) = some en1) (h1 : tst c (evR mo cf c en1) en1 = some (en2, p)) (h2 : wipeE en2 vs = w) (h3 : p = true → OneE mo cf e vs w en2 y) : OneA mo cf t c e vs w x p y := ⟨en1, en2, h0, h1, h2, h3⟩
/-- each item's value -/
theorem q_M {α : Type} (as : List α) (f : α → D) {g : α → D} {t : Tg} {it e : ME} {vs : List Nat} {env e1 : En} (h1 : evI mo cf it env = some (e1, as.map f)) (w : wipeOk e1 vs = true) (l : as.length ≤ 1000000)
    (hb : ∀ a ∈ as, OneM mo cf t e vs (wipeE e1 vs) (f a) (g a)) :
    evR mo cf (.lc t it .nop e vs) env = some (e1, .own (as.map g)) := by
  have := q_lcM (mo := mo) (cf := cf) (as := as) (f := f) (g := g) (t := t) (e := e) (vs := vs) h1 w (fun a ha => by
    obtain ⟨en1, k0, en3, r, k1, k2, k3⟩ := hb a ha
    exact ⟨en1, en3, r, k0, k1, k2, k3⟩) l
  rwa [unwipe_wipe] at this
/-- those that pass -/
theorem q_A {α : Type} (as : List α) (f : α → D) {g : α → D} {p : α → Bool} {t : Tg} {it c e : ME} {vs : List Nat} {env e1 : En} (h1 : evI mo cf it env = some (e1, as.map f)) (w : wipeOk e1 vs = true) (l : as.length ≤ 1000000)
    (hb : ∀ a ∈ as, OneA mo cf t c e vs (wipeE e1 vs) (f a) (p a) (g a)) :
    evR mo cf (.lc t it c e vs) env = some (e1, .own ((as.filter p).map g)) := by
  have := q_lcA (mo := mo) (cf := cf) (as := as) (f := f) (g := g) (p := p) (t := t) (c := c) (e := e) (vs := vs) h1 w (fun a ha => by
    obtain ⟨en1, en2, k0, k1, k2, k3⟩ := hb a ha
    exact ⟨en1, en2, k0, k1, k2, k3⟩) l
  rwa [unwipe_wipe] at this
/-- two clauses, the inner one with a test -/
def Two (mo : Nat → List Bool) (cf : CF) {β : Type} (t : Tg) (it2 : ME) (t2 : Tg) (c2 e : ME) (vs vs2 : List Nat) (w : En) (x : D) (bs : List β) (f2 g : β → D) (p : β → Bool) : Prop := ∃ (en1 en3 : En), tgA t x (wipeE w vs) = some en1 ∧ evI mo cf it2 en1 = some (en3, bs.map f2) ∧ wipeE (wipeE en3 vs2) vs = w ∧ ∀ b ∈ bs, OneA mo cf t2 c2 e vs2 (wipeE en3 vs2) (f2 b) (p b) (g b)
theorem Two.mk {β : Type} {t : Tg} {it2 : ME} {t2 : Tg} {c2 e : ME} {vs vs2 : List Nat} {w en1 en3 : En} {x : D} {bs : List β} {f2 g : β → D} {p : β → Bool} (h0 : tgA t x (wipeE w vs) = some en1) (h1 : evI mo cf it2 en1 = some (en3, bs.map f2)) (h2 : wipeE (wipeE en3 vs2) vs = w) (h3 : ∀ b ∈ bs, OneA mo cf t2 c2 e vs2 (wipeE en3 vs2) (f2 b) (p b) (g b)) : Two mo cf t it2 t2 c2 e vs vs2 w x bs f2 g p := ⟨en1, en3, h0, h1, h2, h3⟩
theorem q_2 {α β : Type} (as : List α) (f : α → D) (bs : α → List β) (f2 : α → β → D) {g : α → β → D} {p : α → β → Bool} {t t2 : Tg} {it it2 c2 e : ME} {vs vs2 : List Nat} {env e1 : En} (h1 : evI mo cf it env = some (e1, as.map f)) (w : wipeOk e1 vs = true)
    (hb : ∀ a ∈ as, Two mo cf t it2 t2 c2 e vs vs2 (wipeE e1 vs) (f a) (bs a) (f2 a) (g a) (p a)) (l : (as.flatMap fun a => ((bs a).filter (p a)).map (g a)).length ≤ 1000000) :
    evR mo cf (.lc2 t it .nop t2 it2 c2 e vs vs2) env = some (e1, .own (as.flatMap fun a => ((bs a).filter (p a)).map (g a))) := by
  have := q_lc2A (mo := mo) (cf := cf) (β := β) (c2 := c2) (e := e) (it2 := it2) (t2 := t2) (vs2 := vs2) (ff := fun a => ((bs a).filter (p a)).map (g a)) h1 w (fun a ha => by
    obtain ⟨en1, en3, k1, k2, k4, k3⟩ := hb a ha
    exact ⟨en1, en3, bs a, f2 a, g a, p a, k1, k2, fun b hb => by
      obtain ⟨em1, em2, j0, j1, j2, j3⟩ := k3 b hb
      exact ⟨em1, em2, j0, j1, j2, j3⟩, k4, rfl⟩) l
  rwa [unwipe_wipe] at this
/-- a set of two clauses, sorted -/
theorem ss_of {t t2 : Tg} {it c it2 c2 e : ME} {vs vs2 : List Nat} {env env' : En} {ds : List D} {r : RV} (h : evR mo cf (.lc2 t it c t2 it2 c2 e vs vs2) env = some (env', .own ds)) (k : (allS ds || allI ds) = true) (hb : biD .sortedset [.lst ds] = some r) :
    evR mo cf (.ss2 t it c t2 it2 c2 e vs vs2) env = some (env', r) := by
  simp only [evR] at h ⊢
  split at h
  case h_2 => cases h
  rename_i e1 xs h1
  split at h
  case isFalse => cases h
  rename_i h2
  split at h
  case h_2 => cases h
  rename_i e2 ds' h3
  split at h
  case isFalse => cases h
  rename_i h4
  cases h
  simp only [h1, h2, h3, h4, k, hb, if_true, Bool.and_self]
end
end MP

set_option Elab.async false
set_option linter.all false
set_option maxRecDepth 100000
/-! What several laws share: places in rows, rows of just some names, sorting. -/
namespace MP
abbrev Row := List (List Nat)
abbrev Pm (l : List D) : Option SV := some (.own true l)
abbrev S (d : D) : Option SV := some (.sh d)
abbrev O (l : List D) : Option SV := some (.own false l)
abbrev sm (o : Option D) : Option SV := o.map SV.sh
abbrev om (o : Option (List D)) : Option SV := o.map (SV.own false)
def isS (d : D) : Bool := [Ty.str].any fun c => isTy c d
def rowB (ks : Row) : D → Bool
  | .tup xs => xs.all isS && eqD (.lst (isort xs)) (.lst (isort (ks.map D.str)))
  | _ => false
theorem all_isS : ∀ {xs : List D}, xs.all isS = true → ∃ ss : List (List Nat), xs = ss.map D.str
  | [], _ => ⟨[], rfl⟩
  | x :: xs, h => by
    rw [List.all_cons, Bool.and_eq_true] at h
    obtain ⟨ss, rfl⟩ := all_isS h.2
    cases x with
    | str s => exact ⟨s :: ss, rfl⟩
    | _ => have z : false = true := h.1; cases z
theorem allS_str : ∀ ss : List (List Nat), allS (ss.map D.str) = true
  | [] => rfl
  | _ :: ss => allS_str ss
theorem sort_strs (ss : List (List Nat)) : ∃ ws : List (List Nat), isort (ss.map D.str) = ws.map D.str ∧ ws.length = ss.length := by
  obtain ⟨ws, e⟩ := lift_map (f := D.str) (l := isort (ss.map D.str)) fun x hx => by
    obtain ⟨w, _, rfl⟩ := List.mem_map.mp (isort_mem hx)
    exact ⟨w, rfl⟩
  refine ⟨ws, e, ?_⟩
  have := isort_len (ss.map D.str)
  rw [e, List.length_map, List.length_map] at this
  exact this
theorem b_sortT (ss : List (List Nat)) : biD .sorted [.tup (ss.map D.str)] = some (.own (isort (ss.map D.str))) := by
  simp only [biD, allS_str, if_true]
theorem all_any (xs : List D) : (xs.map fun x => D.bl (isS x)).all isB = xs.all isS := by
  rw [List.all_map]
  congr 1
  funext x
  show isB (.bl (isS x)) = isS x
  cases isS x <;> rfl
def posS (x : List Nat) : Row → Nat
  | [] => 0
  | y :: r => if y = x then 0 else posS x r + 1
theorem posL_str : ∀ {ss : Row} {x : List Nat}, x ∈ ss → posL (.str x) (ss.map D.str) = some (posS x ss)
  | y :: r, x, h => by
    show (if eqD (.str y) (.str x) = true then some 0 else (posL (.str x) (r.map D.str)).map (· + 1)) = _
    by_cases e : y = x
    · subst e
      have : eqD (.str y) (.str y) = true := by show (y == y) = true; simp
      rw [if_pos this]
      show _ = some (if y = y then 0 else _)
      rw [if_pos rfl]
    · have : ¬ eqD (.str y) (.str x) = true := by show ¬ (y == x) = true; simpa using e
      rw [if_neg this, posL_str ((List.mem_cons.mp h).resolve_left fun z => e z.symm)]
      show _ = some (if y = x then 0 else _)
      rw [if_neg e]
      rfl
theorem eqL_strs : ∀ {a b : Row}, eqL (a.map D.str) (b.map D.str) = true → a = b
  | [], [], _ => rfl
  | [], _ :: _, h => by cases h
  | _ :: _, [], h => by cases h
  | x :: a, y :: b, h => by
    have h : (x == y && eqL (a.map D.str) (b.map D.str)) = true := h
    rw [Bool.and_eq_true] at h
    rw [eq_of_beq h.1, eqL_strs h.2]
theorem eqL_self : ∀ a : Row, eqL (a.map D.str) (a.map D.str) = true
  | [] => rfl
  | x :: a => by
    show (x == x && eqL (a.map D.str) (a.map D.str)) = true
    rw [eqL_self a]; simp
/-- a row of just these names -/
theorem row_perm {ks : Row} {d : D} : rowB ks d = true ↔ ∃ ss : Row, d = .tup (ss.map D.str) ∧ ss.Perm ks := by
  constructor
  · intro h
    cases d with
    | tup xs =>
      have h : (xs.all isS && eqD (.lst (isort xs)) (.lst (isort (ks.map D.str)))) = true := h
      rw [Bool.and_eq_true] at h
      obtain ⟨ss, rfl⟩ := all_isS h.1
      refine ⟨ss, rfl, ?_⟩
      have e := h.2
      rw [isort_str, isort_str] at e
      have := eqL_strs (show eqL ((sortT ss).map D.str) ((sortT ks).map D.str) = true from e)
      exact (sortT_perm ss).symm.trans (this ▸ sortT_perm ks)
    | _ => cases h
  · rintro ⟨ss, rfl, p⟩
    show ((ss.map D.str).all isS && eqD (.lst (isort (ss.map D.str))) (.lst (isort (ks.map D.str)))) = true
    rw [isort_str, isort_str]
    have e : sortT ss = sortT ks := sortT_uniq ((sortT_perm ss).trans p) (sortT_sorted ss)
    rw [e, Bool.and_eq_true]
    refine ⟨?_, eqL_self _⟩
    rw [List.all_map]
    exact List.all_eq_true.mpr fun _ _ => rfl
def unS : D → List Nat
  | .str s => s
  | _ => []
theorem unS_map (ss : Row) : (ss.map D.str).map unS = ss := by
  rw [List.map_map]
  exact List.map_id ss
theorem depL_strs1 (ss : Row) : shal (.tup (ss.map D.str)) = true := by simp only [shal, dep, depL_strs]; decide
theorem allB_of {α : Type} (f : α → Bool) : ∀ l : List α, allB (l.map fun p => D.bl (f p)) = true
  | [] => rfl
  | _ :: l => allB_of f l
theorem depL_filter (p : D → Bool) : ∀ xs : List D, depL (xs.filter p) ≤ depL xs
  | [] => Nat.le_refl _
  | x :: xs => by
    have := depL_filter p xs
    rw [List.filter_cons]
    split <;> simp only [depL] <;> omega
theorem eqL_nil (xs : List D) : eqL xs [] = xs.isEmpty := by cases xs <;> rfl
theorem none_but {p : D → Bool} : ∀ xs : List D, (xs.filter fun x => !(p x)).isEmpty = xs.all p
  | [] => rfl
  | x :: xs => by
    rw [List.filter_cons, List.all_cons, ← none_but xs]
    cases p x <;> rfl
theorem b_sortL {xs : List D} (h : allS xs = true) : biD .sorted [.lst xs] = some (.own (isort xs)) := by
  cases h2 : allI xs <;> simp only [biD, h, h2, if_true, Bool.false_eq_true, if_false]
def rowX (t : Bool) (r : Row) : D := sq t (r.map D.str)
theorem last_iff {p : List Nat → Bool} : ∀ {ss : Row} {x : List Nat}, ss.Nodup → x ∈ ss → p x = true → ((ss.filter p).getLast? = some x ↔ ∀ l ∈ ss, p l = true → l ≠ x → posS l ss < posS x ss)
  | [], _, _, h, _ => by cases h
  | y :: r, x, nd, hx, px => by
    have nd' := List.nodup_cons.mp nd
    by_cases e : y = x
    · subst e
      have p0 : posS y (y :: r) = 0 := by unfold posS; rw [if_pos rfl]
      rw [p0, List.filter_cons, if_pos px]
      constructor
      · intro h l hl pl ne
        exfalso
        have hr : l ∈ r.filter p := List.mem_filter.mpr ⟨(List.mem_cons.mp hl).resolve_left ne, pl⟩
        have hne : r.filter p ≠ [] := List.ne_nil_of_mem hr
        rw [List.getLast?_cons_of_ne_nil hne] at h
        exact nd'.1 (List.mem_filter.mp (List.mem_of_getLast? h)).1
      · intro h
        have : r.filter p = [] := List.filter_eq_nil_iff.mpr fun l hl pl => by
          have := h l (List.mem_cons_of_mem _ hl) pl fun z => nd'.1 (z ▸ hl)
          omega
        rw [this]
        rfl
    · have hxr : x ∈ r := (List.mem_cons.mp hx).resolve_left fun z => e z.symm
      have hne : r.filter p ≠ [] := List.ne_nil_of_mem (List.mem_filter.mpr ⟨hxr, px⟩)
      have px1 : posS x (y :: r) = posS x r + 1 := by
        show (if y = x then 0 else posS x r + 1) = _
        rw [if_neg e]
      have lh : ((y :: r).filter p).getLast? = (r.filter p).getLast? := by
        rw [List.filter_cons]
        split
        · exact List.getLast?_cons_of_ne_nil hne
        · rfl
      rw [lh, last_iff nd'.2 hxr px, px1]
      constructor
      · intro h l hl pl ne
        show (if y = l then 0 else posS l r + 1) < _
        by_cases q : y = l
        · rw [if_pos q]; omega
        · rw [if_neg q]
          have := h l ((List.mem_cons.mp hl).resolve_left fun z => q z.symm) pl ne
          omega
      · intro h l hl pl ne
        have := h l (List.mem_cons_of_mem _ hl) pl ne
        have q : ¬ y = l := fun z => nd'.1 (z ▸ hl)
        have e2 : posS l (y :: r) = posS l r + 1 := by
          show (if y = l then 0 else posS l r + 1) = _
          rw [if_neg q]
        omega
/-- what was seen is shown just if all that lie over its cell lie below it -/
theorem cut_suf {α : Type} (xs : List α) (n : Nat) : cut xs (some (n : Int)) none = xs.drop n := by
  have e : bnd xs.length 0 (some (n : Int)) = min n xs.length := by
    show (if (n : Int) < 0 then ((n : Int) + (xs.length : Int)).toNat else min (Int.toNat n) xs.length) = _
    rw [if_neg (by omega)]; rfl
  show List.take (xs.length - bnd xs.length 0 (some (n : Int))) (xs.drop (bnd xs.length 0 (some (n : Int)))) = _
  rw [e]
  rcases Nat.le_total n xs.length with h | h
  · rw [Nat.min_eq_left h, List.take_of_length_le (by rw [List.length_drop]; exact Nat.le_refl _)]
  · rw [Nat.min_eq_right h, List.drop_length, List.take_nil, List.drop_eq_nil_of_le h]
theorem mem_ins' {a x : D} : ∀ {l : List D}, x ∈ ins a l ↔ x = a ∨ x ∈ l
  | [] => by simp [ins]
  | y :: ys => by
    unfold ins
    split
    · rw [List.mem_cons, mem_ins', List.mem_cons]
      constructor
      · rintro (h | h | h)
        · exact .inr (.inl h)
        · exact .inl h
        · exact .inr (.inr h)
      · rintro (h | h | h)
        · exact .inr (.inl h)
        · exact .inl h
        · exact .inr (.inr h)
    · exact List.mem_cons
theorem mem_isort {x : D} : ∀ {l : List D}, x ∈ isort l ↔ x ∈ l
  | [] => Iff.rfl
  | y :: ys => by
    show x ∈ ins y (isort ys) ↔ _
    rw [mem_ins', mem_isort, List.mem_cons]
theorem cmp_strs : ∀ a b : Row, cmpI (a.map D.str) (b.map D.str) = true
  | [], _ => by simp [cmpI]
  | _ :: _, [] => rfl
  | x :: a, y :: b => by
    show (if (x == y) = true then cmpI (a.map D.str) (b.map D.str) else true) = true
    split
    · exact cmp_strs a b
    · rfl
theorem flat_strs (a : Row) : (a.map D.str).all flatI = true := by
  rw [List.all_map]
  exact List.all_eq_true.mpr fun _ _ => rfl
theorem b_sortR {xs : List D} (h : allT xs = true) : biD .sorted [.lst xs] = some (.own (isort xs)) := by
  cases h1 : allI xs <;> cases h2 : allS xs <;> simp only [biD, h, h1, h2, if_true, Bool.false_eq_true, if_false]
theorem rowX_inj {t : Bool} {a b : Row} (h : rowX t a = rowX t b) : a = b := by
  have : a.map D.str = b.map D.str := by
    cases t
    · exact D.lst.inj h
    · exact D.tup.inj h
  have := congrArg (List.map unS) this
  rwa [unS_map, unS_map] at this
theorem snoc_split {α : Type} {dn a b : List α} {r y : α} : dn ++ [r] = a ++ y :: b ↔ (b = [] ∧ a = dn ∧ y = r) ∨ ∃ b', b = b' ++ [r] ∧ dn = a ++ y :: b' := by
  rcases List.eq_nil_or_concat b with rfl | ⟨b', z, rfl⟩
  · constructor
    · intro h
      obtain ⟨h1, h2⟩ := List.append_inj' h rfl
      exact .inl ⟨rfl, h1.symm, (List.cons.inj h2).1.symm⟩
    · rintro (⟨_, rfl, rfl⟩ | ⟨b', h, _⟩)
      · rfl
      · simp at h
  · rw [List.concat_eq_append]
    constructor
    · intro h
      rw [← List.cons_append, ← List.append_assoc] at h
      obtain ⟨h1, h2⟩ := List.append_inj' h rfl
      cases (List.cons.inj h2).1
      exact .inr ⟨b', rfl, h1⟩
    · rintro (⟨h, _⟩ | ⟨b'', h, rfl⟩)
      · simp at h
      · rw [h]; simp
theorem w_par3 {mo : Nat → List Bool} {cf : CF} {Q : Fl → Prop} {i j k : Nat} {a b c : ME} {r : MS} {env e1 e2 e3 e4 e5 e6 : En} {ra rb rc : RV} (h1 : evR mo cf a env = some (e1, ra)) (h2 : evR mo cf b e1 = some (e2, rb)) (h3 : evR mo cf c e2 = some (e3, rc)) (h4 : put e3 i ra.sv = some e4) (h5 : put e4 j rb.sv = some e5) (h6 : put e5 k rc.sv = some e6) (q : WP (exS mo cf r e6) Q) : WP (exS mo cf (.cons (.par3 i j k a b c) r) env) Q :=
  w_nx (by simp only [exS, h1, h2, h3, h4, h5, h6]) q
theorem asc_nodup {ss : Row} (h : Asc ss) : ss.Nodup := List.Pairwise.imp (fun {a b} h e => by
  rw [e, lt_irr] at h
  cases h) h
theorem asc_isort {ss : Row} (h : Asc ss) : isort (ss.map D.str) = ss.map D.str := by rw [sort_map, sort_asc h]

theorem ins_perm (x : D) : ∀ l : List D, (ins x l).Perm (x :: l)
  | [] => List.Perm.refl _
  | y :: ys => by
    unfold ins
    split
    · exact ((ins_perm x ys).cons y).trans (List.Perm.swap x y ys)
    · exact List.Perm.refl _
theorem isort_perm : ∀ l : List D, (isort l).Perm l
  | [] => List.Perm.refl _
  | y :: ys => (ins_perm y (isort ys)).trans ((isort_perm ys).cons y)
section
variable {mo : Nat → List Bool} {cf : CF}
/-! ### a row of just some names -/
def FIsRow : MF := { np := 2, nn := 3, mu := [false, false], body :=
  (.cons (.ite (.or (.not (.isi (.var 1) [.tuple] true)) (.one (.not (.bi .all (.cons (.lc (.nm 2) (.seq (.var 1)) .nop (.isi (.var 2) [.str] true) [2]) .nil))))) (.cons (.ret (.k (.bl false)))
  .nil) .nil)
  (.cons (.ret (.cmp .eq (.bi .sorted (.cons (.var 1) .nil)) (.bi .sorted (.cons (.var 0) .nil))))
  .nil)) }
theorem isrow_g (ks : Row) (d : D) (hd : ∀ xs, d ≠ .duo xs) (hl : ∀ xs, d = .tup xs → xs.length ≤ 1000000) : runF mo cf FIsRow [.sh (.tup (ks.map D.str)), .sh d] = some (.sh (.bl (rowB ks d)), []) := by
  cases d with
  | duo xs => exact absurd rfl (hd xs)
  | tup xs =>
    refine fp_eq ?_
    refine f_run rfl ?_
    have hlc : evR mo cf (.lc (.nm 2) (.seq (.var 1)) .nop (.isi (.var 2) [.str] true) [2]) [S (.tup (ks.map D.str)), S (.tup xs), none] = some ([S (.tup (ks.map D.str)), S (.tup xs), none], .own (xs.map fun x => D.bl (isS x))) :=
      q_lcM (vs := [2]) (as := xs) (f := fun x => x) (g := fun x => D.bl (isS x)) (e1 := [S (.tup (ks.map D.str)), S (.tup xs), none]) (by rw [List.map_id' xs]; exact i_seq (r := .sh (.tup xs)) rfl (.inr (.inl rfl))) rfl (fun x _ => ⟨[S (.tup (ks.map D.str)), S (.tup xs), S x], _, .sh (.bl (isS x)), rfl, rfl, rfl, rfl⟩) (hl xs rfl)
    refine w_ite (t := !(xs.all isS)) (e1 := [S (.tup (ks.map D.str)), S (.tup xs), none]) ?_ (fun h => ?_) fun h => w_nil ?_
    · refine t_dv (q_orb (p := false) (q := !(xs.all isS)) rfl fun _ => q_one ?_) rfl (by rw [Bool.false_or]; rfl)
      refine (q_not (x := .bl (xs.all isS)) (o_dv (q_bi (op_cons (o_dv hlc rfl) rfl) rfl (b_all (allB_bl _ xs))) rfl) ?_)
      rw [all_any]
      rfl
    · have : xs.all isS = false := by simpa using h
      refine w_rete rfl rfl ⟨_, rfl, ?_, rfl⟩
      show RV.sh (.bl false) = .sh (.bl (xs.all isS && _))
      rw [this]
      rfl
    · have hx : xs.all isS = true := by simpa using h
      obtain ⟨ss, rfl⟩ := all_isS hx
      obtain ⟨ws, e1, _⟩ := sort_strs ss
      obtain ⟨us, e2, _⟩ := sort_strs ks
      apply w_rete (v := .sh (.bl (eqD (.lst (isort (ss.map D.str))) (.lst (isort (ks.map D.str))))))
      · refine q_cmp (x := .lst (isort (ss.map D.str))) (y := .lst (isort (ks.map D.str))) (o_dv (q_bi (op_cons rfl rfl) rfl (b_sortT ss)) rfl) (o_dv (q_bi (op_cons rfl rfl) rfl (b_sortT ks)) rfl) rfl rfl ?_
        have d1 : shal (.lst (isort (ss.map D.str))) = true := by rw [e1]; simp only [shal, dep, depL_strs]; decide
        have d2 : shal (.lst (isort (ks.map D.str))) = true := by rw [e2]; simp only [shal, dep, depL_strs]; decide
        simp only [cmpD, d1, d2, Bool.and_self, if_true]
      · rfl
      · refine ⟨_, rfl, ?_, rfl⟩
        show RV.sh (.bl _) = .sh (.bl ((ss.map D.str).all isS && eqD _ _))
        rw [hx, Bool.true_and]
  | _ => rfl
end
/-! ### lists for tuples, at every depth -/
mutual
def lsD : D → D
  | .lst xs => .lst (lsL xs)
  | .tup xs => .lst (lsL xs)
  | d => d
def lsL : List D → List D
  | [] => []
  | x :: xs => lsD x :: lsL xs
end
theorem lsL_map : ∀ xs : List D, lsL xs = xs.map lsD
  | [] => rfl
  | x :: xs => by rw [lsL, lsL_map xs]; rfl
theorem lsD_sq (b : Bool) (xs : List D) : lsD (sq b xs) = .lst (xs.map lsD) := by
  cases b
  · show D.lst (lsL xs) = _
    rw [lsL_map]
  · show D.lst (lsL xs) = _
    rw [lsL_map]
/-- what it gives: a list of its own, or the thing as it is -/
def lsR : D → RV
  | .lst xs => .own (xs.map lsD)
  | .tup xs => .own (xs.map lsD)
  | d => .sh d
theorem lsR_fz (d : D) : (lsR d).fz = lsD d := by
  cases d with
  | lst xs => exact (lsD_sq false xs).symm
  | tup xs => exact (lsD_sq true xs).symm
  | _ => rfl
theorem pl_sq_iff {k : Nat} {b : Bool} {xs : List D} : pl (k + 1) (sq b xs) = true ↔ xs.length ≤ 1000000 ∧ ∀ x ∈ xs, pl k x = true := by
  have : pl (k + 1) (sq b xs) = (decide (xs.length ≤ 1000000) && xs.all (pl k)) := by cases b <;> rfl
  rw [this, Bool.and_eq_true, decide_eq_true_eq, List.all_eq_true]
theorem lists_all {T : List MF} {k : Nat} (hc : ∀ n a, callI T (n + 1) k a = runF (moT T) (callI T n) (FLists k) a) (hm : moT T k = [false]) : ∀ (j n : Nat) (d : D), pl j d = true → callI T (n + j + 1) k [.sh d] = some (lsR d, []) := by
  have key : ∀ (j n : Nat) (b : Bool) (xs : List D), (∀ (n : Nat) (d : D), pl j d = true → callI T (n + j + 1) k [.sh d] = some (lsR d, [])) → pl (j + 1) (sq b xs) = true → callI T (n + (j + 1) + 1) k [.sh (sq b xs)] = some (.own (xs.map lsD), []) := fun j n b xs ih h => by
    obtain ⟨h1, h2⟩ := pl_sq_iff.mp h
    rw [hc]
    have := lists_g (mo := moT T) (cf := callI T (n + (j + 1))) (k := k) hm b xs (fun x => x) lsD h1 fun x hx => ⟨_, ih n x (h2 x hx), lsR_fz x⟩
    rwa [List.map_id'] at this
  intro j
  induction j with
  | zero =>
    intro n d h
    rw [hc]
    cases d with
    | lst xs => cases h
    | tup xs => cases h
    | scr xs => cases h
    | duo xs => cases h
    | _ => rfl
  | succ j ih =>
    intro n d h
    cases d with
    | lst xs => exact key j n false xs ih h
    | tup xs => exact key j n true xs ih h
    | scr xs => cases h
    | duo xs => cases h
    | _ => rw [hc]; rfl
theorem pl_up : ∀ {k k' : Nat} {d : D}, k ≤ k' → pl k d = true → pl k' d = true := by
  have key : ∀ (k k' : Nat) (b : Bool) (xs : List D), (∀ {k' : Nat} {d : D}, k ≤ k' → pl k d = true → pl k' d = true) → k + 1 ≤ k' → pl (k + 1) (sq b xs) = true → pl k' (sq b xs) = true := fun k k' b xs ih hk h => by
    obtain ⟨h1, h2⟩ := pl_sq_iff.mp h
    cases k' with
    | zero => omega
    | succ k' => exact pl_sq_iff.mpr ⟨h1, fun x hx => ih (by omega) (h2 x hx)⟩
  intro k
  induction k with
  | zero =>
    intro k' d hk h
    cases d <;> first | (cases k' <;> rfl) | cases h
  | succ k ih =>
    intro k' d hk h
    cases d with
    | lst xs => exact key k k' false xs ih hk h
    | tup xs => exact key k k' true xs ih hk h
    | scr xs => cases h
    | duo xs => cases h
    | _ => cases k' <;> rfl
/-! ### FENCEs as lists -/
theorem lsD_strs (ss : Row) : (ss.map D.str).map lsD = ss.map D.str := by
  rw [List.map_map]
  rfl
theorem lsD_row (b : Bool) (ss : Row) : lsD (rowX b ss) = rowX false ss := by
  show lsD (sq b _) = _
  rw [lsD_sq, lsD_strs]
  rfl
theorem lsD_bill (b : Bool) (p : Bill) : lsD (billX b p) = billX false p := by
  show lsD (sq b _) = _
  rw [lsD_sq]
  rfl
theorem lsD_fence (b : Bool) (ps : List Bill) : lsD (fenceX b ps) = fenceX false ps := by
  show lsD (sq b _) = _
  rw [lsD_sq, List.map_map]
  show D.lst (ps.map fun p => lsD (billX b p)) = _
  rw [show (fun p => lsD (billX b p)) = billX false from funext fun p => lsD_bill b p]
  rfl
theorem pl_row (b : Bool) (ss : Row) (h : ss.length ≤ 1000000) : pl 1 (rowX b ss) = true := pl_sq_iff.mpr ⟨by rw [List.length_map]; exact h, fun x hx => by
  obtain ⟨s, _, rfl⟩ := List.mem_map.mp hx
  rfl⟩
theorem pl_bill (b : Bool) (p : Bill) : pl 1 (billX b p) = true := pl_sq_iff.mpr ⟨by simp, fun x hx => by
  simp only [List.mem_cons, List.not_mem_nil, or_false] at hx
  rcases hx with rfl | rfl | rfl <;> rfl⟩
theorem pl_fence (b : Bool) (ps : List Bill) (h : ps.length ≤ 1000000) : pl 2 (fenceX b ps) = true := pl_sq_iff.mpr ⟨by rw [List.length_map]; exact h, fun x hx => by
  obtain ⟨p, _, rfl⟩ := List.mem_map.mp hx
  exact pl_bill b p⟩
/-! ### names picked -/
def namesS (ps : List Bill) : Row := ps.map Prod.fst
theorem namesS_len (ps : List Bill) : (namesS ps).length = ps.length := List.length_map ..
theorem tagsD_names (ps : List Bill) : tagsD ps = (namesS ps).map D.str := tagsD_eq ps
/-- names in a drawn order: so many of them at most -/
theorem pick_row {cf : CF} {k : Nat} (hp : Pick2 cf k) (N : Nat) (ds : List D) (ks : Row) (b : Bool) (sz : Int) (hb : Box N ds) (hN : N ≤ 100000000) (hl : ks.length ≤ 1000) (hs : 0 ≤ sz) :
    ∃ (os rs : Row) (ds' : List D), cf k [.mu ds, .sh (rowX b ks), .sh (.int sz)] = some (.own (os.map D.str), [ds']) ∧ (rs ++ os).Perm ks ∧ (os.length : Int) = (if (ks.length : Int) < sz then (ks.length : Int) else sz) ∧ Box (N + ks.length) ds' := by
  obtain ⟨out, rs, d1, e1, l1, p1, b1⟩ := hp N ds (ks.map D.str) b sz hb hN (by rw [List.length_map]; exact hl) hs
  obtain ⟨os, rfl, _⟩ := texts_lift p1
  obtain ⟨qs, rfl⟩ := lift_map (f := D.str) (l := rs) fun x hx => by
    obtain ⟨s, _, rfl⟩ := List.mem_map.mp (p1.mem_iff.mp (List.mem_append_left _ hx))
    exact ⟨s, rfl⟩
  rw [List.length_map] at l1 b1
  rw [List.length_map] at l1
  refine ⟨os, qs, d1, e1, ?_, l1, b1⟩
  have := p1.map unS
  rw [← List.map_append, unS_map, unS_map] at this
  exact this
/-- all of them -/
theorem pick_whole {cf : CF} {k : Nat} (hp : Pick2 cf k) (N : Nat) (ds : List D) (ks : Row) (b : Bool) (sz : Int) (hb : Box N ds) (hN : N ≤ 100000000) (hl : ks.length ≤ 1000) (hs : (ks.length : Int) ≤ sz) :
    ∃ (os : Row) (ds' : List D), cf k [.mu ds, .sh (rowX b ks), .sh (.int sz)] = some (.own (os.map D.str), [ds']) ∧ os.Perm ks ∧ Box (N + ks.length) ds' := by
  obtain ⟨os, rs, d1, e1, p1, l1, b1⟩ := pick_row hp N ds ks b sz hb hN hl (by omega)
  have r0 : rs = [] := by
    have := p1.length_eq
    rw [List.length_append] at this
    split at l1 <;> exact List.eq_nil_of_length_eq_zero (by omega)
  subst r0
  exact ⟨os, d1, e1, p1, b1⟩
/-! ### plain things, so deep, so long -/
def plm (m : Nat) : Nat → D → Bool
  | _, .non => true
  | _, .bl _ => true
  | _, .int _ => true
  | _, .str _ => true
  | k + 1, .lst xs => decide (xs.length ≤ m) && xs.all (plm m k)
  | k + 1, .tup xs => decide (xs.length ≤ m) && xs.all (plm m k)
  | _, _ => false
theorem plm_sq {m k : Nat} {b : Bool} {xs : List D} : plm m (k + 1) (sq b xs) = true ↔ xs.length ≤ m ∧ ∀ x ∈ xs, plm m k x = true := by
  have : plm m (k + 1) (sq b xs) = (decide (xs.length ≤ m) && xs.all (plm m k)) := by cases b <;> rfl
  rw [this, Bool.and_eq_true, decide_eq_true_eq, List.all_eq_true]
theorem plm_up {m m' : Nat} (hm : m ≤ m') : ∀ {k k' : Nat} {d : D}, k ≤ k' → plm m k d = true → plm m' k' d = true := by
  have key : ∀ (k k' : Nat) (b : Bool) (xs : List D), (∀ {k' : Nat} {d : D}, k ≤ k' → plm m k d = true → plm m' k' d = true) → k + 1 ≤ k' → plm m (k + 1) (sq b xs) = true → plm m' k' (sq b xs) = true := fun k k' b xs ih hk h => by
    obtain ⟨h1, h2⟩ := plm_sq.mp h
    cases k' with
    | zero => omega
    | succ k' => exact plm_sq.mpr ⟨by omega, fun x hx => ih (by omega) (h2 x hx)⟩
  intro k
  induction k with
  | zero =>
    intro k' d hk h
    cases d with
    | non => cases k' <;> rfl
    | bl _ => cases k' <;> rfl
    | int _ => cases k' <;> rfl
    | str _ => cases k' <;> rfl
    | lst xs => cases h
    | tup xs => cases h
    | scr xs => cases h
    | duo xs => cases h
  | succ k ih =>
    intro k' d hk h
    cases d with
    | non => cases k' <;> rfl
    | bl _ => cases k' <;> rfl
    | int _ => cases k' <;> rfl
    | str _ => cases k' <;> rfl
    | lst xs => exact key k k' false xs ih hk h
    | tup xs => exact key k k' true xs ih hk h
    | scr xs => cases h
    | duo xs => cases h
theorem plm_dep {m : Nat} : ∀ {k : Nat} {d : D}, plm m k d = true → dep d ≤ k := by
  intro k
  induction k with
  | zero =>
    intro d h
    cases d <;> first | exact Nat.le_refl _ | cases h
  | succ k ih =>
    intro d h
    have key : ∀ (b : Bool) (xs : List D), plm m (k + 1) (sq b xs) = true → depL xs + 1 ≤ k + 1 := fun b xs h => Nat.succ_le_succ (depL_le.mpr fun x hx => ih ((plm_sq.mp h).2 x hx))
    cases d with
    | lst xs => exact key false xs h
    | tup xs => exact key true xs h
    | scr xs => cases h
    | duo xs => cases h
    | _ => exact Nat.zero_le _
theorem plm_pl {m : Nat} (hm : m ≤ 1000000) : ∀ {k : Nat} {d : D}, plm m k d = true → pl k d = true := by
  intro k
  induction k with
  | zero =>
    intro d h
    cases d <;> first | rfl | cases h
  | succ k ih =>
    intro d h
    cases d with
    | lst xs => exact pl_sq_iff (b := false) |>.mpr ⟨by have := ((plm_sq (b := false)).mp h).1; omega, fun x hx => ih (((plm_sq (b := false)).mp h).2 x hx)⟩
    | tup xs => exact pl_sq_iff (b := true) |>.mpr ⟨by have := ((plm_sq (b := true)).mp h).1; omega, fun x hx => ih (((plm_sq (b := true)).mp h).2 x hx)⟩
    | scr xs => cases h
    | duo xs => cases h
    | _ => rfl
theorem plm_ok {m k : Nat} {d : D} (h : plm m (k + 1) d = true) : (∀ xs, d ≠ .duo xs) ∧ ∀ xs, d = .tup xs → xs.length ≤ m := by
  refine ⟨fun xs e => (by subst e; cases h), fun xs e => ?_⟩
  subst e
  exact ((plm_sq (b := true)).mp h).1
theorem plm_row {m k : Nat} {b : Bool} {ss : Row} (h : ss.length ≤ m) : plm m (k + 1) (rowX b ss) = true := plm_sq.mpr ⟨by rw [List.length_map]; exact h, fun x hx => by
  obtain ⟨s, _, rfl⟩ := List.mem_map.mp hx
  cases k <;> rfl⟩
end MP

set_option Elab.async false
set_option linter.all false
set_option maxRecDepth 100000
/-! What a case and a history are. -/
namespace MP
/-! ### plain things -/
def Ok (d : D) : Prop := plm 1000 50 d = true
theorem Ok.of {m k : Nat} {d : D} (h : plm m k d = true) (hm : m ≤ 1000) (hk : k ≤ 50) : Ok d := plm_up hm hk h
theorem Ok.len {b : Bool} {xs : List D} (h : Ok (sq b xs)) : xs.length ≤ 1000 := (plm_sq (k := 49) |>.mp h).1
theorem Ok.mem {b : Bool} {xs : List D} (h : Ok (sq b xs)) {x : D} (hx : x ∈ xs) : Ok x := plm_up (Nat.le_refl _) (by omega) ((plm_sq (k := 49) |>.mp h).2 x hx)
theorem Ok.dep {d : D} (h : Ok d) : dep d ≤ 50 := plm_dep h
theorem Ok.nd {d : D} (h : Ok d) : ∀ xs, d ≠ .duo xs := (plm_ok (k := 49) h).1
theorem Ok.shal {d : D} (h : Ok d) : shal d = true := by
  have := h.dep
  unfold MP.shal
  rw [decide_eq_true (by omega)]
theorem ok_str (s : List Nat) : Ok (.str s) := rfl
theorem ok_int (i : Int) : Ok (.int i) := rfl
theorem ok_row {b : Bool} {ss : Row} (h : ss.length ≤ 1000) : Ok (rowX b ss) := plm_row (k := 49) h
/-- what stands at so many places -/
def Pr (mo : Nat → List Bool) (cf : CF) (k : Nat) (f : D → Bool) : Prop := mo k = [false] ∧ ∀ d, Ok d → cf k [.sh d] = some (.sh (.bl (f d)), [])
theorem triple_of {d : D} (h : tripleB d = true) (nd : ∀ xs, d ≠ .duo xs) : ∃ a b c, d = .tup [a, b, c] := by
  cases d with
  | duo xs => exact absurd rfl (nd xs)
  | tup xs =>
    have h : ((xs.length : Int) == 3) = true := h
    have h2 : xs.length = 3 := by
      have := eq_of_beq h
      omega
    match xs, h2 with
    | [a, b, c], _ => exact ⟨a, b, c, rfl⟩
  | _ => cases h
/-! ### BILLs and FENCEs -/
def leI : D → D → Bool
  | .int i, .int j => decide (i ≤ j)
  | _, _ => false
def billB : D → Bool
  | .tup [a, b, c] => nameB a && (numB b && (numB c && leI b c))
  | _ => false
theorem bill_triple {d : D} (h : tripleB d = false) : billB d = false := by
  cases d with
  | tup xs =>
    match xs with
    | [] => rfl
    | [_] => rfl
    | [_, _] => rfl
    | [a, b, c] => cases h
    | _ :: _ :: _ :: _ :: _ => rfl
  | _ => rfl
def okBill (p : Bill) : Prop := nameS p.1 = true ∧ p.2.1 ≤ p.2.2
theorem bill_of {d : D} (h : billB d = true) : ∃ p : Bill, d = billX true p ∧ okBill p := by
  cases d with
  | tup xs =>
    match xs with
    | [] => cases h
    | [_] => cases h
    | [_, _] => cases h
    | _ :: _ :: _ :: _ :: _ => cases h
    | [a, b, c] =>
      have h : (nameB a && (numB b && (numB c && leI b c))) = true := h
      rw [Bool.and_eq_true, Bool.and_eq_true, Bool.and_eq_true] at h
      obtain ⟨h1, h2, h3, h4⟩ := h
      cases a with
      | str s => cases b with
        | int i => cases c with
          | int j => exact ⟨(s, i, j), rfl, h1, of_decide_eq_true h4⟩
          | _ => cases h3
        | _ => cases h2
      | _ => cases h1
  | _ => cases h
theorem billB_of {p : Bill} (h : okBill p) : billB (billX true p) = true := by
  show (nameS p.1 && (true && (true && decide (p.2.1 ≤ p.2.2)))) = true
  rw [h.1, decide_eq_true h.2]; rfl
/-- a BILL's name -/
def fstS : D → List Nat
  | .tup (.str s :: _) => s
  | _ => []
def billO : D → Bill
  | .tup [.str s, .int a, .int b] => (s, a, b)
  | _ => ([], 0, 0)
def fenceO : D → List Bill
  | .tup xs => xs.map billO
  | _ => []
theorem fenceO_X (ps : List Bill) : fenceO (fenceX true ps) = ps := by
  show (ps.map (billX true)).map billO = ps
  rw [List.map_map]
  exact List.map_id ps
def fenceB : D → Bool
  | .tup xs => xs.all billB && ascB (xs.map fstS)
  | _ => false
theorem bills_of : ∀ {xs : List D}, xs.all billB = true → ∃ ps : List Bill, xs = ps.map (billX true) ∧ ∀ p ∈ ps, okBill p
  | [], _ => ⟨[], rfl, fun p h => nomatch h⟩
  | x :: xs, h => by
    rw [List.all_cons, Bool.and_eq_true] at h
    obtain ⟨p, rfl, h1⟩ := bill_of h.1
    obtain ⟨ps, rfl, h2⟩ := bills_of h.2
    exact ⟨p :: ps, rfl, fun q hq => by
      rcases List.mem_cons.mp hq with rfl | hq
      · exact h1
      · exact h2 q hq⟩
theorem fst_map (ps : List Bill) : (ps.map (billX true)).map fstS = namesS ps := by
  rw [List.map_map]; rfl
theorem fence_of {d : D} (h : fenceB d = true) : ∃ ps : List Bill, d = fenceX true ps ∧ Asc (namesS ps) ∧ (∀ p ∈ ps, okBill p) := by
  cases d with
  | tup xs =>
    have h : (xs.all billB && ascB (xs.map fstS)) = true := h
    rw [Bool.and_eq_true] at h
    obtain ⟨ps, rfl, h1⟩ := bills_of h.1
    refine ⟨ps, rfl, ?_, h1⟩
    have := h.2
    rw [fst_map] at this
    exact (asc_iff _).mp this
  | _ => cases h
theorem fenceB_of {ps : List Bill} (h1 : Asc (namesS ps)) (h2 : ∀ p ∈ ps, okBill p) : fenceB (fenceX true ps) = true := by
  show ((ps.map (billX true)).all billB && ascB ((ps.map (billX true)).map fstS)) = true
  rw [fst_map, (asc_iff _).mpr h1, Bool.and_true, List.all_map]
  exact List.all_eq_true.mpr fun p hp => billB_of (h2 p hp)
theorem ok_fence {b : Bool} {ps : List Bill} (h : ps.length ≤ 1000) : Ok (fenceX b ps) := by
  refine plm_up (m := 1000) (k := 2) (Nat.le_refl _) (by omega) (plm_sq.mpr ⟨by rw [List.length_map]; exact h, fun x hx => ?_⟩)
  obtain ⟨p, _, rfl⟩ := List.mem_map.mp hx
  refine plm_sq.mpr ⟨by simp, fun x hx => ?_⟩
  simp only [List.mem_cons, List.not_mem_nil, or_false] at hx
  rcases hx with rfl | rfl | rfl <;> rfl
/-! ### rows that ascend -/
def ltB (a b : D) : Bool := (cmpD .lt a b).getD false
def ascD : List D → Bool
  | x :: y :: r => ltB x y && ascD (y :: r)
  | _ => true
def Ltable (xs : List D) : Prop := ∀ a ∈ xs, ∀ b ∈ xs, ∃ t, cmpD .lt a b = some t
def ltU : D → D
  | .duo [x, y] => .bl (ltB x y)
  | _ => .bl false
theorem ascD_all : ∀ (x : D) (r : List D), allB ((zipL (x :: r) r).map ltU) = true ∧ ((zipL (x :: r) r).map ltU).all isB = ascD (x :: r)
  | x, [] => ⟨rfl, rfl⟩
  | x, y :: r => by
    obtain ⟨h1, h2⟩ := ascD_all y r
    refine ⟨h1, ?_⟩
    show (isB (.bl (ltB x y)) && ((zipL (y :: r) r).map ltU).all isB) = (ltB x y && ascD (y :: r))
    rw [h2]
    cases ltB x y <;> rfl
theorem zip_memG : ∀ {xs ys : List D} {z : D}, z ∈ zipL xs ys → ∃ a ∈ xs, ∃ b ∈ ys, z = .duo [a, b]
  | [], _, _, h => by cases h
  | _ :: _, [], _, h => by cases h
  | x :: xs, y :: ys, z, h => by
    rcases List.mem_cons.mp h with rfl | h
    · exact ⟨x, List.mem_cons_self, y, List.mem_cons_self, rfl⟩
    · obtain ⟨a, ha, b, hb, e⟩ := zip_memG h
      exact ⟨a, List.mem_cons_of_mem _ ha, b, List.mem_cons_of_mem _ hb, e⟩
section
variable {mo : Nat → List Bool} {cf : CF}
theorem asc_gT (b : Bool) (xs : List D) (hl : xs.length ≤ 1000000) (hc : Ltable xs) : runF mo cf FAsc [.sh (sq b xs)] = some (.sh (.bl (ascD xs)), []) := by
  refine fp_eq ?_
  refine f_run rfl ?_
  have hsl : ∃ r : RV, slD (sq b xs) (some 1) none = some r ∧ srcD r.fz = some (xs.drop 1) := by
    cases b
    · exact ⟨_, rfl, by rw [← cut1]; rfl⟩
    · exact ⟨_, rfl, by rw [← cut1]; rfl⟩
  obtain ⟨r, hr, hr2⟩ := hsl
  apply w_rete
  · apply q_bi
    · apply op_cons
      · apply o_dv
        · apply q_lc (g := ltU)
          · apply i_zip (ra := .sh (sq b xs)) (xs := xs)
            · rfl
            · exact q_sl rfl rfl rfl rfl rfl rfl hr
            · cases b <;> rfl
            · exact hr2
          · rfl
          · intro x hx
            obtain ⟨a, ha, c, hc', rfl⟩ := zip_memG hx
            obtain ⟨t, ht⟩ := hc a ha c (List.mem_of_mem_drop hc')
            refine ⟨[S (sq b xs), S a, S c], [S (sq b xs), S a, S c], .sh (.bl t), rfl, q_cmp rfl rfl rfl rfl ht, rfl, ?_⟩
            show D.bl t = .bl ((cmpD .lt a c).getD false)
            rw [ht]; rfl
          · refine Nat.le_trans (zipLen2 _ _) hl
        · rfl
      · rfl
    · rfl
    · refine b_all ?_
      cases xs with
      | nil => rfl
      | cons x r => exact (ascD_all x r).1
  · rfl
  · refine ⟨_, rfl, ?_, rfl⟩
    cases xs with
    | nil => rfl
    | cons x r =>
      rw [List.drop_one, List.tail_cons, (ascD_all x r).2]
/-! ### the texts themselves -/
def FBill (nam num tri : Nat) : MF := { np := 1, nn := 4, mu := [false], body :=
  (.cons (.ite (.not (.call tri (.cons (.var 0) .nil))) (.cons (.ret (.k (.bl false)))
  .nil) .nil)
  (.cons (.asg (.tp (.cons (.nm 1) (.cons (.nm 2) (.cons (.nm 3) .nil)))) (.var 0))
  (.cons (.ret (.and (.call nam (.cons (.var 1) .nil)) (.and (.call num (.cons (.var 2) .nil)) (.and (.call num (.cons (.var 3) .nil)) (.one (.cmp .le (.var 2) (.var 3)))))))
  .nil))) }
theorem bill_g {nam num tri : Nat} (hn : Pr mo cf nam nameB) (hu : Pr mo cf num numB) (ht : Pr mo cf tri tripleB) (d : D) (hd : Ok d) : runF mo cf (FBill nam num tri) [.sh d] = some (.sh (.bl (billB d)), []) := by
  refine fp_eq ?_
  refine f_run rfl ?_
  refine w_ite (t := !tripleB d) (e1 := [S d, none, none, none]) (t_dv (q_not (o_dv (q_call ht.1 rfl rfl rfl (ht.2 d hd) rfl) rfl) rfl) rfl rfl) (fun h => ?_) (fun h => w_nil ?_)
  · have h : tripleB d = false := by simpa using h
    exact w_rete rfl rfl ⟨_, rfl, by rw [bill_triple h], rfl⟩
  · have h : tripleB d = true := by simpa using h
    obtain ⟨a, b, c, rfl⟩ := triple_of h hd.nd
    have oa : Ok a := Ok.mem (b := true) hd (by simp)
    have ob : Ok b := Ok.mem (b := true) hd (by simp)
    have oc : Ok c := Ok.mem (b := true) hd (by simp)
    apply w_asgT (v := .sh (.tup [a, b, c])) (e2 := [S (.tup [a, b, c]), S a, S b, S c]) rfl rfl rfl
    refine w_rete (q_andb (p := nameB a) (q := numB b && (numB c && leI b c)) (q_call hn.1 rfl rfl rfl (hn.2 a oa) rfl) fun _ => q_andb (p := numB b) (q := numB c && leI b c) (q_call hu.1 rfl rfl rfl (hu.2 b ob) rfl) fun h1 => q_andb (p := numB c) (q := leI b c) (q_call hu.1 rfl rfl rfl (hu.2 c oc) rfl) fun h2 => q_one ?_) rfl ⟨_, rfl, rfl, rfl⟩
    cases b <;> first | (cases h1; done) | skip
    cases c <;> first | (cases h2; done) | skip
    rfl
def FFence (bil asc : Nat) : MF := { np := 1, nn := 2, mu := [false], body :=
  (.cons (.ite (.or (.not (.isi (.var 0) [.tuple] true)) (.one (.not (.bi .all (.cons (.lc (.nm 1) (.seq (.var 0)) .nop (.call bil (.cons (.var 1) .nil)) [1]) .nil))))) (.cons (.ret (.k (.bl false)))
  .nil) .nil)
  (.cons (.ret (.call asc (.cons (.lc (.nm 1) (.seq (.var 0)) .nop (.ix (.var 1) (.k (.int 0))) [1]) .nil)))
  .nil)) }
theorem fence_g {bil asc : Nat} (hb : Pr mo cf bil billB) (hm : mo asc = [false]) (ha : ∀ ss : Row, ss.length ≤ 1000 → cf asc [.sh (.lst (ss.map D.str))] = some (.sh (.bl (ascB ss)), [])) (d : D) (hd : Ok d) : runF mo cf (FFence bil asc) [.sh d] = some (.sh (.bl (fenceB d)), []) := by
  cases d with
  | duo xs => exact absurd rfl (hd.nd xs)
  | tup xs =>
    have hl : xs.length ≤ 1000 := Ok.len (b := true) hd
    refine fp_eq ?_
    refine f_run rfl ?_
    refine w_ite (t := !(xs.all billB)) (e1 := [S (.tup xs), none]) ?_ (fun h => ?_) fun h => w_nil ?_
    · refine t_dv (q_orb (p := false) (q := !(xs.all billB)) rfl fun _ => q_one ?_) rfl (by rw [Bool.false_or]; rfl)
      refine (q_not (x := .bl (xs.all billB)) (o_dv (q_bi (op_cons (o_dv (q_M xs (fun x => x) (g := fun x => D.bl (billB x)) (by rw [List.map_id']; exact i_seq (r := .sh (.tup xs)) rfl (.inr (.inl rfl))) rfl (by omega) fun x hx => ?_) rfl) rfl) rfl (b_all (allB_bl _ xs))) rfl) ?_)
      · exact OneM.mk (en := [S (.tup xs), S x]) rfl (q_call hb.1 rfl rfl rfl (hb.2 x (Ok.mem (b := true) hd hx)) rfl) rfl rfl
      · rw [all_bl]; rfl
    · have : xs.all billB = false := by simpa using h
      refine w_rete rfl rfl ⟨_, rfl, ?_, rfl⟩
      show RV.sh (.bl false) = .sh (.bl (xs.all billB && _))
      rw [this]; rfl
    · have hx : xs.all billB = true := by simpa using h
      obtain ⟨ps, rfl, hp⟩ := bills_of hx
      have hlc : evR mo cf (.lc (.nm 1) (.seq (.var 0)) .nop (.ix (.var 1) (.k (.int 0))) [1]) [S (fenceX true ps), none] = some ([S (fenceX true ps), none], .own (ps.map fun p => D.str p.1)) :=
        q_M ps (billX true) (i_seq (r := .sh (fenceX true ps)) rfl (.inr (.inl rfl))) rfl (by rw [List.length_map] at hl; omega) fun p _ => OneM.mk (en := [S (fenceX true ps), S (billX true p)]) rfl (q_ix rfl rfl rfl rfl (ix_bill true p).1) rfl rfl
      have hcl : cf asc [.sh (.lst (ps.map fun p => D.str p.1))] = some (.sh (.bl (ascB (namesS ps))), []) := by
        have := ha (namesS ps) (by rw [namesS_len]; rw [List.length_map] at hl; exact hl)
        rw [← tagsD_names] at this
        exact this
      refine w_rete (v := .sh (.bl (ascB (namesS ps)))) (q_call hm (a_sh hlc rfl) rfl rfl hcl rfl) rfl ⟨_, rfl, ?_, rfl⟩
      · show RV.sh (.bl (ascB (namesS ps))) = .sh (.bl ((ps.map (billX true)).all billB && ascB ((ps.map (billX true)).map fstS)))
        rw [hx, fst_map]; rfl
  | _ => rfl
def FPhoto (num : Nat) : MF := { np := 2, nn := 2, mu := [false, false], body :=
  (.cons (.ret (.and (.call num (.cons (.var 1) .nil)) (.one (.chain .le .lt (.k (.int 0)) (.var 1) (.var 0)))))
  .nil) }
def photoB (n : Int) : D → Bool
  | .int i => decide (0 ≤ i) && decide (i < n)
  | _ => false
theorem photo_g {num : Nat} (hu : Pr mo cf num numB) (n : Int) (d : D) (hd : Ok d) : runF mo cf (FPhoto num) [.sh (.int n), .sh d] = some (.sh (.bl (photoB n d)), []) := by
  refine fp_eq ?_
  refine f_run rfl ?_
  have h := hu.2 d hd
  by_cases hn : numB d = true
  · cases d with
    | int i =>
      refine w_rete (v := .sh (.bl (true && photoB n (.int i)))) (q_andb (p := true) (q_call hu.1 rfl rfl rfl h rfl) fun _ => q_one (q_chainb rfl rfl rfl rfl rfl)) rfl ⟨_, rfl, rfl, rfl⟩
    | _ => cases hn
  · have hn : numB d = false := by simpa using hn
    rw [hn] at h
    refine w_rete (v := .sh (.bl (false && false))) (q_andb (p := false) (q_call hu.1 rfl rfl rfl h rfl) fun h => nomatch h) rfl ⟨_, rfl, ?_, rfl⟩
    cases d <;> first | rfl | cases hn
/-! ### texts among texts, words -/
def inN (ss : Row) : D → Bool
  | .str s => hasS ss s
  | _ => false
def isW (s : List Nat) : D → Bool
  | .str x => x == s
  | _ => false
theorem any_not {ss : Row} {d : D} (h : ∀ s, d ≠ .str s) : ((ss.map D.str).any fun y => eqD y d) = false := by
  rw [List.any_eq_false]
  intro y hy
  obtain ⟨s, _, rfl⟩ := List.mem_map.mp hy
  cases d <;> first | (exact absurd rfl (h _); done) | (intro q; cases q)
theorem in_any {d : D} (hd : Ok d) (b : Bool) (ss : Row) : cmpD .in_ d (sq b (ss.map D.str)) = some (inN ss d) := by
  have h1 := hd.shal
  have h2 : shal (sq b (ss.map D.str)) = true := shal_strs b ss
  cases d with
  | str s => exact in_strs s b ss
  | duo xs => exact absurd rfl (hd.nd xs)
  | scr xs => exact nomatch (show (false : Bool) = true from hd)
  | _ =>
    cases b
    · show (if _ && shal (sq false (ss.map D.str)) then some ((ss.map D.str).any fun y => eqD y _) else none) = _
      rw [h1, h2, any_not (fun s h => by cases h)]
      rfl
    · show (if _ && shal (sq true (ss.map D.str)) then some ((ss.map D.str).any fun y => eqD y _) else none) = _
      rw [h1, h2, any_not (fun s h => by cases h)]
      rfl
theorem nin_any {d : D} (hd : Ok d) (b : Bool) (ss : Row) : cmpD .nin d (sq b (ss.map D.str)) = some (!inN ss d) := by
  have h1 := hd.shal
  have h2 : shal (sq b (ss.map D.str)) = true := shal_strs b ss
  cases d with
  | str s => exact nin_strs s b ss
  | duo xs => exact absurd rfl (hd.nd xs)
  | scr xs => exact nomatch (show (false : Bool) = true from hd)
  | _ =>
    cases b
    · show (if _ && shal (sq false (ss.map D.str)) then some (!(ss.map D.str).any fun y => eqD y _) else none) = _
      rw [h1, h2, any_not (fun s h => by cases h)]
      rfl
    · show (if _ && shal (sq true (ss.map D.str)) then some (!(ss.map D.str).any fun y => eqD y _) else none) = _
      rw [h1, h2, any_not (fun s h => by cases h)]
      rfl
theorem eq_word {d : D} (hd : Ok d) (s : List Nat) : cmpD .eq d (.str s) = some (isW s d) := by
  have h1 := hd.shal
  show (if shal d && shal (.str s) then some (eqD d (.str s)) else none) = _
  rw [h1]
  cases d <;> rfl
theorem ne_any {a b : D} (ha : Ok a) (hb : Ok b) : cmpD .ne a b = some (!eqD a b) := by
  show (if shal a && shal b then some (!eqD a b) else none) = _
  rw [ha.shal, hb.shal]; rfl
/-! ### TELLINGs and FACTs -/
def overS (ps : List Bill) (c : Int) : Row := (overL ps c).map Prod.fst
theorem overD_S (ps : List Bill) (c : Int) : overD ps c = (overS ps c).map D.str := overD_eq ps c
def seenB (ps : List Bill) (c : D) : D → Bool
  | .int x => isW [45] c || inN (overS ps x) c
  | _ => false
def tellB (ps : List Bill) (n : Int) : D → Bool
  | .tup [a, b, c] => photoB n a && seenB ps c b
  | _ => false
theorem tell_triple {ps : List Bill} {n : Int} {d : D} (h : tripleB d = false) : tellB ps n d = false := by
  cases d with
  | tup xs =>
    match xs with
    | [] => rfl
    | [_] => rfl
    | [_, _] => rfl
    | [a, b, c] => cases h
    | _ :: _ :: _ :: _ :: _ => rfl
  | _ => rfl
def FTelling (num tri ovr pho : Nat) : MF := { np := 3, nn := 6, mu := [false, false, false], body :=
  (.cons (.ite (.not (.call tri (.cons (.var 2) .nil))) (.cons (.ret (.k (.bl false)))
  .nil) .nil)
  (.cons (.asg (.tp (.cons (.nm 3) (.cons (.nm 4) (.cons (.nm 5) .nil)))) (.var 2))
  (.cons (.ite (.or (.not (.call pho (.cons (.var 1) (.cons (.var 3) .nil)))) (.one (.not (.call num (.cons (.var 4) .nil))))) (.cons (.ret (.k (.bl false)))
  .nil) .nil)
  (.cons (.ret (.or (.cmp .eq (.var 5) (.k (.str [45]))) (.one (.cmp .in_ (.var 5) (.call ovr (.cons (.var 0) (.cons (.var 4) .nil)))))))
  .nil)))) }
def PhotoF (mo : Nat → List Bool) (cf : CF) (k : Nat) : Prop := mo k = [false, false] ∧ ∀ (n : Int) (d : D), Ok d → cf k [.sh (.int n), .sh d] = some (.sh (.bl (photoB n d)), [])
def OverF (mo : Nat → List Bool) (cf : CF) (k : Nat) : Prop := mo k = [false, false] ∧ ∀ (t : Bool) (ps : List Bill) (c : Int), ps.length ≤ 1000 → cf k [.sh (fenceX t ps), .sh (.int c)] = some (.sh (.tup (overD ps c)), [])
def NamesF (mo : Nat → List Bool) (cf : CF) (k : Nat) : Prop := mo k = [false] ∧ ∀ (t : Bool) (ps : List Bill), ps.length ≤ 1000 → cf k [.sh (fenceX t ps)] = some (.sh (.tup (tagsD ps)), [])
theorem telling_g {num tri ovr pho : Nat} (hu : Pr mo cf num numB) (ht : Pr mo cf tri tripleB) (ho : OverF mo cf ovr) (hp : PhotoF mo cf pho) (t : Bool) (ps : List Bill) (n : Int) (d : D) (hl : ps.length ≤ 1000) (hd : Ok d) :
    runF mo cf (FTelling num tri ovr pho) [.sh (fenceX t ps), .sh (.int n), .sh d] = some (.sh (.bl (tellB ps n d)), []) := by
  refine fp_eq ?_
  refine f_run rfl ?_
  refine w_ite (t := !tripleB d) (e1 := [S (fenceX t ps), S (.int n), S d, none, none, none]) (t_dv (q_not (o_dv (q_call ht.1 rfl rfl rfl (ht.2 d hd) rfl) rfl) rfl) rfl rfl) (fun h => ?_) (fun h => w_nil ?_)
  · have h : tripleB d = false := by simpa using h
    exact w_rete rfl rfl ⟨_, rfl, by rw [tell_triple h], rfl⟩
  have h : tripleB d = true := by simpa using h
  obtain ⟨a, b, c, rfl⟩ := triple_of h hd.nd
  have oa : Ok a := Ok.mem (b := true) hd (by simp)
  have ob : Ok b := Ok.mem (b := true) hd (by simp)
  have oc : Ok c := Ok.mem (b := true) hd (by simp)
  apply w_asgT (v := .sh (.tup [a, b, c])) (e2 := [S (fenceX t ps), S (.int n), S (.tup [a, b, c]), S a, S b, S c]) rfl rfl rfl
  have hv : tellB ps n (.tup [a, b, c]) = (photoB n a && seenB ps c b) := rfl
  refine w_ite (t := !photoB n a || !numB b) (e1 := [S (fenceX t ps), S (.int n), S (.tup [a, b, c]), S a, S b, S c]) (t_dv (q_orb (p := !photoB n a) (q := !numB b) (q_not (x := .bl (photoB n a)) (o_dv (q_call hp.1 rfl rfl rfl (hp.2 n a oa) rfl) rfl) rfl) fun _ => q_one (q_not (x := .bl (numB b)) (o_dv (q_call hu.1 rfl rfl rfl (hu.2 b ob) rfl) rfl) rfl)) rfl rfl) (fun h => ?_) (fun h => w_nil ?_)
  · refine w_rete rfl rfl ⟨_, rfl, ?_, rfl⟩
    rw [hv]
    cases hpa : photoB n a
    · rfl
    · rw [hpa] at h
      have : numB b = false := by simpa using h
      cases b <;> first | rfl | cases this
  · rw [Bool.or_eq_false_iff] at h
    have h1 : photoB n a = true := by simpa using h.1
    have h2 : numB b = true := by simpa using h.2
    cases b with
    | int x =>
      refine w_rete (v := .sh (.bl (isW [45] c || inN (overS ps x) c))) (q_orb (q_cmp (x := c) rfl rfl rfl rfl (eq_word oc _)) fun _ => q_one (q_cmp (x := c) (y := .tup (overD ps x)) rfl (o_dv (q_call ho.1 rfl rfl rfl (ho.2 t ps x hl) rfl) rfl) rfl rfl (by rw [overD_S]; exact in_any oc true _))) rfl ⟨_, rfl, ?_, rfl⟩
      rw [hv, h1]; rfl
    | _ => cases h2
def wBefore : List Nat := [98, 101, 102, 111, 114, 101]
def wThere : List Nat := [116, 104, 101, 114, 101]
def wNot : List Nat := [110, 111, 116]
def factB (ks : Row) (n : Int) : D → Bool
  | .tup [w, a, b] => if isW wBefore w then inN ks a && (inN ks b && !eqD a b) else inN [wThere, wNot] w && (photoB n a && inN ks b)
  | _ => false
theorem fact_triple {ks : Row} {n : Int} {d : D} (h : tripleB d = false) : factB ks n d = false := by
  cases d with
  | tup xs =>
    match xs with
    | [] => rfl
    | [_] => rfl
    | [_, _] => rfl
    | [a, b, c] => cases h
    | _ :: _ :: _ :: _ :: _ => rfl
  | _ => rfl
def FFact (tri nam pho : Nat) : MF := { np := 3, nn := 7, mu := [false, false, false], body :=
  (.cons (.ite (.not (.call tri (.cons (.var 2) .nil))) (.cons (.ret (.k (.bl false)))
  .nil) .nil)
  (.cons (.asg (.tp (.cons (.nm 4) (.cons (.nm 5) (.cons (.nm 6) .nil)))) (.var 2))
  (.cons (.asg (.nm 3) (.call nam (.cons (.var 0) .nil)))
  (.cons (.ite (.cmp .eq (.var 4) (.k (.str [98, 101, 102, 111, 114, 101]))) (.cons (.ret (.and (.cmp .in_ (.var 5) (.var 3)) (.and (.cmp .in_ (.var 6) (.var 3)) (.one (.cmp .ne (.var 5) (.var 6))))))
  .nil) .nil)
  (.cons (.ret (.and (.cmp .in_ (.var 4) (.tup (.cons (.k (.str [116, 104, 101, 114, 101])) (.cons (.k (.str [110, 111, 116])) .nil)))) (.and (.call pho (.cons (.var 1) (.cons (.var 5) .nil))) (.one (.cmp .in_ (.var 6) (.var 3))))))
  .nil))))) }
theorem fact_g {tri nam pho : Nat} (ht : Pr mo cf tri tripleB) (hn : NamesF mo cf nam) (hp : PhotoF mo cf pho) (t : Bool) (ps : List Bill) (n : Int) (d : D) (hl : ps.length ≤ 1000) (hd : Ok d) :
    runF mo cf (FFact tri nam pho) [.sh (fenceX t ps), .sh (.int n), .sh d] = some (.sh (.bl (factB (namesS ps) n d)), []) := by
  refine fp_eq ?_
  refine f_run rfl ?_
  refine w_ite (t := !tripleB d) (e1 := [S (fenceX t ps), S (.int n), S d, none, none, none, none]) (t_dv (q_not (o_dv (q_call ht.1 rfl rfl rfl (ht.2 d hd) rfl) rfl) rfl) rfl rfl) (fun h => ?_) (fun h => w_nil ?_)
  · have h : tripleB d = false := by simpa using h
    exact w_rete rfl rfl ⟨_, rfl, by rw [fact_triple h], rfl⟩
  have h : tripleB d = true := by simpa using h
  obtain ⟨w, a, b, rfl⟩ := triple_of h hd.nd
  have ow : Ok w := Ok.mem (b := true) hd (by simp)
  have oa : Ok a := Ok.mem (b := true) hd (by simp)
  have ob : Ok b := Ok.mem (b := true) hd (by simp)
  apply w_asgT (v := .sh (.tup [w, a, b])) (e2 := [S (fenceX t ps), S (.int n), S (.tup [w, a, b]), none, S w, S a, S b]) rfl rfl rfl
  have k1 := hn.2 t ps hl
  rw [tagsD_names] at k1
  apply w_asg (v := .sh (.tup ((namesS ps).map D.str))) (e2 := [S (fenceX t ps), S (.int n), S (.tup [w, a, b]), S (.tup ((namesS ps).map D.str)), S w, S a, S b]) (q_call hn.1 rfl rfl rfl k1 rfl) rfl
  refine w_ite (t := isW wBefore w) (e1 := [S (fenceX t ps), S (.int n), S (.tup [w, a, b]), S (.tup ((namesS ps).map D.str)), S w, S a, S b]) (t_dv (q_cmp (x := w) rfl rfl rfl rfl (eq_word ow _)) rfl rfl) (fun h => ?_) (fun h => w_nil ?_)
  · refine w_rete (v := .sh (.bl (inN (namesS ps) a && (inN (namesS ps) b && !eqD a b)))) (q_andb (q_cmp rfl rfl rfl rfl (in_any oa true _)) fun _ => q_andb (q_cmp rfl rfl rfl rfl (in_any ob true _)) fun _ => q_one (q_cmp rfl rfl rfl rfl (ne_any oa ob))) rfl ⟨_, rfl, ?_, rfl⟩
    show _ = RV.sh (.bl (if isW wBefore w then _ else _))
    rw [h]; rfl
  · refine w_rete (v := .sh (.bl (inN [wThere, wNot] w && (photoB n a && inN (namesS ps) b)))) (q_andb (q_cmp (y := .tup ([wThere, wNot].map D.str)) rfl rfl rfl rfl (in_any ow true _)) fun _ => q_andb (q_call hp.1 rfl rfl rfl (hp.2 n a oa) rfl) fun _ => q_one (q_cmp rfl rfl rfl rfl (in_any ob true _))) rfl ⟨_, rfl, ?_, rfl⟩
    show _ = RV.sh (.bl (if isW wBefore w then _ else _))
    rw [h]; rfl
/-! ### rows of them -/
def rowsB (p : D → Bool) : D → Bool
  | .tup xs => xs.all p && ascD xs
  | _ => false
def FRows (pk asc : Nat) : MF := { np := 3, nn := 4, mu := [false, false, false], body :=
  (.cons (.ite (.or (.not (.isi (.var 2) [.tuple] true)) (.one (.not (.bi .all (.cons (.lc (.nm 3) (.seq (.var 2)) .nop (.call pk (.cons (.var 0) (.cons (.var 1) (.cons (.var 3) .nil)))) [3]) .nil))))) (.cons (.ret (.k (.bl false)))
  .nil) .nil)
  (.cons (.ret (.call asc (.cons (.var 2) .nil)))
  .nil)) }
theorem rows_g {pk asc : Nat} {p : D → Bool} (x0 x1 : D) (hm : mo pk = [false, false, false]) (hp : ∀ d, Ok d → cf pk [.sh x0, .sh x1, .sh d] = some (.sh (.bl (p d)), [])) (hm2 : mo asc = [false]) (ha : ∀ xs : List D, xs.length ≤ 1000 → Ltable xs → cf asc [.sh (.tup xs)] = some (.sh (.bl (ascD xs)), [])) (hc : ∀ xs : List D, xs.all p = true → Ltable xs) (d : D) (hd : Ok d) :
    runF mo cf (FRows pk asc) [.sh x0, .sh x1, .sh d] = some (.sh (.bl (rowsB p d)), []) := by
  cases d with
  | duo xs => exact absurd rfl (hd.nd xs)
  | tup xs =>
    have hl : xs.length ≤ 1000 := Ok.len (b := true) hd
    refine fp_eq ?_
    refine f_run rfl ?_
    refine w_ite (t := !(xs.all p)) (e1 := [S x0, S x1, S (.tup xs), none]) ?_ (fun h => ?_) fun h => w_nil ?_
    · refine t_dv (q_orb (p := false) (q := !(xs.all p)) rfl fun _ => q_one ?_) rfl (by rw [Bool.false_or]; rfl)
      refine (q_not (x := .bl (xs.all p)) (o_dv (q_bi (op_cons (o_dv (q_M xs (fun x => x) (g := fun x => D.bl (p x)) (by rw [List.map_id']; exact i_seq (r := .sh (.tup xs)) rfl (.inr (.inl rfl))) rfl (by omega) fun x hx => ?_) rfl) rfl) rfl (b_all (allB_bl _ xs))) rfl) ?_)
      · exact OneM.mk (en := [S x0, S x1, S (.tup xs), S x]) rfl (q_call hm rfl rfl rfl (hp x (Ok.mem (b := true) hd hx)) rfl) rfl rfl
      · rw [all_bl]; rfl
    · have : xs.all p = false := by simpa using h
      refine w_rete rfl rfl ⟨_, rfl, ?_, rfl⟩
      show RV.sh (.bl false) = .sh (.bl (xs.all p && _))
      rw [this]; rfl
    · have hx : xs.all p = true := by simpa using h
      refine w_rete (v := .sh (.bl (ascD xs))) (q_call hm2 rfl rfl rfl (ha xs hl (hc xs hx)) rfl) rfl ⟨_, rfl, ?_, rfl⟩
      show _ = RV.sh (.bl (xs.all p && ascD xs))
      rw [hx]; rfl
  | _ => rfl
end
/-! ### which can be compared -/
theorem photo_int {n : Int} {d : D} (h : photoB n d = true) : ∃ i, d = .int i ∧ 0 ≤ i ∧ i < n := by
  cases d with
  | int i =>
    have h : (decide (0 ≤ i) && decide (i < n)) = true := h
    rw [Bool.and_eq_true, decide_eq_true_eq, decide_eq_true_eq] at h
    exact ⟨i, rfl, h⟩
  | _ => cases h
theorem inN_str {ss : Row} {d : D} (h : inN ss d = true) : ∃ s, d = .str s ∧ hasS ss s = true := by
  cases d with
  | str s => exact ⟨s, rfl, h⟩
  | _ => cases h
theorem isW_str {s : List Nat} {d : D} (h : isW s d = true) : d = .str s := by
  cases d with
  | str x => rw [eq_of_beq (show (x == s) = true from h)]
  | _ => cases h
theorem triple_cases (p : D → D → D → Bool) (f : D → Bool) (hf : ∀ a b c, f (.tup [a, b, c]) = p a b c) (ht : ∀ d, tripleB d = false → f d = false) (hd : ∀ xs, f (.duo xs) = false) {d : D} (h : f d = true) : ∃ a b c, d = .tup [a, b, c] ∧ p a b c = true := by
  cases e : tripleB d
  · rw [ht d e] at h; cases h
  · obtain ⟨a, b, c, rfl⟩ := triple_of e fun xs z => by rw [z, hd] at h; cases h
    exact ⟨a, b, c, rfl, by rw [← hf]; exact h⟩
theorem tell_of {ps : List Bill} {n : Int} {d : D} (h : tellB ps n d = true) : ∃ (i x : Int) (s : List Nat), d = .tup [.int i, .int x, .str s] ∧ 0 ≤ i ∧ i < n ∧ (s = [45] ∨ hasS (overS ps x) s = true) := by
  obtain ⟨a, b, c, rfl, h⟩ := triple_cases (fun a b c => photoB n a && seenB ps c b) (tellB ps n) (fun _ _ _ => rfl) (fun d => tell_triple) (fun _ => rfl) h
  have h : (photoB n a && seenB ps c b) = true := h
  rw [Bool.and_eq_true] at h
  obtain ⟨i, rfl, h1, h2⟩ := photo_int h.1
  cases b with
  | int x =>
    have h3 : (isW [45] c || inN (overS ps x) c) = true := h.2
    rw [Bool.or_eq_true] at h3
    rcases h3 with h3 | h3
    · rw [isW_str h3]
      exact ⟨i, x, [45], rfl, h1, h2, .inl rfl⟩
    · obtain ⟨s, rfl, h4⟩ := inN_str h3
      exact ⟨i, x, s, rfl, h1, h2, .inr h4⟩
  | _ => cases h.2
theorem hasS_mem {ss : Row} {s : List Nat} : hasS ss s = true ↔ s ∈ ss := by
  unfold hasS
  rw [List.any_eq_true]
  constructor
  · rintro ⟨x, h, e⟩
    rw [← eq_of_beq e]; exact h
  · intro h
    exact ⟨s, h, beq_self_eq_true s⟩
/-- a FACT: «before» with two names, or a photo and a name -/
theorem fact_of {ks : Row} {n : Int} {d : D} (h : factB ks n d = true) : (∃ s t, d = .tup [.str wBefore, .str s, .str t] ∧ s ∈ ks ∧ t ∈ ks ∧ s ≠ t) ∨ ∃ (w : List Nat) (i : Int) (t : List Nat), d = .tup [.str w, .int i, .str t] ∧ (w = wThere ∨ w = wNot) ∧ 0 ≤ i ∧ i < n ∧ t ∈ ks := by
  obtain ⟨w, a, b, rfl, hh⟩ := triple_cases (fun w a b => if isW wBefore w then inN ks a && (inN ks b && !eqD a b) else inN [wThere, wNot] w && (photoB n a && inN ks b)) (factB ks n) (fun _ _ _ => rfl) (fun d => fact_triple) (fun _ => rfl) h
  clear h
  have h := hh
  clear hh
  cases hw : isW wBefore w
  · rw [hw] at h
    have h : (inN [wThere, wNot] w && (photoB n a && inN ks b)) = true := h
    rw [Bool.and_eq_true, Bool.and_eq_true] at h
    obtain ⟨w, rfl, h1⟩ := inN_str h.1
    obtain ⟨i, rfl, h2, h3⟩ := photo_int h.2.1
    obtain ⟨t, rfl, h4⟩ := inN_str h.2.2
    refine .inr ⟨w, i, t, rfl, ?_, h2, h3, hasS_mem.mp h4⟩
    have := hasS_mem.mp h1
    simpa using this
  · rw [hw] at h
    have h : (inN ks a && (inN ks b && !eqD a b)) = true := h
    rw [Bool.and_eq_true, Bool.and_eq_true] at h
    obtain ⟨s, rfl, h1⟩ := inN_str h.1
    obtain ⟨t, rfl, h2⟩ := inN_str h.2.1
    refine .inl ⟨s, t, by rw [isW_str hw], hasS_mem.mp h1, hasS_mem.mp h2, fun e => ?_⟩
    subst e
    have : eqD (.str s) (.str s) = true := by show (s == s) = true; simp
    rw [this] at h
    exact absurd h.2.2 (by decide)
theorem tells_lt {ps : List Bill} {n : Int} (xs : List D) (h : xs.all (tellB ps n) = true) : Ltable xs := fun a ha b hb => by
  rw [List.all_eq_true] at h
  obtain ⟨i, x, s, rfl, _⟩ := tell_of (h a ha)
  obtain ⟨j, y, t, rfl, _⟩ := tell_of (h b hb)
  show ∃ t', lexD [.int i, .int x, .str s] [.int j, .int y, .str t] = some t'
  unfold lexD
  split
  · unfold lexD
    split
    · unfold lexD
      split
      · exact ⟨_, rfl⟩
      · exact ⟨_, rfl⟩
    · exact ⟨_, rfl⟩
  · exact ⟨_, rfl⟩
theorem lex_str {x y : List Nat} {r t : List D} (h : x ≠ y) : lexD (.str x :: r) (.str y :: t) = some (ltS x y) := by
  show (if x = y then lexD r t else some (ltS x y)) = _
  rw [if_neg h]
theorem facts_lt {ks : Row} {n : Int} (xs : List D) (h : xs.all (factB ks n) = true) : Ltable xs := fun a ha b hb => by
  rw [List.all_eq_true] at h
  have b1 : wBefore ≠ wThere := by decide
  have b2 : wBefore ≠ wNot := by decide
  rcases fact_of (h a ha) with ⟨s, t, rfl, _⟩ | ⟨w, i, t, rfl, hw, _⟩
  · rcases fact_of (h b hb) with ⟨s', t', rfl, _⟩ | ⟨w', i', t', rfl, hw', _⟩
    · show ∃ z, lexD [.str wBefore, .str s, .str t] [.str wBefore, .str s', .str t'] = some z
      unfold lexD
      rw [if_pos rfl]
      unfold lexD
      split
      · unfold lexD
        split
        · exact ⟨_, rfl⟩
        · exact ⟨_, rfl⟩
      · exact ⟨_, rfl⟩
    · refine ⟨_, lex_str ?_⟩
      rcases hw' with rfl | rfl
      · exact b1
      · exact b2
  · rcases fact_of (h b hb) with ⟨s', t', rfl, _⟩ | ⟨w', i', t', rfl, hw', _⟩
    · refine ⟨_, lex_str ?_⟩
      rcases hw with rfl | rfl
      · exact fun z => b1 z.symm
      · exact fun z => b2 z.symm
    · show ∃ z, lexD [.str w, .int i, .str t] [.str w', .int i', .str t'] = some z
      unfold lexD
      split
      · unfold lexD
        split
        · unfold lexD
          split
          · exact ⟨_, rfl⟩
          · exact ⟨_, rfl⟩
        · exact ⟨_, rfl⟩
      · exact ⟨_, rfl⟩
end MP

set_option Elab.async false
set_option linter.all false
set_option maxRecDepth 100000
/-! Rows of flat tuples that ascend, and their sets. -/
namespace MP
theorem flat_cases {x : D} (h : flatI x = true) : (∃ i, x = .int i) ∨ ∃ s, x = .str s := by
  cases x with
  | int i => exact .inl ⟨i, rfl⟩
  | str s => exact .inr ⟨s, rfl⟩
  | _ => cases h
theorem ltI_irr {x : D} (h : flatI x = true) : ltI x x = false := by
  rcases flat_cases h with ⟨i, rfl⟩ | ⟨s, rfl⟩
  · exact decide_eq_false (by omega)
  · exact lt_irr s
theorem ltI_tri {x y : D} (hx : flatI x = true) (hy : flatI y = true) (h1 : ltI x y = false) (h2 : ltI y x = false) : x = y := by
  rcases flat_cases hx with ⟨i, rfl⟩ | ⟨s, rfl⟩
  · rcases flat_cases hy with ⟨j, rfl⟩ | ⟨t, rfl⟩
    · have a := of_decide_eq_false (show decide (i < j) = false from h1)
      have b := of_decide_eq_false (show decide (j < i) = false from h2)
      rw [show i = j by omega]
    · cases h1
  · rcases flat_cases hy with ⟨j, rfl⟩ | ⟨t, rfl⟩
    · cases h2
    · rw [lt_tri (show ltS s t = false from h1) h2]
theorem ltI_trans {x y z : D} (hx : flatI x = true) (hy : flatI y = true) (hz : flatI z = true) (h1 : ltI x y = true) (h2 : ltI y z = true) : ltI x z = true := by
  rcases flat_cases hx with ⟨i, rfl⟩ | ⟨s, rfl⟩
  · rcases flat_cases hy with ⟨j, rfl⟩ | ⟨t, rfl⟩
    · rcases flat_cases hz with ⟨k, rfl⟩ | ⟨u, rfl⟩
      · have a := of_decide_eq_true (show decide (i < j) = true from h1)
        have b := of_decide_eq_true (show decide (j < k) = true from h2)
        exact decide_eq_true (by omega)
      · rfl
    · rcases flat_cases hz with ⟨k, rfl⟩ | ⟨u, rfl⟩
      · cases h2
      · rfl
  · rcases flat_cases hy with ⟨j, rfl⟩ | ⟨t, rfl⟩
    · cases h1
    · rcases flat_cases hz with ⟨k, rfl⟩ | ⟨u, rfl⟩
      · cases h2
      · exact lt_trans (show ltS s t = true from h1) h2
theorem ltI_asym {x y : D} (hx : flatI x = true) (hy : flatI y = true) (h : ltI x y = true) : ltI y x = false := by
  cases e : ltI y x
  · rfl
  · have := ltI_trans hx hy hx h e
    rw [ltI_irr hx] at this; cases this
theorem ltT_irr : ∀ {xs : List D}, xs.all flatI = true → ltT xs xs = false
  | [], _ => rfl
  | x :: xs, h => by
    rw [List.all_cons, Bool.and_eq_true] at h
    show (ltI x x || (!ltI x x && ltT xs xs)) = false
    rw [ltI_irr h.1, ltT_irr h.2]; rfl
theorem ltT_tri : ∀ {xs ys : List D}, xs.all flatI = true → ys.all flatI = true → ltT xs ys = false → ltT ys xs = false → xs = ys
  | [], [], _, _, _, _ => rfl
  | [], _ :: _, _, _, h, _ => by cases h
  | _ :: _, [], _, _, _, h => by cases h
  | x :: xs, y :: ys, hx, hy, h1, h2 => by
    rw [List.all_cons, Bool.and_eq_true] at hx hy
    have h1 : (ltI x y || (!ltI y x && ltT xs ys)) = false := h1
    have h2 : (ltI y x || (!ltI x y && ltT ys xs)) = false := h2
    rw [Bool.or_eq_false_iff] at h1 h2
    have e := ltI_tri hx.1 hy.1 h1.1 h2.1
    have a := h1.2
    have b := h2.2
    rw [h2.1] at a
    rw [h1.1] at b
    rw [e, ltT_tri hx.2 hy.2 (by simpa using a) (by simpa using b)]
theorem ltT_trans : ∀ {xs ys zs : List D}, xs.all flatI = true → ys.all flatI = true → zs.all flatI = true → ltT xs ys = true → ltT ys zs = true → ltT xs zs = true
  | [], [], _, _, _, _, h, _ => by cases h
  | [], _ :: _, [], _, _, _, _, h => by cases h
  | [], _ :: _, _ :: _, _, _, _, _, _ => rfl
  | _ :: _, [], _, _, _, _, h, _ => by cases h
  | _ :: _, _ :: _, [], _, _, _, _, h => by cases h
  | x :: xs, y :: ys, z :: zs, hx, hy, hz, h1, h2 => by
    rw [List.all_cons, Bool.and_eq_true] at hx hy hz
    have h1 : (ltI x y || (!ltI y x && ltT xs ys)) = true := h1
    have h2 : (ltI y z || (!ltI z y && ltT ys zs)) = true := h2
    show (ltI x z || (!ltI z x && ltT xs zs)) = true
    rw [Bool.or_eq_true, Bool.and_eq_true] at h1 h2
    rcases h1 with a | ⟨a, a2⟩
    · rcases h2 with b | ⟨b, b2⟩
      · rw [ltI_trans hx.1 hy.1 hz.1 a b]; rfl
      · have b : ltI z y = false := by simpa using b
        cases c : ltI y z
        · have e := ltI_tri hy.1 hz.1 c b
          rw [← e, a]; rfl
        · rw [ltI_trans hx.1 hy.1 hz.1 a c]; rfl
    · have a : ltI y x = false := by simpa using a
      cases c : ltI x y
      · have e := ltI_tri hx.1 hy.1 c a
        subst e
        rcases h2 with b | ⟨b, b2⟩
        · rw [b]; rfl
        · rw [ltT_trans hx.2 hy.2 hz.2 a2 b2, b]
          cases ltI x z <;> rfl
      · rcases h2 with b | ⟨b, b2⟩
        · rw [ltI_trans hx.1 hy.1 hz.1 c b]; rfl
        · have b : ltI z y = false := by simpa using b
          cases d : ltI y z
          · have e := ltI_tri hy.1 hz.1 d b
            rw [← e, c]; rfl
          · rw [ltI_trans hx.1 hy.1 hz.1 c d]; rfl
theorem lex_lt : ∀ {xs ys : List D} {t : Bool}, xs.all flatI = true → ys.all flatI = true → lexD xs ys = some t → ltT xs ys = t
  | [], [], _, _, _, h => by cases h; rfl
  | [], _ :: _, _, _, _, h => by cases h; rfl
  | x :: xs, [], t, hx, _, h => by
    rw [List.all_cons, Bool.and_eq_true] at hx
    rcases flat_cases hx.1 with ⟨i, rfl⟩ | ⟨s, rfl⟩ <;> (cases h; rfl)
  | x :: xs, y :: ys, t, hx, hy, h => by
    rw [List.all_cons, Bool.and_eq_true] at hx hy
    rcases flat_cases hx.1 with ⟨i, rfl⟩ | ⟨s, rfl⟩
    · rcases flat_cases hy.1 with ⟨j, rfl⟩ | ⟨u, rfl⟩
      · have h : (if i = j then lexD xs ys else some (decide (i < j))) = some t := h
        show (decide (i < j) || (!decide (j < i) && ltT xs ys)) = t
        by_cases e : i = j
        · rw [if_pos e] at h
          rw [lex_lt hx.2 hy.2 h, e, decide_eq_false (show ¬ j < j by omega)]
          cases t <;> rfl
        · rw [if_neg e] at h
          cases h
          by_cases c : i < j
          · rw [decide_eq_true c]; rfl
          · rw [decide_eq_false c, decide_eq_true (show j < i by omega)]; rfl
      · cases h
    · rcases flat_cases hy.1 with ⟨j, rfl⟩ | ⟨u, rfl⟩
      · cases h
      · have h : (if s = u then lexD xs ys else some (ltS s u)) = some t := h
        show (ltS s u || (!ltS u s && ltT xs ys)) = t
        by_cases e : s = u
        · rw [if_pos e] at h
          rw [lex_lt hx.2 hy.2 h, e, lt_irr]
          cases t <;> rfl
        · rw [if_neg e] at h
          cases h
          cases c : ltS s u
          · have d : ltS u s = true := by
              cases d : ltS u s
              · exact absurd (lt_tri c d) e
              · rfl
            rw [d]; rfl
          · rfl
theorem lex_cmp : ∀ {xs ys : List D} {t : Bool}, xs.all flatI = true → ys.all flatI = true → lexD xs ys = some t → cmpI xs ys = true
  | [], _, _, _, _, _ => by simp [cmpI]
  | x :: _, [], _, hx, _, _ => by
    rw [List.all_cons, Bool.and_eq_true] at hx
    rcases flat_cases hx.1 with ⟨i, rfl⟩ | ⟨s, rfl⟩ <;> rfl
  | x :: xs, y :: ys, t, hx, hy, h => by
    rw [List.all_cons, Bool.and_eq_true] at hx hy
    rcases flat_cases hx.1 with ⟨i, rfl⟩ | ⟨s, rfl⟩
    · rcases flat_cases hy.1 with ⟨j, rfl⟩ | ⟨u, rfl⟩
      · have h : (if i = j then lexD xs ys else some (decide (i < j))) = some t := h
        show (if (i == j) = true then cmpI xs ys else true) = true
        by_cases e : i = j
        · rw [if_pos e] at h
          rw [lex_cmp hx.2 hy.2 h, ite_self]
        · rw [if_neg (by simpa using e)]
      · cases h
    · rcases flat_cases hy.1 with ⟨j, rfl⟩ | ⟨u, rfl⟩
      · cases h
      · have h : (if s = u then lexD xs ys else some (ltS s u)) = some t := h
        show (if (s == u) = true then cmpI xs ys else true) = true
        by_cases e : s = u
        · rw [if_pos e] at h
          rw [lex_cmp hx.2 hy.2 h, ite_self]
        · rw [if_neg (by simpa using e)]
/-! ### sets -/
/-- a flat tuple -/
def Flt (d : D) : Prop := ∃ xs, d = .tup xs ∧ xs.all flatI = true
theorem flt_irr {a : D} (h : Flt a) : ltD a a = false := by
  obtain ⟨xs, rfl, h⟩ := h
  exact ltT_irr h
theorem flt_tri {a b : D} (ha : Flt a) (hb : Flt b) (h1 : ltD a b = false) (h2 : ltD b a = false) : a = b := by
  obtain ⟨xs, rfl, ha⟩ := ha
  obtain ⟨ys, rfl, hb⟩ := hb
  rw [ltT_tri ha hb h1 h2]
theorem flt_trans {a b c : D} (ha : Flt a) (hb : Flt b) (hc : Flt c) (h1 : ltD a b = true) (h2 : ltD b c = true) : ltD a c = true := by
  obtain ⟨xs, rfl, ha⟩ := ha
  obtain ⟨ys, rfl, hb⟩ := hb
  obtain ⟨zs, rfl, hc⟩ := hc
  exact ltT_trans ha hb hc h1 h2
theorem eqI_flat : ∀ {xs ys : List D}, xs.all flatI = true → ys.all flatI = true → (eqL xs ys = true ↔ xs = ys)
  | [], [], _, _ => by simp [eqL]
  | [], _ :: _, _, _ => by simp [eqL]
  | _ :: _, [], _, _ => by simp [eqL]
  | x :: xs, y :: ys, hx, hy => by
    rw [List.all_cons, Bool.and_eq_true] at hx hy
    show (eqD x y && eqL xs ys) = true ↔ _
    rw [Bool.and_eq_true, eqI_flat hx.2 hy.2]
    have : eqD x y = true ↔ x = y := by
      rcases flat_cases hx.1 with ⟨i, rfl⟩ | ⟨s, rfl⟩
      · rcases flat_cases hy.1 with ⟨j, rfl⟩ | ⟨t, rfl⟩
        · show (i == j) = true ↔ _
          simp
        · simp [eqD]
      · rcases flat_cases hy.1 with ⟨j, rfl⟩ | ⟨t, rfl⟩
        · simp [eqD]
        · show (s == t) = true ↔ _
          simp
    rw [this]
    simp
theorem flt_eq {a b : D} (ha : Flt a) (hb : Flt b) : eqD a b = true ↔ a = b := by
  obtain ⟨xs, rfl, ha⟩ := ha
  obtain ⟨ys, rfl, hb⟩ := hb
  show eqL xs ys = true ↔ _
  rw [eqI_flat ha hb]
  simp
def AscD (l : List D) : Prop := l.Pairwise fun a b => ltD a b = true
def Flts (l : List D) : Prop := ∀ x ∈ l, Flt x
theorem ins_ascD {x : D} (hx : Flt x) : ∀ {ys : List D}, Flts ys → x ∉ ys → AscD ys → AscD (ins x ys)
  | [], _, _, _ => List.pairwise_singleton _ _
  | y :: ys, hf, hn, h => by
    obtain ⟨h1, h2⟩ := List.pairwise_cons.mp h
    have fy := hf y List.mem_cons_self
    have fys : Flts ys := fun z hz => hf z (List.mem_cons_of_mem _ hz)
    unfold ins
    split
    · rename_i q
      refine List.Pairwise.cons ?_ (ins_ascD hx fys (fun w => hn (List.mem_cons_of_mem _ w)) h2)
      intro z hz
      rcases ins_mem hz with rfl | hz
      · exact q
      · exact h1 z hz
    · rename_i q
      have hlt : ltD x y = true := by
        cases e : ltD x y with
        | true => rfl
        | false =>
          have : x = y := flt_tri hx fy e (by simpa using q)
          exact absurd (this ▸ List.mem_cons_self) hn
      refine List.Pairwise.cons ?_ h
      intro z hz
      rcases List.mem_cons.mp hz with rfl | hz
      · exact hlt
      · exact flt_trans hx fy (fys z hz) hlt (h1 z hz)
theorem flts_isort {l : List D} (h : Flts l) : Flts (isort l) := fun x hx => h x (isort_mem hx)
theorem flts_dedup {l : List D} (h : Flts l) : Flts (dedup l) := fun x hx => h x (dedup_mem' hx)
theorem dedup_nodup : ∀ {ys : List D}, Flts ys → (dedup ys).Nodup
  | [], _ => List.nodup_nil
  | y :: ys, hf => by
    have fys : Flts ys := fun z hz => hf z (List.mem_cons_of_mem _ hz)
    refine List.nodup_cons.mpr ⟨fun h => ?_, (dedup_nodup fys).filter _⟩
    have := (List.mem_filter.mp h).2
    rw [(flt_eq (hf y List.mem_cons_self) (hf y List.mem_cons_self)).mpr rfl] at this
    cases this
theorem isort_ascD : ∀ {ys : List D}, Flts ys → ys.Nodup → AscD (isort ys)
  | [], _, _ => .nil
  | y :: ys, hf, h => by
    obtain ⟨h1, h2⟩ := List.nodup_cons.mp h
    have fys : Flts ys := fun z hz => hf z (List.mem_cons_of_mem _ hz)
    exact ins_ascD (hf y List.mem_cons_self) (flts_isort fys) (fun w => h1 (isort_mem w)) (isort_ascD fys h2)
theorem set_ascD {ys : List D} (h : Flts ys) : AscD (isort (dedup ys)) := isort_ascD (flts_dedup h) (dedup_nodup h)
theorem isort_id : ∀ {ys : List D}, Flts ys → AscD ys → isort ys = ys
  | [], _, _ => rfl
  | [y], _, _ => rfl
  | x :: y :: ys, hf, h => by
    obtain ⟨h1, h2⟩ := List.pairwise_cons.mp h
    show ins x (isort (y :: ys)) = _
    rw [isort_id (fun z hz => hf z (List.mem_cons_of_mem _ hz)) h2]
    unfold ins
    have hxy := h1 y List.mem_cons_self
    have fx := hf x List.mem_cons_self
    have fy := hf y (List.mem_cons_of_mem _ List.mem_cons_self)
    have : ltD y x = false := by
      cases e : ltD y x with
      | false => rfl
      | true =>
        have := flt_trans fx fy fx hxy e
        rw [flt_irr fx] at this
        cases this
    rw [this]; rfl
theorem dedup_id : ∀ {ys : List D}, Flts ys → AscD ys → dedup ys = ys
  | [], _, _ => rfl
  | y :: ys, hf, h => by
    obtain ⟨h1, h2⟩ := List.pairwise_cons.mp h
    have fy := hf y List.mem_cons_self
    have fys : Flts ys := fun z hz => hf z (List.mem_cons_of_mem _ hz)
    show y :: (dedup ys).filter _ = _
    rw [dedup_id fys h2, List.filter_eq_self.mpr]
    intro z hz
    have h3 := h1 z hz
    have : ¬ eqD y z = true := fun e => by
      rw [(flt_eq fy (fys z hz)).mp e, flt_irr (fys z hz)] at h3
      cases h3
    simpa using this
theorem eqL_flts : ∀ {xs ys : List D}, Flts xs → Flts ys → (eqL xs ys = true ↔ xs = ys)
  | [], [], _, _ => by simp [eqL]
  | [], _ :: _, _, _ => by simp [eqL]
  | _ :: _, [], _, _ => by simp [eqL]
  | x :: xs, y :: ys, hx, hy => by
    show (eqD x y && eqL xs ys) = true ↔ _
    rw [Bool.and_eq_true, eqL_flts (fun z hz => hx z (List.mem_cons_of_mem _ hz)) (fun z hz => hy z (List.mem_cons_of_mem _ hz)), flt_eq (hx x List.mem_cons_self) (hy y List.mem_cons_self)]
    simp
theorem ltB_lt {a b : D} (ha : Flt a) (hb : Flt b) (h : ∃ t, cmpD .lt a b = some t) : ltB a b = ltD a b := by
  obtain ⟨t, h⟩ := h
  unfold ltB
  rw [h]
  obtain ⟨xs, rfl, ha⟩ := ha
  obtain ⟨ys, rfl, hb⟩ := hb
  exact (lex_lt ha hb h).symm
theorem ascD_iff : ∀ {xs : List D}, Flts xs → Ltable xs → (ascD xs = true ↔ AscD xs)
  | [], _, _ => ⟨fun _ => .nil, fun _ => rfl⟩
  | [x], _, _ => ⟨fun _ => List.pairwise_singleton _ _, fun _ => rfl⟩
  | x :: y :: r, hf, hc => by
    have fx := hf x List.mem_cons_self
    have fy := hf y (List.mem_cons_of_mem _ List.mem_cons_self)
    have ft : Flts (y :: r) := fun z hz => hf z (List.mem_cons_of_mem _ hz)
    have hct : Ltable (y :: r) := fun a ha b hb => hc a (List.mem_cons_of_mem _ ha) b (List.mem_cons_of_mem _ hb)
    show (ltB x y && ascD (y :: r)) = true ↔ _
    rw [Bool.and_eq_true, ascD_iff ft hct, ltB_lt fx fy (hc x List.mem_cons_self y (List.mem_cons_of_mem _ List.mem_cons_self))]
    constructor
    · rintro ⟨h1, h2⟩
      refine List.Pairwise.cons (fun z hz => ?_) h2
      rcases List.mem_cons.mp hz with rfl | hz
      · exact h1
      · exact flt_trans fx fy (ft z (List.mem_cons_of_mem _ hz)) h1 ((List.pairwise_cons.mp h2).1 z hz)
    · intro h
      obtain ⟨h1, h2⟩ := List.pairwise_cons.mp h
      exact ⟨h1 y List.mem_cons_self, h2⟩
/-- a row is its own sorted set just if it ascends -/
theorem set_ascT {xs : List D} (hf : Flts xs) (hc : Ltable xs) : eqL xs (isort (dedup xs)) = ascD xs := by
  rw [Bool.eq_iff_iff, ascD_iff hf hc, eqL_flts hf (flts_isort (flts_dedup hf))]
  constructor
  · intro h
    rw [h]
    exact set_ascD hf
  · intro h
    rw [dedup_id hf h, isort_id hf h]
def tupF (d : D) : Prop := ∃ x r, d = .tup (x :: r) ∧ (x :: r).all flatI = true
theorem tupF.flt {d : D} (h : tupF d) : Flt d := by
  obtain ⟨x, r, rfl, h⟩ := h
  exact ⟨_, rfl, h⟩
theorem allT_of {xs : List D} (h : ∀ x ∈ xs, tupF x) (hc : Ltable xs) : allT xs = true := by
  unfold allT
  rw [Bool.and_eq_true, List.all_eq_true, List.all_eq_true]
  refine ⟨fun x hx => ?_, fun x hx => List.all_eq_true.mpr fun y hy => ?_⟩
  · obtain ⟨a, r, rfl, h1⟩ := h x hx
    rw [List.all_cons] at h1
    exact h1
  · obtain ⟨t, ht⟩ := hc x hx y hy
    obtain ⟨a, r, rfl, h1⟩ := h x hx
    obtain ⟨b, s, rfl, h2⟩ := h y hy
    exact lex_cmp h1 h2 ht
theorem ltable_lt {xs : List D} (h : ∀ x ∈ xs, ∃ a, x = .tup a ∧ a.all flatI = true) (hc : ∀ a b : List D, D.tup a ∈ xs → D.tup b ∈ xs → cmpI a b = true) : Ltable xs := fun x hx y hy => by
  obtain ⟨a, rfl, ha⟩ := h x hx
  obtain ⟨b, rfl, hb⟩ := h y hy
  have := hc a b hx hy
  show ∃ t, lexD a b = some t
  clear hx hy
  induction a generalizing b with
  | nil => exact ⟨_, by unfold lexD; rfl⟩
  | cons p r ih =>
    rw [List.all_cons, Bool.and_eq_true] at ha
    cases b with
    | nil =>
      rcases flat_cases ha.1 with ⟨i, rfl⟩ | ⟨s, rfl⟩ <;> exact ⟨_, rfl⟩
    | cons q t =>
      rw [List.all_cons, Bool.and_eq_true] at hb
      rcases flat_cases ha.1 with ⟨i, rfl⟩ | ⟨s, rfl⟩
      · rcases flat_cases hb.1 with ⟨j, rfl⟩ | ⟨u, rfl⟩
        · show ∃ z, (if i = j then lexD r t else some (decide (i < j))) = some z
          by_cases e : i = j
          · rw [if_pos e]
            have h2 : (if (i == j) = true then cmpI r t else true) = true := this
            rw [if_pos (by simpa using e)] at h2
            exact ih ha.2 t hb.2 h2
          · rw [if_neg e]; exact ⟨_, rfl⟩
        · cases this
      · rcases flat_cases hb.1 with ⟨j, rfl⟩ | ⟨u, rfl⟩
        · cases this
        · show ∃ z, (if s = u then lexD r t else some (ltS s u)) = some z
          by_cases e : s = u
          · rw [if_pos e]
            have h2 : (if (s == u) = true then cmpI r t else true) = true := this
            rw [if_pos (by simpa using e)] at h2
            exact ih ha.2 t hb.2 h2
          · rw [if_neg e]; exact ⟨_, rfl⟩
end MP

set_option Elab.async false
set_option linter.all false
set_option maxRecDepth 100000
/-! Cases, histories, rows with their photos, sights. -/
namespace MP
theorem q_lrng {mo : Nat → List Bool} {cf : CF} {a : ME} {env e1 : En} {j : Int} (h : evR mo cf a env = some (e1, .sh (.int j))) (lo : -1000000 ≤ j) (hi : j ≤ 1000000) : evR mo cf (.lrng a) env = some (e1, .own (rangeL 0 j.toNat)) := by
  simp only [evR, h, lo, hi, decide_true, Bool.and_self, if_true]
/-! ### texts and numbers in a row -/
def strO : D → Option (List Nat)
  | .str s => some s
  | _ => none
def intO : D → Option Int
  | .int i => some i
  | _ => none
def strsOf (xs : List D) : Row := xs.filterMap strO
def intsOf (xs : List D) : List Int := xs.filterMap intO
def siB (x : D) : Bool := isS x || numB x
theorem filter_isS : ∀ xs : List D, xs.filter isS = (strsOf xs).map D.str
  | [] => rfl
  | x :: xs => by
    have ih := filter_isS xs
    unfold strsOf at *
    cases x <;> first | exact ih | exact congrArg (_ :: ·) ih
theorem filter_num : ∀ xs : List D, xs.filter numB = (intsOf xs).map D.int
  | [] => rfl
  | x :: xs => by
    have ih := filter_num xs
    unfold intsOf at *
    cases x <;> first | exact ih | exact congrArg (_ :: ·) ih
theorem filter_notS : ∀ xs : List D, xs.all siB = true → (xs.filter fun x => !isS x) = (intsOf xs).map D.int
  | [], _ => rfl
  | x :: xs, h => by
    rw [List.all_cons, Bool.and_eq_true] at h
    have ih := filter_notS xs h.2
    unfold intsOf at *
    cases x <;> first | exact ih | exact congrArg (_ :: ·) ih | exact nomatch (show (false : Bool) = true from h.1)
theorem filter_notN : ∀ xs : List D, xs.all siB = true → (xs.filter fun x => !numB x) = (strsOf xs).map D.str
  | [], _ => rfl
  | x :: xs, h => by
    rw [List.all_cons, Bool.and_eq_true] at h
    have ih := filter_notN xs h.2
    unfold strsOf at *
    cases x <;> first | exact ih | exact congrArg (_ :: ·) ih | exact nomatch (show (false : Bool) = true from h.1)
theorem eqL_ints : ∀ a b : List Int, eqL (a.map D.int) (b.map D.int) = decide (a = b)
  | [], [] => rfl
  | [], _ :: _ => rfl
  | _ :: _, [] => rfl
  | x :: a, y :: b => by
    show (x == y && eqL (a.map D.int) (b.map D.int)) = _
    rw [eqL_ints a b, Bool.eq_iff_iff]
    simp
def rng (n : Nat) : List Int := (List.range n).map fun i : Nat => (i : Int)
theorem rangeL_off : ∀ (n : Nat) (lo : Int), rangeL lo n = (List.range n).map fun i => D.int (lo + (i : Nat))
  | 0, _ => rfl
  | n + 1, lo => by
    rw [List.range_succ_eq_map, List.map_cons, List.map_map]
    show D.int lo :: rangeL (lo + 1) n = _
    rw [rangeL_off n]
    refine congr (congrArg List.cons (by simp)) (List.map_congr_left fun i _ => ?_)
    show D.int (lo + 1 + (i : Nat)) = .int (lo + ((i + 1 : Nat) : Int))
    congr 1
    omega
theorem rangeL_rng (n : Nat) : rangeL 0 n = (rng n).map D.int := by
  rw [rangeL_off, rng, List.map_map]
  refine List.map_congr_left fun i _ => ?_
  show D.int (0 + (i : Int)) = .int i
  rw [Int.zero_add]
theorem rng_len (n : Nat) : (rng n).length = n := by rw [rng, List.length_map, List.length_range]
theorem rng_succ (n : Nat) : rng (n + 1) = rng n ++ [(n : Int)] := by
  rw [rng, List.range_succ, List.map_append]; rfl
theorem mem_rng {n : Nat} {i : Int} : i ∈ rng n ↔ 0 ≤ i ∧ i < n := by
  unfold rng
  rw [List.mem_map]
  constructor
  · rintro ⟨j, h, rfl⟩
    have := List.mem_range.mp h
    omega
  · rintro ⟨h1, h2⟩
    exact ⟨i.toNat, List.mem_range.mpr (by omega), by omega⟩
theorem depL_si : ∀ xs : List D, xs.all siB = true → depL xs = 0
  | [], _ => rfl
  | x :: xs, h => by
    rw [List.all_cons, Bool.and_eq_true] at h
    have ih := depL_si xs h.2
    have : dep x = 0 := by cases x <;> first | rfl | exact nomatch (show (false : Bool) = true from h.1)
    rw [depL, ih, this]; rfl
theorem ok_si {b : Bool} {xs : List D} (h : xs.all siB = true) (hl : xs.length ≤ 1000) : Ok (sq b xs) := by
  refine plm_up (m := 1000) (k := 1) (Nat.le_refl _) (by omega) (plm_sq.mpr ⟨hl, fun x hx => ?_⟩)
  have := List.all_eq_true.mp h x hx
  cases x <;> first | rfl | exact nomatch (show (false : Bool) = true from this)
/-! ### cases -/
def butB : D → Bool
  | .tup [f, .int n, _, k] => fenceB f && (decide (0 ≤ n) && rowsB (factB (namesS (fenceO f)) n) k)
  | _ => false
def caseB : D → Bool
  | .tup [f, .int n, t, k] => (fenceB f && (decide (0 ≤ n) && rowsB (factB (namesS (fenceO f)) n) k)) && rowsB (tellB (fenceO f) n) t
  | _ => false
theorem quad_of {xs : List D} (h : xs.length = 4) : ∃ a b c e, xs = [a, b, c, e] := by
  match xs, h with
  | [a, b, c, e], _ => exact ⟨a, b, c, e, rfl⟩
theorem but_not {xs : List D} (h : xs.length ≠ 4) : butB (.tup xs) = false := by
  match xs with
  | [] => rfl
  | [_] => rfl
  | [_, b] => cases b <;> rfl
  | [_, b, _] => cases b <;> rfl
  | [a, b, c, e] => exact absurd rfl h
  | _ :: b :: _ :: _ :: _ :: _ => cases b <;> rfl
theorem but_of {d : D} (h : butB d = true) : ∃ (ps : List Bill) (n : Int) (t k : D), d = .tup [fenceX true ps, .int n, t, k] ∧ Asc (namesS ps) ∧ (∀ p ∈ ps, okBill p) ∧ 0 ≤ n ∧ rowsB (factB (namesS ps) n) k = true := by
  cases d with
  | tup xs =>
    by_cases h4 : xs.length = 4
    · obtain ⟨f, b, t, k, rfl⟩ := quad_of h4
      cases b with
      | int n =>
        have h : (fenceB f && (decide (0 ≤ n) && rowsB (factB (namesS (fenceO f)) n) k)) = true := h
        rw [Bool.and_eq_true, Bool.and_eq_true, decide_eq_true_eq] at h
        obtain ⟨ps, rfl, h1, h2⟩ := fence_of h.1
        rw [fenceO_X] at h
        exact ⟨ps, n, t, k, rfl, h1, h2, h.2.1, h.2.2⟩
      | _ => cases h
    · rw [but_not h4] at h; cases h
  | _ => cases h
theorem case_but (d : D) (h : butB d = false) : caseB d = false := by
  cases d with
  | tup xs =>
    match xs, h with
    | [], _ => rfl
    | [_], _ => rfl
    | [_, b], _ => cases b <;> rfl
    | [_, b, _], _ => cases b <;> rfl
    | [f, b, t, k], h =>
      cases b with
      | int n =>
        have h : (fenceB f && (decide (0 ≤ n) && rowsB (factB (namesS (fenceO f)) n) k)) = false := h
        show ((fenceB f && (decide (0 ≤ n) && rowsB (factB (namesS (fenceO f)) n) k)) && _) = false
        rw [h]; rfl
      | _ => rfl
    | _ :: b :: _ :: _ :: _ :: _, _ => cases b <;> rfl
  | _ => rfl
section
variable {mo : Nat → List Bool} {cf : CF}
def RowsF (mo : Nat → List Bool) (cf : CF) (k : Nat) (p : List Bill → Int → D → Bool) : Prop := mo k = [false, false, false] ∧ ∀ (ps : List Bill) (n : Int) (d : D), ps.length ≤ 1000 → Ok d → cf k [.sh (fenceX true ps), .sh (.int n), .sh d] = some (.sh (.bl (rowsB (p ps n) d)), [])
def FCaseBut (fen num fac : Nat) : MF := { np := 1, nn := 5, mu := [false], body :=
  (.cons (.ite (.or (.not (.isi (.var 0) [.tuple] true)) (.one (.cmp .ne (.bi .len (.cons (.var 0) .nil)) (.k (.int 4))))) (.cons (.ret (.k (.bl false)))
  .nil) .nil)
  (.cons (.asg (.tp (.cons (.nm 1) (.cons (.nm 2) (.cons (.nm 3) (.cons (.nm 4) .nil))))) (.var 0))
  (.cons (.ite (.or (.not (.call fen (.cons (.var 1) .nil))) (.or (.not (.call num (.cons (.var 2) .nil))) (.one (.cmp .lt (.var 2) (.k (.int 0)))))) (.cons (.ret (.k (.bl false)))
  .nil) .nil)
  (.cons (.ret (.call fac (.cons (.var 1) (.cons (.var 2) (.cons (.var 4) .nil)))))
  .nil)))) }
theorem but_g {fen num fac : Nat} (hf : Pr mo cf fen fenceB) (hu : Pr mo cf num numB) (hr : RowsF mo cf fac fun ps n => factB (namesS ps) n) (d : D) (hd : Ok d) : runF mo cf (FCaseBut fen num fac) [.sh d] = some (.sh (.bl (butB d)), []) := by
  cases d with
  | duo xs => exact absurd rfl (hd.nd xs)
  | tup xs =>
    refine fp_eq ?_
    refine f_run rfl ?_
    refine w_ite (t := !(((xs.length : Int)) == 4)) (e1 := [S (.tup xs), none, none, none, none]) (t_dv (q_orb (p := false) (q := !(((xs.length : Int)) == 4)) rfl fun _ => q_one (q_cmp (x := .int xs.length) rfl rfl rfl rfl rfl)) rfl rfl) (fun h => ?_) (fun h => w_nil ?_)
    · have h : ((xs.length : Int) == 4) = false := by simpa using h
      refine w_rete rfl rfl ⟨_, rfl, ?_, rfl⟩
      rw [but_not fun z => by rw [z] at h; cases h]
    have h : ((xs.length : Int) == 4) = true := by simpa using h
    obtain ⟨f, b, t, k, rfl⟩ := quad_of (show xs.length = 4 by have := eq_of_beq h; omega)
    have of : Ok f := Ok.mem (b := true) hd (by simp)
    have ob : Ok b := Ok.mem (b := true) hd (by simp)
    have ok : Ok k := Ok.mem (b := true) hd (by simp)
    apply w_asgT (v := .sh (.tup [f, b, t, k])) (e2 := [S (.tup [f, b, t, k]), S f, S b, S t, S k]) rfl rfl rfl
    cases hfb : fenceB f
    · refine w_ite (t := true) (e1 := [S (.tup [f, b, t, k]), S f, S b, S t, S k]) (t_dv (q_or_t (r := .sh (.bl (!(fenceB f)))) (q_not (x := .bl (fenceB f)) (o_dv (q_call hf.1 rfl rfl rfl (hf.2 f of) rfl) rfl) rfl) (by rw [hfb]; rfl)) rfl (by rw [hfb]; rfl)) (fun _ => ?_) (fun h => by cases h)
      refine w_rete rfl rfl ⟨_, rfl, ?_, rfl⟩
      cases b <;> first | rfl | skip
      show RV.sh (.bl false) = .sh (.bl (fenceB f && _))
      rw [hfb]; rfl
    have hnf : evR mo cf (.not (.call fen (.cons (.var 1) .nil))) [S (.tup [f, b, t, k]), S f, S b, S t, S k] = some ([S (.tup [f, b, t, k]), S f, S b, S t, S k], .sh (.bl (!(fenceB f)))) := q_not (x := .bl (fenceB f)) (o_dv (q_call hf.1 rfl rfl rfl (hf.2 f of) rfl) rfl) rfl
    rw [hfb] at hnf
    have hnn : evR mo cf (.not (.call num (.cons (.var 2) .nil))) [S (.tup [f, b, t, k]), S f, S b, S t, S k] = some ([S (.tup [f, b, t, k]), S f, S b, S t, S k], .sh (.bl (!(numB b)))) := q_not (x := .bl (numB b)) (o_dv (q_call hu.1 rfl rfl rfl (hu.2 b ob) rfl) rfl) rfl
    cases hnb : numB b
    · rw [hnb] at hnn
      refine w_ite (t := true) (e1 := [S (.tup [f, b, t, k]), S f, S b, S t, S k]) (t_dv (q_or_f hnf rfl (q_one (q_or_t hnn rfl))) rfl rfl) (fun _ => ?_) (fun h => by cases h)
      refine w_rete rfl rfl ⟨_, rfl, ?_, rfl⟩
      cases b <;> first | rfl | cases hnb
    cases b with
    | int n =>
      obtain ⟨ps, rfl, _⟩ := fence_of hfb
      have hl : ps.length ≤ 1000 := by
        have := Ok.len (b := true) of
        rwa [List.length_map] at this
      have hv : butB (.tup [fenceX true ps, .int n, t, k]) = (decide (0 ≤ n) && rowsB (factB (namesS ps) n) k) := by
        show (fenceB (fenceX true ps) && (decide (0 ≤ n) && rowsB (factB (namesS (fenceO (fenceX true ps))) n) k)) = _
        rw [hfb, fenceO_X]; rfl
      refine w_ite (t := decide (n < 0)) (e1 := [S (.tup [fenceX true ps, .int n, t, k]), S (fenceX true ps), S (.int n), S t, S k]) (t_dv (q_or_f hnf rfl (q_one (q_or_f hnn (by rfl) (q_one (q_cmp rfl rfl rfl rfl rfl))))) rfl rfl) (fun h => ?_) (fun h => w_nil ?_)
      · refine w_rete rfl rfl ⟨_, rfl, ?_, rfl⟩
        rw [hv, decide_eq_false (by have := of_decide_eq_true h; omega)]; rfl
      · refine w_rete (q_call hr.1 rfl rfl rfl (hr.2 ps n k hl ok) rfl) rfl ⟨_, rfl, ?_, rfl⟩
        rw [hv, decide_eq_true (by have := of_decide_eq_false h; omega)]; rfl
    | _ => cases hnb
  | _ => rfl
def FCase (but tol : Nat) : MF := { np := 1, nn := 1, mu := [false], body :=
  (.cons (.ret (.and (.call but (.cons (.var 0) .nil)) (.one (.call tol (.cons (.ix (.var 0) (.k (.int 0))) (.cons (.ix (.var 0) (.k (.int 1))) (.cons (.ix (.var 0) (.k (.int 2))) .nil)))))))
  .nil) }
theorem case_g {but tol : Nat} (hb : Pr mo cf but butB) (hr : RowsF mo cf tol tellB) (d : D) (hd : Ok d) : runF mo cf (FCase but tol) [.sh d] = some (.sh (.bl (caseB d)), []) := by
  refine fp_eq ?_
  refine f_run rfl ?_
  have k1 := hb.2 d hd
  cases hbd : butB d
  · rw [hbd] at k1
    refine w_rete (q_and_f (r := .sh (.bl false)) (q_call hb.1 rfl rfl rfl k1 rfl) rfl) rfl ⟨_, rfl, ?_, rfl⟩
    rw [case_but d hbd]
  · rw [hbd] at k1
    obtain ⟨ps, n, t, k, rfl, h1, h2, h3, h4⟩ := but_of hbd
    have of : Ok (fenceX true ps) := Ok.mem (b := true) hd (by simp)
    have ot : Ok t := Ok.mem (b := true) hd (by simp)
    have hl : ps.length ≤ 1000 := by
      have := Ok.len (b := true) of
      rwa [List.length_map] at this
    refine w_rete (q_and_t (r := .sh (.bl true)) (q_call hb.1 rfl rfl rfl k1 rfl) rfl (q_one (q_call hr.1 rfl rfl rfl (hr.2 ps n t hl ot) rfl))) rfl ⟨_, rfl, ?_, rfl⟩
    have hbd : (fenceB (fenceX true ps) && (decide (0 ≤ n) && rowsB (factB (namesS (fenceO (fenceX true ps))) n) k)) = true := hbd
    show RV.sh (.bl _) = .sh (.bl ((fenceB (fenceX true ps) && (decide (0 ≤ n) && rowsB (factB (namesS (fenceO (fenceX true ps))) n) k)) && rowsB (tellB (fenceO (fenceX true ps)) n) t))
    rw [hbd, fenceO_X]; rfl
/-! ### histories -/
def nnB (x : D) : Bool := nameB x || numB x
theorem nn_si {xs : List D} (h : xs.all nnB = true) : xs.all siB = true := by
  rw [List.all_eq_true] at *
  intro x hx
  have := h x hx
  cases x <;> first | rfl | exact nomatch (show (false : Bool) = true from this)
def histB (ks : Row) (n : Nat) : D → Bool
  | .tup xs => xs.all nnB && (decide (sortS (strsOf xs) = ks) && decide (intsOf xs = rng n))
  | _ => false
def FPhotosIn (num : Nat) : MF := { np := 1, nn := 2, mu := [false], body :=
  (.cons (.ret (.lc (.nm 1) (.seq (.var 0)) (.call num (.cons (.var 1) .nil)) (.var 1) [1]))
  .nil) }
def FNamesIn (num : Nat) : MF := { np := 1, nn := 2, mu := [false], body :=
  (.cons (.ret (.lc (.nm 1) (.seq (.var 0)) (.not (.call num (.cons (.var 1) .nil))) (.var 1) [1]))
  .nil) }
theorem photosin_g {num : Nat} (hu : Pr mo cf num numB) (xs : List D) (hd : Ok (.tup xs)) : runF mo cf (FPhotosIn num) [.sh (.tup xs)] = some (.own ((intsOf xs).map D.int), []) := by
  refine fp_eq ?_
  refine f_run rfl ?_
  have hl : xs.length ≤ 1000 := Ok.len (b := true) hd
  have := q_A (mo := mo) (cf := cf) (t := .nm 1) (it := .seq (.var 0)) (c := .call num (.cons (.var 1) .nil)) (e := .var 1) (vs := [1]) (env := [S (.tup xs), none]) xs (fun x => x) (g := fun x => x) (p := numB) (by rw [List.map_id']; exact i_seq (r := .sh (.tup xs)) rfl (.inr (.inl rfl))) rfl (by omega) (fun x hx => OneA.mk (en1 := [S (.tup xs), S x]) rfl (t_dv (q_call hu.1 rfl rfl rfl (hu.2 x (Ok.mem (b := true) hd hx)) rfl) rfl rfl) rfl fun _ => OneE.mk (r := .sh x) rfl rfl rfl)
  rw [List.map_id', filter_num] at this
  exact w_rete this rfl ⟨_, rfl, rfl, rfl⟩
theorem namesin_g {num : Nat} (hu : Pr mo cf num numB) (xs : List D) (hd : Ok (.tup xs)) (hs : xs.all siB = true) : runF mo cf (FNamesIn num) [.sh (.tup xs)] = some (.own ((strsOf xs).map D.str), []) := by
  refine fp_eq ?_
  refine f_run rfl ?_
  have hl : xs.length ≤ 1000 := Ok.len (b := true) hd
  have := q_A (mo := mo) (cf := cf) (t := .nm 1) (it := .seq (.var 0)) (c := .not (.call num (.cons (.var 1) .nil))) (e := .var 1) (vs := [1]) (env := [S (.tup xs), none]) xs (fun x => x) (g := fun x => x) (p := fun x => !numB x) (by rw [List.map_id']; exact i_seq (r := .sh (.tup xs)) rfl (.inr (.inl rfl))) rfl (by omega) (fun x hx => OneA.mk (en1 := [S (.tup xs), S x]) rfl (t_dv (q_not (x := .bl (numB x)) (o_dv (q_call hu.1 rfl rfl rfl (hu.2 x (Ok.mem (b := true) hd hx)) rfl) rfl) rfl) rfl rfl) rfl fun _ => OneE.mk (r := .sh x) rfl rfl rfl)
  rw [List.map_id', filter_notN xs hs] at this
  exact w_rete this rfl ⟨_, rfl, rfl, rfl⟩
def FHist (num nam names phs nms : Nat) : MF := { np := 3, nn := 5, mu := [false, false, false], body :=
  (.cons (.ite (.or (.not (.isi (.var 2) [.tuple] true)) (.one (.not (.bi .all (.cons (.lc (.nm 4) (.seq (.var 2)) .nop (.or (.call nam (.cons (.var 4) .nil)) (.one (.call num (.cons (.var 4) .nil)))) [4]) .nil))))) (.cons (.ret (.k (.bl false)))
  .nil) .nil)
  (.cons (.ite (.cmp .ne (.bi .tuple (.cons (.bi .sorted (.cons (.call nms (.cons (.var 2) .nil)) .nil)) .nil)) (.call names (.cons (.var 0) .nil))) (.cons (.ret (.k (.bl false)))
  .nil) .nil)
  (.cons (.asg (.nm 3) (.call phs (.cons (.var 2) .nil)))
  (.cons (.ret (.and (.cmp .eq (.bi .len (.cons (.var 3) .nil)) (.var 1)) (.one (.cmp .eq (.var 3) (.lrng (.bi .len (.cons (.var 3) .nil)))))))
  .nil)))) }
theorem strsOf_len (xs : List D) : (strsOf xs).length ≤ xs.length := List.length_filterMap_le _ _
theorem intsOf_len (xs : List D) : (intsOf xs).length ≤ xs.length := List.length_filterMap_le _ _
theorem shal_intsL (l : List Int) : shal (.lst (l.map D.int)) = true := by
  unfold shal dep
  rw [depL_ints]; rfl
theorem hist_g {num nam names phs nms : Nat} (hu : Pr mo cf num numB) (hn : Pr mo cf nam nameB) (hs : NamesF mo cf names) (hm1 : mo phs = [false]) (h1 : ∀ xs, Ok (.tup xs) → cf phs [.sh (.tup xs)] = some (.own ((intsOf xs).map D.int), [])) (hm2 : mo nms = [false]) (h2 : ∀ xs, Ok (.tup xs) → xs.all siB = true → cf nms [.sh (.tup xs)] = some (.own ((strsOf xs).map D.str), []))
    (t : Bool) (ps : List Bill) (n : Nat) (d : D) (hl : ps.length ≤ 1000) (hd : Ok d) : runF mo cf (FHist num nam names phs nms) [.sh (fenceX t ps), .sh (.int n), .sh d] = some (.sh (.bl (histB (namesS ps) n d)), []) := by
  cases d with
  | duo xs => exact absurd rfl (hd.nd xs)
  | tup xs =>
    have hx : xs.length ≤ 1000 := Ok.len (b := true) hd
    refine fp_eq ?_
    refine f_run rfl ?_
    refine w_ite (t := !(xs.all nnB)) (e1 := [S (fenceX t ps), S (.int n), S (.tup xs), none, none]) ?_ (fun h => ?_) fun h => w_nil ?_
    · refine t_dv (q_orb (p := false) (q := !(xs.all nnB)) rfl fun _ => q_one ?_) rfl (by rw [Bool.false_or]; rfl)
      refine (q_not (x := .bl (xs.all nnB)) (o_dv (q_bi (op_cons (o_dv (q_M xs (fun x => x) (g := fun x => D.bl (nnB x)) (by rw [List.map_id']; exact i_seq (r := .sh (.tup xs)) rfl (.inr (.inl rfl))) rfl (by omega) fun x hx => ?_) rfl) rfl) rfl (b_all (allB_bl _ xs))) rfl) ?_)
      · have ox := Ok.mem (b := true) hd hx
        exact OneM.mk (en := [S (fenceX t ps), S (.int n), S (.tup xs), none, S x]) (r := .sh (.bl (nameB x || numB x))) rfl (q_orb (q_call hn.1 rfl rfl rfl (hn.2 x ox) rfl) fun _ => q_one (q_call hu.1 rfl rfl rfl (hu.2 x ox) rfl)) rfl rfl
      · rw [all_bl]; rfl
    · have : xs.all nnB = false := by simpa using h
      refine w_rete rfl rfl ⟨_, rfl, ?_, rfl⟩
      show RV.sh (.bl false) = .sh (.bl (xs.all nnB && _))
      rw [this]; rfl
    have hnn : xs.all nnB = true := by simpa using h
    have hsi := nn_si hnn
    have hv : histB (namesS ps) n (.tup xs) = (decide (sortS (strsOf xs) = namesS ps) && decide (intsOf xs = rng n)) := by
      show (xs.all nnB && _) = _
      rw [hnn]; rfl
    have k2 := h2 xs hd hsi
    have k1 := h1 xs hd
    have k3 := hs.2 t ps hl
    rw [tagsD_names] at k3
    refine w_ite (t := !decide (sortS (strsOf xs) = namesS ps)) (e1 := [S (fenceX t ps), S (.int n), S (.tup xs), none, none]) (t_dv (q_cmp (x := .tup ((sortS (strsOf xs)).map D.str)) (y := .tup ((namesS ps).map D.str)) (r := !decide (sortS (strsOf xs) = namesS ps)) (o_dv (q_bi (op_cons (o_dv (q_bi (op_cons (o_dv (q_call hm2 rfl rfl rfl k2 rfl) rfl) rfl) rfl (b_sortedS _)) rfl) rfl) rfl rfl) rfl) (o_dv (q_call hs.1 rfl rfl rfl k3 rfl) rfl) rfl rfl ?_) rfl rfl) (fun h => ?_) (fun h => w_nil ?_)
    · refine (c_ne (x := .tup ((sortS (strsOf xs)).map D.str)) (y := .tup ((namesS ps).map D.str)) (Ok.dep (ok_row (b := true) (ss := sortS (strsOf xs)) (by rw [sortS_len]; have := strsOf_len xs; omega)) |> fun z => Nat.le_trans z (by omega)) (Ok.dep (ok_row (b := true) (ss := namesS ps) (by rw [namesS_len]; omega)) |> fun z => Nat.le_trans z (by omega))).trans ?_
      show some (!eqL ((sortS (strsOf xs)).map D.str) ((namesS ps).map D.str)) = _
      rw [eqL_map]
      congr 2
      rw [Bool.eq_iff_iff, beq_iff_eq, decide_eq_true_eq]
    · refine w_rete rfl rfl ⟨_, rfl, ?_, rfl⟩
      have : decide (sortS (strsOf xs) = namesS ps) = false := by simpa using h
      rw [hv, this]; rfl
    · have : decide (sortS (strsOf xs) = namesS ps) = true := by simpa using h
      rw [this] at hv
      have li := intsOf_len xs
      apply w_asg (v := .own ((intsOf xs).map D.int)) (e2 := [S (fenceX t ps), S (.int n), S (.tup xs), O ((intsOf xs).map D.int), none]) (q_call hm1 rfl rfl rfl k1 rfl) rfl
      refine w_rete (v := .sh (.bl (((((intsOf xs).map D.int).length : Int) == (n : Int)) && eqL ((intsOf xs).map D.int) (rangeL 0 ((intsOf xs).map D.int).length)))) (q_andb ?_ fun _ => q_one ?_) rfl ⟨_, rfl, ?_, rfl⟩
      · refine q_cmp (x := .int ((intsOf xs).map D.int).length) (y := .int n) rfl rfl rfl rfl ?_
        rw [c_eq (Nat.zero_le _) (Nat.zero_le _)]; rfl
      · refine q_cmp (x := .lst ((intsOf xs).map D.int)) (y := .lst (rangeL 0 ((intsOf xs).map D.int).length)) rfl (o_dv (q_lrng (j := ((intsOf xs).map D.int).length) rfl (by omega) (by rw [List.length_map]; omega)) rfl) rfl rfl ?_
        have s1 := shal_intsL (intsOf xs)
        have s2 := shal_intsL (rng ((intsOf xs).map D.int).length)
        rw [← rangeL_rng] at s2
        show (if shal (.lst ((intsOf xs).map D.int)) && shal (.lst (rangeL 0 ((intsOf xs).map D.int).length)) then some (eqD (.lst ((intsOf xs).map D.int)) (.lst (rangeL 0 ((intsOf xs).map D.int).length))) else none) = _
        rw [s1, s2]; rfl
      · rw [hv, Bool.true_and, rangeL_rng, eqL_ints, List.length_map]
        congr 2
        rw [Bool.eq_iff_iff, Bool.and_eq_true, decide_eq_true_eq, decide_eq_true_eq, beq_iff_eq]
        constructor
        · rintro ⟨a, b⟩
          rw [b]
          congr 1
          omega
        · intro h
          have : (intsOf xs).length = n := by rw [h, rng_len]
          rw [this]
          exact ⟨rfl, h⟩
  | _ => rfl
end
end MP

set_option Elab.async false
set_option linter.all false
set_option maxRecDepth 100000
/-! Rows with their photos, what shows, sights. -/
namespace MP
structure RowOk (ks : Row) (n : Nat) (xs : List D) : Prop where
  si : xs.all siB = true
  txt : (strsOf xs).Perm ks
  nrs : intsOf xs = rng n
  len : xs.length = ks.length + n
theorem si_app {a b : List D} : (a ++ b).all siB = true ↔ a.all siB = true ∧ b.all siB = true := by
  rw [List.all_append, Bool.and_eq_true]
theorem strs_app (a b : List D) : strsOf (a ++ b) = strsOf a ++ strsOf b := List.filterMap_append ..
theorem ints_app (a b : List D) : intsOf (a ++ b) = intsOf a ++ intsOf b := List.filterMap_append ..
theorem strs_map (ss : Row) : strsOf (ss.map D.str) = ss := by
  unfold strsOf
  rw [List.filterMap_map]
  exact (List.filterMap_some (l := ss))
theorem ints_map (ss : Row) : intsOf (ss.map D.str) = [] := by
  unfold intsOf
  rw [List.filterMap_map]
  exact List.filterMap_eq_nil_iff.mpr fun _ _ => rfl
theorem si_map (ss : Row) : (ss.map D.str).all siB = true := by
  rw [List.all_map]
  exact List.all_eq_true.mpr fun _ _ => rfl
/-- where a photo stands -/
theorem pos_int : ∀ {xs : List D} {L R : List Int} {m : Int}, xs.all siB = true → intsOf xs = L ++ m :: R → m ∉ L → ∃ p, posL (.int m) xs = some p ∧ p < xs.length ∧ intsOf (xs.take p) = L ∧ intsOf (xs.drop (p + 1)) = R
  | [], L, R, m, _, h, _ => by
    have : L ++ m :: R = [] := h.symm
    simp at this
  | x :: xs, L, R, m, hs, h, hm => by
    rw [List.all_cons, Bool.and_eq_true] at hs
    cases x with
    | str s =>
      have h : intsOf xs = L ++ m :: R := h
      obtain ⟨p, h1, h2, h3, h4⟩ := pos_int hs.2 h hm
      refine ⟨p + 1, ?_, by rw [List.length_cons]; omega, h3, h4⟩
      show (if eqD (.str s) (.int m) = true then some 0 else (posL (.int m) xs).map (· + 1)) = _
      rw [if_neg (show ¬ eqD (.str s) (.int m) = true from fun z => nomatch z), h1]
      rfl
    | int i =>
      have h : i :: intsOf xs = L ++ m :: R := h
      cases L with
      | nil =>
        obtain ⟨rfl, h'⟩ := List.cons.inj h
        refine ⟨0, ?_, Nat.succ_pos _, rfl, h'⟩
        show (if (i == i) = true then some 0 else (posL (.int i) xs).map (· + 1)) = _
        rw [if_pos (beq_self_eq_true i)]
      | cons l L =>
        obtain ⟨rfl, h'⟩ := List.cons.inj h
        obtain ⟨p, h1, h2, h3, h4⟩ := pos_int hs.2 h' fun z => hm (List.mem_cons_of_mem _ z)
        refine ⟨p + 1, ?_, by rw [List.length_cons]; omega, ?_, h4⟩
        · show (if (i == m) = true then some 0 else (posL (.int m) xs).map (· + 1)) = _
          rw [if_neg (by
            intro z
            exact hm (eq_of_beq z ▸ List.mem_cons_self)), h1]
          rfl
        · show i :: intsOf (xs.take p) = _
          rw [h3]
    | _ => exact nomatch (show (false : Bool) = true from hs.1)
theorem idx_int {xs : List D} {m : Int} {p : Nat} (hs : xs.all siB = true) (h : posL (.int m) xs = some p) : idxD (.tup xs) (.tup xs) (.int m) = some (.int (p : Nat)) := by
  have s1 : shal (.tup xs) = true := by unfold shal dep; rw [depL_si xs hs]; rfl
  show (if shal (.int m) && shal (.tup xs) then (posL (.int m) xs).map fun j : Nat => D.int (j : Int) else none) = _
  rw [s1, h]
  rfl
theorem rng_split {n : Nat} {i : Int} (h0 : 0 ≤ i) (h : i < n) : ∃ L R, rng n = L ++ i :: R ∧ i ∉ L := by
  have hm : i ∈ rng n := mem_rng.mpr ⟨h0, h⟩
  obtain ⟨L, R, e, hl⟩ := List.append_of_mem hm |> fun ⟨L, R, e⟩ => (⟨L, R, e, by
    have nd : (rng n).Nodup := by
      unfold rng
      exact List.pairwise_map.mpr (List.Pairwise.imp (fun h z => h (by omega)) List.nodup_range)
    rw [e] at nd
    intro z
    have := (List.nodup_append.mp nd).2.2 i z i List.mem_cons_self
    exact this rfl⟩ : ∃ L R, rng n = L ++ i :: R ∧ i ∉ L)
  exact ⟨L, R, e, hl⟩
theorem RowOk.pos {ks : Row} {n : Nat} {xs : List D} (h : RowOk ks n xs) {i : Int} (h0 : 0 ≤ i) (h1 : i < n) : ∃ p, posL (.int i) xs = some p ∧ p < xs.length ∧ idxD (.tup xs) (.tup xs) (.int i) = some (.int (p : Nat)) := by
  obtain ⟨L, R, e, hl⟩ := rng_split h0 h1
  obtain ⟨p, h1, h2, _, _⟩ := pos_int h.si (by rw [h.nrs]; exact e) hl
  exact ⟨p, h1, h2, idx_int h.si h1⟩
/-- the last photo's place -/
theorem RowOk.last {ks : Row} {n : Nat} {xs : List D} (h : RowOk ks (n + 1) xs) : ∃ p, p < xs.length ∧ idxD (.tup xs) (.tup xs) (.int (n : Nat)) = some (.int (p : Nat)) ∧ intsOf (xs.drop (p + 1)) = [] := by
  have hn : ((n : Nat) : Int) ∉ rng n := fun z => by have := (mem_rng.mp z).2; omega
  obtain ⟨p, h1, h2, _, h4⟩ := pos_int (L := rng n) (R := []) (m := (n : Nat)) h.si (by rw [h.nrs, rng_succ]) hn
  exact ⟨p, h2, idx_int h.si h1, h4⟩
theorem RowOk.put {ks : Row} {n k : Nat} {xs : List D} (h : RowOk ks n xs) (hk : k ≤ xs.length) (hd : intsOf (xs.drop k) = []) : RowOk ks (n + 1) (xs.take k ++ .int (n : Nat) :: xs.drop k) := by
  have e1 := List.take_append_drop k xs
  have s := h.si
  rw [← e1, si_app] at s
  have ei : intsOf (xs.take k) = rng n := by
    have := h.nrs
    rw [← e1, ints_app, hd, List.append_nil] at this
    exact this
  refine ⟨si_app.mpr ⟨s.1, ?_⟩, ?_, ?_, ?_⟩
  · rw [List.all_cons, s.2]; rfl
  · have := h.txt
    rw [← e1, strs_app] at this
    rw [strs_app]
    exact this
  · rw [ints_app, ei, rng_succ]
    show rng n ++ ((n : Int) :: intsOf (xs.drop k)) = _
    rw [hd]
  · have := h.len
    rw [List.length_append, List.length_cons, List.length_take, List.length_drop]
    omega
theorem RowOk.zero {ks os : Row} (h : os.Perm ks) : RowOk ks 0 (os.map D.str) := ⟨si_map os, by rw [strs_map]; exact h, ints_map os, by rw [List.length_map, h.length_eq]; rfl⟩
theorem RowOk.ok {ks : Row} {n : Nat} {xs : List D} (h : RowOk ks n xs) (hl : ks.length + n ≤ 1000) : Ok (.tup xs) := ok_si (b := true) h.si (by have := h.len; omega)
theorem sortS_perm : ∀ ss : Row, (sortS ss).Perm ss := fun ss => by
  have := (isort_perm (ss.map D.str)).map unS
  rw [sort_map, unS_map, unS_map] at this
  exact this
theorem sortS_of_perm {a b : Row} (h : a.Perm b) (hb : Asc b) : sortS a = b := by
  have e : sortT a = sortT b := sortT_uniq ((sortT_perm a).trans h) (sortT_sorted a)
  have q : ∀ ss : Row, sortS ss = sortT ss := fun ss => by
    have := (sort_map ss).symm.trans (isort_str ss)
    have := congrArg (List.map unS) this
    rwa [unS_map, unS_map] at this
  rw [q, e, ← q, sort_asc hb]
/-- a whole row is a history -/
theorem RowOk.hist {ks : Row} {n : Nat} {xs : List D} (h : RowOk ks n xs) (ha : Asc ks) (hn : ∀ k ∈ ks, nameS k = true) : histB ks n (.tup xs) = true := by
  show (xs.all nnB && (decide (sortS (strsOf xs) = ks) && decide (intsOf xs = rng n))) = true
  rw [sortS_of_perm h.txt ha, h.nrs, decide_eq_true rfl, decide_eq_true rfl, Bool.and_true, Bool.and_true]
  refine List.all_eq_true.mpr fun x hx => ?_
  have := List.all_eq_true.mp h.si x hx
  cases x with
  | str s =>
    show (nameS s || false) = true
    rw [hn s (h.txt.mem_iff.mp (List.mem_filterMap.mpr ⟨_, hx, rfl⟩))]; rfl
  | int i => rfl
  | _ => exact nomatch (show (false : Bool) = true from this)
end MP

set_option Elab.async false
set_option linter.all false
set_option maxRecDepth 100000
/-! The draws of rows and sights. -/
namespace MP
section
variable {mo : Nat → List Bool} {cf : CF}
def FRowD (kt kp : Nat) : MF := { np := 3, nn := 8, mu := [true, false, false], body :=
  (.cons (.asg (.nm 3) (.bi .tuple (.cons (.call kp (.cons (.var 0) (.cons (.lc (.nm 7) (.seq (.var 1)) .nop (.ix (.var 7) (.k (.int 0))) [7]) (.cons (.bi .len (.cons (.var 1) .nil)) .nil)))) .nil)))
  (.cons (.for_ (.nm 4) (.rng1 (.var 2)) (.cons (.asg (.nm 5) (.ite (.cmp .eq (.var 4) (.k (.int 0))) (.k (.int 0)) (.bin .add (.idx (.var 3) (.bin .sub (.var 4) (.k (.int 1)))) (.k (.int 1)))))
  (.cons (.asg (.nm 6) (.bin .add (.var 5) (.call kt (.cons (.var 0) (.cons (.bin .sub (.bin .add (.bi .len (.cons (.var 3) .nil)) (.k (.int 1))) (.var 5)) .nil)))))
  (.cons (.asg (.nm 3) (.bin .add (.bin .add (.sl (.var 3) .nop (.var 6)) (.tup (.cons (.var 4) .nil))) (.sl (.var 3) (.var 6) .nop)))
  (.wipe [4, 5, 6] .nil)))))
  (.cons (.ret (.var 3))
  .nil))) }
def RowDF (cf : CF) (k : Nat) : Prop := ∀ (t : Bool) (N : Nat) (ds : List D) (ps : List Bill) (n : Nat), Box N ds → N ≤ 10000000 → ps.length ≤ 400 → n ≤ 400 →
  ∃ (xs ds' : List D), cf k [.mu ds, .sh (fenceX t ps), .sh (.int n)] = some (.sh (.tup xs), [ds']) ∧ RowOk (namesS ps) n xs ∧ Box (N + ps.length + n) ds'
theorem rowd_g {kt kp : Nat} (ht : Take cf kt) (hmt : mo kt = [true, false]) (hp : Pick2 cf kp) (hmp : mo kp = [true, false, false]) (t : Bool) (N : Nat) (ds : List D) (ps : List Bill) (n : Nat) (hb : Box N ds) (hN : N ≤ 10000000) (hl : ps.length ≤ 400) (hn : n ≤ 400) :
    ∃ (xs ds' : List D), runF mo cf (FRowD kt kp) [.mu ds, .sh (fenceX t ps), .sh (.int n)] = some (.sh (.tup xs), [ds']) ∧ RowOk (namesS ps) n xs ∧ Box (N + ps.length + n) ds' := by
  have h : FP (runF mo cf (FRowD kt kp) [.mu ds, .sh (fenceX t ps), .sh (.int n)]) fun v l => ∃ xs ds', v = .sh (.tup xs) ∧ l = [ds'] ∧ RowOk (namesS ps) n xs ∧ Box (N + ps.length + n) ds' := by
    refine f_run rfl ?_
    have nl := namesS_len ps
    obtain ⟨os, d1, e1, p1, b1⟩ := pick_whole hp N ds (namesS ps) false ps.length hb (by omega) (by omega) (by omega)
    rw [nl] at b1
    have e1 : cf kp [.mu ds, .sh (.lst ((namesS ps).map D.str)), .sh (.int ps.length)] = some (.own (os.map D.str), [d1]) := e1
    have hlc : evR mo cf (.lc (.nm 7) (.seq (.var 1)) .nop (.ix (.var 7) (.k (.int 0))) [7]) [Pm ds, S (fenceX t ps), S (.int n), none, none, none, none, none] = some ([Pm ds, S (fenceX t ps), S (.int n), none, none, none, none, none], .own ((namesS ps).map D.str)) := by
      rw [← tagsD_names]
      exact q_M ps (billX t) (seq_sq rfl) rfl (by omega) fun p _ => OneM.mk (en := [Pm ds, S (fenceX t ps), S (.int n), none, none, none, none, S (billX t p)]) rfl (q_ix rfl rfl rfl rfl (ix_bill t p).1) rfl rfl
    apply w_asg (v := .sh (.tup (os.map D.str))) (e2 := [Pm d1, S (fenceX t ps), S (.int n), S (.tup (os.map D.str)), none, none, none, none])
    · refine q_bi (op_cons (o_dv (q_call hmp (a_mv rfl (a_sh hlc (a_sh (x := .sh (.int ps.length)) (q_bi (ds := [fenceX t ps]) rfl rfl ?_) rfl))) rfl rfl e1 rfl) rfl) rfl) rfl rfl
      have : (ps.map (billX t)).length = ps.length := List.length_map ..
      cases t <;> (show some (RV.sh (.int (ps.map (billX _)).length)) = _; rw [this])
    · rfl
    refine w_loop (e1 := [Pm d1, S (fenceX t ps), S (.int n), S (.tup (os.map D.str)), none, none, none, none]) (xs := rangeL 0 n) (i_rng1 (j := n) rfl (by omega) (by omega)) (fun rest e => ∃ (k : Nat) (xs d2 : List D), rest = rangeL (k : Int) (n - k) ∧ k ≤ n ∧ RowOk (namesS ps) k xs ∧ Box (N + ps.length + k) d2 ∧ e = [Pm d2, S (fenceX t ps), S (.int n), S (.tup xs), none, none, none, none]) ⟨0, os.map D.str, d1, rfl, Nat.zero_le _, RowOk.zero p1, b1, rfl⟩ ?_ ?_
    · rintro x rest e ⟨k, xs, d2, hr, hk, ho, b2, rfl⟩
      have hkn : ∃ j, n - k = j + 1 := by
        cases hj : n - k with
        | zero => rw [hj] at hr; cases hr
        | succ j => exact ⟨j, rfl⟩
      obtain ⟨j, hj⟩ := hkn
      rw [hj] at hr
      obtain ⟨rfl, rfl⟩ := List.cons.inj (show x :: rest = .int k :: rangeL (k + 1) j from hr)
      refine ⟨[Pm d2, S (fenceX t ps), S (.int n), S (.tup xs), S (.int k), none, none, none], rfl, ?_⟩
      have lx := ho.len
      rw [nl] at lx
      -- where it may stand
      have low : ∃ l : Nat, l ≤ xs.length ∧ intsOf (xs.drop l) = [] ∧ evR mo cf (.ite (.cmp .eq (.var 4) (.k (.int 0))) (.k (.int 0)) (.bin .add (.idx (.var 3) (.bin .sub (.var 4) (.k (.int 1)))) (.k (.int 1)))) [Pm d2, S (fenceX t ps), S (.int n), S (.tup xs), S (.int k), none, none, none] = some ([Pm d2, S (fenceX t ps), S (.int n), S (.tup xs), S (.int k), none, none, none], .sh (.int l)) := by
        have tk : tst (.cmp .eq (.var 4) (.k (.int 0))) (evR mo cf (.cmp .eq (.var 4) (.k (.int 0))) [Pm d2, S (fenceX t ps), S (.int n), S (.tup xs), S (.int k), none, none, none]) [Pm d2, S (fenceX t ps), S (.int n), S (.tup xs), S (.int k), none, none, none] = some ([Pm d2, S (fenceX t ps), S (.int n), S (.tup xs), S (.int k), none, none, none], ((k : Int) == 0)) := t_dv (q_cmp rfl rfl rfl rfl rfl) rfl rfl
        cases k with
        | zero =>
          refine ⟨0, Nat.zero_le _, ?_, q_ite_t tk rfl rfl⟩
          rw [List.drop_zero, ho.nrs]; rfl
        | succ k =>
          obtain ⟨p, p1, p2, p3⟩ := ho.last
          refine ⟨p + 1, p1, p3, q_ite_f tk (by rw [beq_eq_false_iff_ne]; omega) (q_bin (x := .int (p : Nat)) (y := .int 1) (o_dv (q_idx (x1 := .tup xs) (x := .tup xs) (y := .int (k : Nat)) rfl rfl (o_dv (q_bin rfl rfl rfl rfl (r := .sh (.int (k : Nat))) ?_) rfl) rfl rfl p2) rfl) rfl rfl rfl rfl)⟩
          show some (RV.sh (.int (((k + 1 : Nat) : Int) - 1))) = _
          rw [show ((k + 1 : Nat) : Int) - 1 = (k : Nat) by omega]
      obtain ⟨l, l1, l2, l3⟩ := low
      apply w_asg (v := .sh (.int l)) (e2 := [Pm d2, S (fenceX t ps), S (.int n), S (.tup xs), S (.int k), S (.int l), none, none]) l3 rfl
      obtain ⟨r, d3, e3, r0, r1, b3⟩ := ht _ d2 ((xs.length : Int) + 1 - l) b2 (by omega) (by omega) (by omega)
      apply w_asg (v := .sh (.int (l + r))) (e2 := [Pm d3, S (fenceX t ps), S (.int n), S (.tup xs), S (.int k), S (.int l), S (.int (l + r)), none])
      · refine q_bin (x := .int l) (y := .int r) rfl (o_dv (q_call hmt (a_mv rfl (a_sh (x := .sh (.int ((xs.length : Int) + 1 - l))) (q_bin (x := .int ((xs.length : Int) + 1)) (y := .int l) (o_dv (q_bin (x := .int xs.length) (y := .int 1) rfl rfl rfl rfl rfl) rfl) rfl rfl rfl rfl) rfl)) rfl rfl e3 rfl) rfl) rfl rfl rfl
      · rfl
      obtain ⟨q, hq⟩ : ∃ q : Nat, (l : Int) + r = q := ⟨(l + r).toNat, by omega⟩
      rw [hq]
      have c1 := cut_pre xs q
      have c2 := cut_suf xs q
      have lq : q ≤ xs.length := by omega
      have dq : intsOf (xs.drop q) = [] := by
        have : xs.drop q = (xs.drop l).drop (q - l) := by rw [List.drop_drop]; congr 1; omega
        rw [this]
        have e := List.take_append_drop (q - l) (xs.drop l)
        have := l2
        rw [← e, ints_app, List.append_eq_nil_iff] at this
        exact this.2
      apply w_asg (v := .sh (.tup (xs.take q ++ .int k :: xs.drop q))) (e1 := [Pm d3, S (fenceX t ps), S (.int n), S (.tup xs), S (.int k), S (.int l), S (.int q), none]) (e2 := [Pm d3, S (fenceX t ps), S (.int n), S (.tup (xs.take q ++ .int k :: xs.drop q)), S (.int k), S (.int l), S (.int q), none])
      · have t1 : (xs.take q).length ≤ xs.length := List.length_take_le' ..
        have t2 : (xs.drop q).length ≤ xs.length := List.length_drop .. ▸ Nat.sub_le _ _
        refine q_bin (x := .tup (xs.take q ++ [.int k])) (y := .tup (xs.drop q)) (o_dv (q_bin (x := .tup (xs.take q)) (y := .tup [.int k]) (o_dv (q_sl (r := .sh (.tup (xs.take q))) rfl rfl rfl rfl rfl rfl ?_) rfl) rfl rfl rfl (b_addt (by simp only [List.length_cons, List.length_nil]; omega))) rfl) (o_dv (q_sl (r := .sh (.tup (xs.drop q))) rfl rfl rfl rfl rfl rfl ?_) rfl) rfl rfl ?_
        · show some (RV.sh (.tup (cut xs none (some q)))) = _
          rw [c1]
        · show some (RV.sh (.tup (cut xs (some q) none))) = _
          rw [c2]
        · refine (b_addt ?_).trans ?_
          · rw [List.length_append]
            simp only [List.length_cons, List.length_nil]
            omega
          · rw [List.append_assoc]; rfl
      · rfl
      refine w_wipe rfl rfl (w_nil ⟨k + 1, _, d3, ?_, by omega, ho.put lq dq, b3, rfl⟩)
      rw [show n - (k + 1) = j by omega]
      rfl
    · rintro e ⟨k, xs, d2, hr, hk, ho, b2, rfl⟩
      have : n - k = 0 := by
        cases hj : n - k with
        | zero => rfl
        | succ j => rw [hj] at hr; cases hr
      have : k = n := by omega
      subst this
      exact w_rets rfl ⟨_, rfl, xs, d2, rfl, rfl, ho, b2⟩
  obtain ⟨v, l, e, xs, ds', rfl, rfl, h1⟩ := h
  exact ⟨xs, ds', e, h1⟩
/-! ### what shows -/
def topL (here : Row) : List D → List Nat → List Nat
  | [], f => f
  | .str s :: r, f => topL here r (if hasS here s then s else f)
  | _ :: r, f => topL here r f
def FTop (ko : Nat) : MF := { np := 4, nn := 7, mu := [false, false, false, false], body :=
  (.cons (.par2 5 6 (.k (.str [45])) (.call ko (.cons (.var 0) (.cons (.var 3) .nil))))
  (.cons (.for_ (.nm 4) (.seq (.sl (.var 1) .nop (.idx (.var 1) (.var 2)))) (.cons (.ite (.cmp .in_ (.var 4) (.var 6)) (.cons (.asg (.nm 5) (.var 4))
  .nil) .nil)
  (.wipe [4] .nil)))
  (.cons (.ret (.var 5))
  .nil))) }
def LOverF (mo : Nat → List Bool) (cf : CF) (k : Nat) : Prop := mo k = [false, false] ∧ ∀ (t : Bool) (ps : List Bill) (c : Int), ps.length ≤ 1000 → cf k [.sh (fenceX t ps), .sh (.int c)] = some (.own (overD ps c), [])
theorem top_g {ko : Nat} (ho : LOverF mo cf ko) (t : Bool) (ps : List Bill) (xs : List D) (i c : Int) (p : Nat) (hl : ps.length ≤ 1000) (hx : xs.all siB = true) (hp : posL (.int i) xs = some p) :
    runF mo cf (FTop ko) [.sh (fenceX t ps), .sh (.tup xs), .sh (.int i), .sh (.int c)] = some (.sh (.str (topL (overS ps c) (xs.take p) [45])), []) := by
  refine fp_eq ?_
  refine f_run rfl ?_
  have k1 := ho.2 t ps c hl
  rw [overD_S] at k1
  generalize overS ps c = here at *
  apply w_par2 (e2 := [S (fenceX t ps), S (.tup xs), S (.int i), S (.int c), none, none, none]) (e4 := [S (fenceX t ps), S (.tup xs), S (.int i), S (.int c), none, S (.str [45]), O (here.map D.str)]) (ra := .sh (.str [45])) (rb := .own (here.map D.str)) rfl (q_call ho.1 rfl rfl rfl k1 rfl) rfl rfl
  have hsl : evR mo cf (.sl (.var 1) .nop (.idx (.var 1) (.var 2))) [S (fenceX t ps), S (.tup xs), S (.int i), S (.int c), none, S (.str [45]), O (here.map D.str)] = some ([S (fenceX t ps), S (.tup xs), S (.int i), S (.int c), none, S (.str [45]), O (here.map D.str)], .sh (.tup (xs.take p))) := by
    refine q_sl rfl rfl (q_idx (x1 := .tup xs) (x := .tup xs) (y := .int i) rfl rfl rfl rfl rfl (idx_int hx hp)) rfl rfl rfl ?_
    show some (RV.sh (.tup (cut xs none (some p)))) = _
    rw [cut_pre]
  refine w_loop (i_seq hsl (.inr (.inl rfl))) (fun rest e => ∃ f : List Nat, rest.all siB = true ∧ topL here rest f = topL here (xs.take p) [45] ∧ e = [S (fenceX t ps), S (.tup xs), S (.int i), S (.int c), none, S (.str f), O (here.map D.str)]) ⟨[45], List.all_eq_true.mpr fun x h => List.all_eq_true.mp hx x (List.mem_of_mem_take h), rfl, rfl⟩ ?_ ?_
  · rintro x rest e ⟨f, hs, hf, rfl⟩
    rw [List.all_cons, Bool.and_eq_true] at hs
    refine ⟨[S (fenceX t ps), S (.tup xs), S (.int i), S (.int c), S x, S (.str f), O (here.map D.str)], rfl, ?_⟩
    have hox : Ok x := by
      have := hs.1
      cases x <;> first | rfl | exact nomatch (show (false : Bool) = true from this)
    refine w_ite (t := inN here x) (e1 := [S (fenceX t ps), S (.tup xs), S (.int i), S (.int c), S x, S (.str f), O (here.map D.str)]) (t_dv (q_cmp (x := x) (y := .lst (here.map D.str)) rfl rfl rfl rfl (in_any hox false here)) rfl rfl) (fun h => ?_) (fun h => w_nil (w_wipe rfl rfl (w_nil ⟨f, hs.2, ?_, rfl⟩)))
    · obtain ⟨s, rfl, h1⟩ := inN_str h
      refine w_asg (v := .sh (.str s)) (e2 := [S (fenceX t ps), S (.tup xs), S (.int i), S (.int c), S (.str s), S (.str s), O (here.map D.str)]) rfl rfl (w_nil (w_wipe rfl rfl (w_nil ⟨s, hs.2, ?_, rfl⟩)))
      rw [← hf]
      show _ = topL here rest (if hasS here s then s else f)
      rw [if_pos h1]
    · rw [← hf]
      cases x with
      | str s =>
        show _ = topL here rest (if hasS here s then s else f)
        rw [if_neg (by rw [show hasS here s = false from h]; decide)]
      | _ => rfl
  · rintro e ⟨f, _, hf, rfl⟩
    refine w_rets rfl ⟨_, rfl, ?_, rfl⟩
    rw [← hf]; rfl
/-! ### sights -/
abbrev Sight := Int × Int × List Nat
def sightD (s : Sight) : D := .tup [.int s.1, .int s.2.1, .str s.2.2]
theorem allT_sights (l : List Sight) : allT (l.map sightD) = true := by
  have h1 : (l.map sightD).all tupT = true := by
    rw [List.all_map]
    exact List.all_eq_true.mpr fun _ _ => rfl
  have h2 : ((l.map sightD).all fun x => (l.map sightD).all fun y => cmpT x y) = true := by
    rw [List.all_map]
    refine List.all_eq_true.mpr fun r hr => ?_
    show ((l.map sightD).all fun y => cmpT (sightD r) y) = true
    rw [List.all_map]
    refine List.all_eq_true.mpr fun s hs => ?_
    show cmpI [.int r.1, .int r.2.1, .str r.2.2] [.int s.1, .int s.2.1, .str s.2.2] = true
    unfold cmpI
    split
    · unfold cmpI
      split
      · unfold cmpI
        split
        · rfl
        · rfl
      · rfl
    · rfl
  unfold allT
  rw [h1, h2]; rfl
theorem sight_inj {a b : Sight} (h : sightD a = sightD b) : a = b := by
  obtain ⟨a1, a2, a3⟩ := a
  obtain ⟨b1, b2, b3⟩ := b
  have h : D.tup [.int a1, .int a2, .str a3] = .tup [.int b1, .int b2, .str b3] := h
  injection h with h
  injection h with h1 h
  injection h with h2 h
  injection h with h3 h
  injection h1 with h1
  injection h2 with h2
  injection h3 with h3
  rw [h1, h2, h3]
theorem flts_sights (l : List Sight) : Flts (l.map sightD) := fun x hx => by
  obtain ⟨s, _, rfl⟩ := List.mem_map.mp hx
  exact ⟨_, rfl, rfl⟩
theorem lt_sights (l : List Sight) : Ltable (l.map sightD) := fun a ha b hb => by
  obtain ⟨r, _, rfl⟩ := List.mem_map.mp ha
  obtain ⟨s, _, rfl⟩ := List.mem_map.mp hb
  show ∃ t', lexD [.int r.1, .int r.2.1, .str r.2.2] [.int s.1, .int s.2.1, .str s.2.2] = some t'
  unfold lexD
  split
  · unfold lexD
    split
    · unfold lexD
      split
      · exact ⟨_, rfl⟩
      · exact ⟨_, rfl⟩
    · exact ⟨_, rfl⟩
  · exact ⟨_, rfl⟩
theorem ss_asc {xs l : List D} (h : biD .sortedset [.lst xs] = some (.own l)) (hf : Flts xs) : AscD l := by
  have : l = isort (dedup xs) := by
    simp only [biD] at h
    split at h
    · cases h; rfl
    · split at h
      · cases h; rfl
      · split at h
        · cases h; rfl
        · cases h
  rw [this]
  exact set_ascD hf
def FSights (kt kp : Nat) : MF := { np := 6, nn := 10, mu := [true, false, false, false, false, false], body :=
  (.cons (.asg (.nm 6) (.lst .nil))
  (.cons (.for_ (.nm 7) (.rng1 (.ite (.cmp .gt (.var 3) (.k (.int 0))) (.call kt (.cons (.var 0) (.cons (.bin .add (.var 4) (.k (.int 1))) .nil))) (.k (.int 0)))) (.cons (.par2 8 9 (.call kt (.cons (.var 0) (.cons (.var 3) .nil))) (.call kt (.cons (.var 0) (.cons (.bin .mul (.k (.int 2)) (.var 5)) .nil))))
  (.cons (.app 6 (.tup (.cons (.var 8) (.cons (.var 9) (.cons (.call kp (.cons (.var 1) (.cons (.var 2) (.cons (.var 8) (.cons (.var 9) .nil))))) .nil)))))
  (.wipe [7, 8, 9] .nil))))
  (.cons (.ret (.bi .tuple (.cons (.bi .sortedset (.cons (.var 6) .nil)) .nil)))
  .nil))) }
def TopF (mo : Nat → List Bool) (cf : CF) (k : Nat) : Prop := mo k = [false, false, false, false] ∧ ∀ (t : Bool) (ps : List Bill) (xs : List D) (i c : Int) (p : Nat), ps.length ≤ 1000 → xs.all siB = true → posL (.int i) xs = some p → cf k [.sh (fenceX t ps), .sh (.tup xs), .sh (.int i), .sh (.int c)] = some (.sh (.str (topL (overS ps c) (xs.take p) [45])), [])
/-- what a row shows -/
def Shows (ps : List Bill) (xs : List D) (n : Nat) (wide : Int) (s : Sight) : Prop := 0 ≤ s.1 ∧ s.1 < n ∧ 0 ≤ s.2.1 ∧ s.2.1 < 2 * wide ∧ ∃ p, posL (.int s.1) xs = some p ∧ s.2.2 = topL (overS ps s.2.1) (xs.take p) [45]
def SightsF (cf : CF) (k : Nat) (most wide : Nat) : Prop := ∀ (t : Bool) (N : Nat) (ds : List D) (ps : List Bill) (xs : List D) (n : Nat), Box N ds → N ≤ 10000000 → ps.length ≤ 400 → n ≤ 400 → RowOk (namesS ps) n xs →
  ∃ (ws : List Sight) (ds' : List D), cf k [.mu ds, .sh (fenceX t ps), .sh (.tup xs), .sh (.int n), .sh (.int most), .sh (.int wide)] = some (.sh (.tup (ws.map sightD)), [ds']) ∧ ws.length ≤ most ∧ (∀ w ∈ ws, Shows ps xs n wide w) ∧ ascD (ws.map sightD) = true ∧ Box (N + 2 * most + 1) ds'
theorem sights_g {kt kp : Nat} (ht : Take cf kt) (hmt : mo kt = [true, false]) (hp : TopF mo cf kp) (most wide : Nat) (hmost : most < 62) (hw : 1 ≤ wide) (hw2 : wide ≤ 100000) (t : Bool) (N : Nat) (ds : List D) (ps : List Bill) (xs : List D) (n : Nat) (hb : Box N ds) (hN : N ≤ 10000000) (hl : ps.length ≤ 400) (hn : n ≤ 400) (hx : RowOk (namesS ps) n xs) :
    ∃ (ws : List Sight) (ds' : List D), runF mo cf (FSights kt kp) [.mu ds, .sh (fenceX t ps), .sh (.tup xs), .sh (.int n), .sh (.int most), .sh (.int wide)] = some (.sh (.tup (ws.map sightD)), [ds']) ∧ ws.length ≤ most ∧ (∀ w ∈ ws, Shows ps xs n wide w) ∧ ascD (ws.map sightD) = true ∧ Box (N + 2 * most + 1) ds' := by
  have h : FP (runF mo cf (FSights kt kp) [.mu ds, .sh (fenceX t ps), .sh (.tup xs), .sh (.int n), .sh (.int most), .sh (.int wide)]) fun v l => ∃ (ws : List Sight) (ds' : List D), v = .sh (.tup (ws.map sightD)) ∧ l = [ds'] ∧ ws.length ≤ most ∧ (∀ w ∈ ws, Shows ps xs n wide w) ∧ ascD (ws.map sightD) = true ∧ Box (N + 2 * most + 1) ds' := by
    refine f_run rfl ?_
    apply w_asg (v := .own []) (e2 := [Pm ds, S (fenceX t ps), S (.tup xs), S (.int n), S (.int most), S (.int wide), O [], none, none, none]) rfl rfl
    -- how many
    have many : ∃ (m : Nat) (d1 : List D), m ≤ most ∧ (0 < m → 0 < n) ∧ Box (N + 1) d1 ∧ evR mo cf (.ite (.cmp .gt (.var 3) (.k (.int 0))) (.call kt (.cons (.var 0) (.cons (.bin .add (.var 4) (.k (.int 1))) .nil))) (.k (.int 0))) [Pm ds, S (fenceX t ps), S (.tup xs), S (.int n), S (.int most), S (.int wide), O [], none, none, none] = some ([Pm d1, S (fenceX t ps), S (.tup xs), S (.int n), S (.int most), S (.int wide), O [], none, none, none], .sh (.int m)) := by
      have tk : tst (.cmp .gt (.var 3) (.k (.int 0))) (evR mo cf (.cmp .gt (.var 3) (.k (.int 0))) [Pm ds, S (fenceX t ps), S (.tup xs), S (.int n), S (.int most), S (.int wide), O [], none, none, none]) [Pm ds, S (fenceX t ps), S (.tup xs), S (.int n), S (.int most), S (.int wide), O [], none, none, none] = some ([Pm ds, S (fenceX t ps), S (.tup xs), S (.int n), S (.int most), S (.int wide), O [], none, none, none], decide ((0 : Int) < n)) := t_dv (q_cmp rfl rfl rfl rfl rfl) rfl rfl
      by_cases h0 : 0 < n
      · obtain ⟨r, d1, e1, r0, r1, b1⟩ := ht N ds ((most : Int) + 1) hb (by omega) (by omega) (by omega)
        refine ⟨r.toNat, d1, by omega, fun _ => h0, b1, ?_⟩
        rw [show ((r.toNat : Nat) : Int) = r by omega]
        exact q_ite_t tk (decide_eq_true (by omega)) (q_call hmt (a_mv rfl (a_sh (x := .sh (.int ((most : Int) + 1))) rfl rfl)) rfl rfl e1 rfl)
      · exact ⟨0, ds, Nat.zero_le _, fun z => absurd z (Nat.lt_irrefl _), hb.le (by omega), q_ite_f tk (decide_eq_false (by omega)) rfl⟩
    obtain ⟨m, d1, m1, m2, b1, hev⟩ := many
    refine w_loop (e1 := [Pm d1, S (fenceX t ps), S (.tup xs), S (.int n), S (.int most), S (.int wide), O [], none, none, none]) (xs := rangeL 0 m) (i_rng1 (j := m) hev (by omega) (by omega)) (fun rest e => ∃ (ws : List Sight) (d2 : List D), rest.length + ws.length = m ∧ Box (N + 1 + 2 * ws.length) d2 ∧ (∀ w ∈ ws, Shows ps xs n wide w) ∧ e = [Pm d2, S (fenceX t ps), S (.tup xs), S (.int n), S (.int most), S (.int wide), O (ws.map sightD), none, none, none]) ⟨[], d1, by rw [rngL_len]; rfl, b1, fun w h => (nomatch h), rfl⟩ ?_ ?_
    · rintro x rest e ⟨ws, d2, hlen, b2, hws, rfl⟩
      rw [List.length_cons] at hlen
      have n0 : 0 < n := m2 (by omega)
      refine ⟨[Pm d2, S (fenceX t ps), S (.tup xs), S (.int n), S (.int most), S (.int wide), O (ws.map sightD), S x, none, none], rfl, ?_⟩
      obtain ⟨r, d3, e3, r0, r1, b3⟩ := ht _ d2 (n : Int) b2 (by omega) (by omega) (by omega)
      obtain ⟨c, d4, e4, c0, c1, b4⟩ := ht _ d3 (2 * (wide : Int)) b3 (by omega) (by omega) (by omega)
      apply w_par2 (ra := .sh (.int r)) (rb := .sh (.int c)) (e2 := [Pm d4, S (fenceX t ps), S (.tup xs), S (.int n), S (.int most), S (.int wide), O (ws.map sightD), S x, none, none]) (e4 := [Pm d4, S (fenceX t ps), S (.tup xs), S (.int n), S (.int most), S (.int wide), O (ws.map sightD), S x, S (.int r), S (.int c)])
      · exact q_call hmt rfl rfl rfl e3 rfl
      · exact q_call hmt (a_mv rfl (a_sh (x := .sh (.int (2 * (wide : Int)))) (q_bin rfl rfl rfl rfl (b_mull (by omega) (by omega))) rfl)) rfl rfl e4 rfl
      · rfl
      · rfl
      obtain ⟨p, p1, p2, p3⟩ := hx.pos r0 r1
      have k1 := hp.2 t ps xs r c p (by omega) hx.si p1
      apply w_app (r := .sh (sightD (r, c, topL (overS ps c) (xs.take p) [45])))
      · rfl
      · exact q_tup (l_cons (x := .sh (.int r)) rfl (l_cons (x := .sh (.int c)) rfl (l_cons (x := .sh (.str (topL (overS ps c) (xs.take p) [45]))) (q_call hp.1 rfl rfl rfl k1 rfl) rfl))) rfl
      · rfl
      · rw [List.length_map]; omega
      refine w_wipe rfl rfl (w_nil ⟨ws ++ [(r, c, topL (overS ps c) (xs.take p) [45])], d4, by rw [List.length_append]; simp only [List.length_cons, List.length_nil]; omega, b4.le (by rw [List.length_append]; simp only [List.length_cons, List.length_nil]; omega), fun w hw => ?_, ?_⟩)
      · rcases List.mem_append.mp hw with z | z
        · exact hws w z
        · rw [List.mem_singleton.mp z]
          exact ⟨r0, r1, c0, c1, p, p1, rfl⟩
      · rw [List.map_append]; rfl
    · rintro e ⟨ws, d2, hlen, b2, hws, rfl⟩
      have hlen : 0 + ws.length = m := hlen
      obtain ⟨vs, s1, s2, s3⟩ := ss_lift (f := sightD) ws (by omega) fun _ => allT_sights ws
      refine w_rete (q_bi (op_cons (o_dv (q_bi rfl rfl s1) rfl) rfl) rfl rfl) rfl ⟨_, rfl, vs, d2, rfl, rfl, by omega, fun w hw => ?_, (ascD_iff (flts_sights vs) (lt_sights vs)).mpr (ss_asc s1 (flts_sights ws)), b2.le (by omega)⟩
      obtain ⟨v, v1, v2⟩ := s3 w hw
      rw [← sight_inj v2]
      exact hws v v1
  obtain ⟨v, l, e, ws, ds', rfl, rfl, h1⟩ := h
  exact ⟨ws, ds', e, h1⟩
theorem ok_sights {ws : List Sight} (h : ws.length ≤ 1000) : Ok (.tup (ws.map sightD)) := by
  refine plm_up (m := 1000) (k := 2) (Nat.le_refl _) (by omega) (plm_sq (b := true) |>.mpr ⟨by rw [List.length_map]; exact h, fun x hx => ?_⟩)
  obtain ⟨p, _, rfl⟩ := List.mem_map.mp hx
  refine plm_sq (b := true) |>.mpr ⟨by simp, fun x hx => ?_⟩
  simp only [List.mem_cons, List.not_mem_nil, or_false] at hx
  rcases hx with rfl | rfl | rfl <;> rfl
end
end MP

set_option Elab.async false
set_option linter.all false
set_option maxRecDepth 100000
namespace MP.K52
open MP
abbrev L0_0 : ME := (.lc (.tp (.cons (.nm 2) (.cons (.nm 3) (.cons (.nm 4) .nil)))) (.seq (.var 0)) (.chain .le .le (.var 3) (.var 1) (.var 4)) (.var 2) [2, 3, 4])
/-- over (fence, cell) 0:fence 1:cell 2:name 3:first 4:last -/
def F0 : MF := { np := 2, nn := 5, mu := [false, false], body :=
  (.cons (.ret (.bi .tuple (.cons L0_0 .nil)))
  .nil) }
abbrev L1_0 : ME := (.lc (.nm 6) (.seq (.var 3)) (.cmp .in_ (.var 6) (.call 0 (.cons (.var 0) (.cons (.var 4) .nil)))) (.var 6) [6])
/-- lying_above (fence, order, wish) 0:fence 1:order 2:wish 3:later 4:cell 5:name 6:other -/
def F1 : MF := { np := 3, nn := 7, mu := [false, false, false], body :=
  (.cons (.asg (.tp (.cons (.nm 4) (.cons (.nm 5) .nil))) (.var 2))
  (.cons (.asg (.nm 3) (.sl (.var 1) (.bin .add (.idx (.var 1) (.var 5)) (.k (.int 1))) .nop))
  (.cons (.ret L1_0)
  .nil))) }
abbrev L2_0 : ME := (.lc (.tp (.cons (.nm 6) (.cons (.nm 5) .nil))) (.seq (.var 2)) .nop (.cmp .in_ (.var 5) (.var 3)) [6, 5])
abbrev L2_1 : ME := (.ss2 (.nm 4) (.seq (.var 2)) .nop (.nm 5) (.seq (.call 1 (.cons (.var 0) (.cons (.var 1) (.cons (.var 4) .nil))))) .nop (.var 5) [4, 5] [5])
/-- to_tear (fence, order, wishes) 0:fence 1:order 2:wishes 3:gone 4:wish 5:name 6:_ -/
def F2 : MF := { np := 3, nn := 7, mu := [false, false, false], body :=
  (.cons (.asg (.nm 3) L2_1)
  (.cons (.ite (.bi .any (.cons L2_0 .nil)) (.cons (.ret (.k .non))
  .nil) .nil)
  (.cons (.ret (.bi .tuple (.cons (.var 3) .nil)))
  .nil))) }
/-- _law_box (_law_script, _law_k) 0:_law_script 1:_law_k 2:_law_great_so -/
def F3 : MF := { np := 2, nn := 3, mu := [false, false], body :=
  (.cons (.asg (.nm 2) (.ite (.cmp .lt (.var 1) (.bi .len (.cons (.var 0) .nil))) (.ix (.var 0) (.var 1)) (.k (.int 0))))
  (.cons (.ret (.lst (.cons (.bin .mul (.bi .abs (.cons (.var 2) .nil)) (.bi .int (.cons (.cmp .ge (.bi .abs (.cons (.var 2) .nil)) (.bin .pow (.k (.int 10)) (.k (.int 18)))) .nil))) (.cons (.bin .add (.bin .add (.bin .mod (.bi .int (.cons (.var 2) .nil)) (.k (.int 2305843009213693951))) (.bin .mul (.k (.int 39373)) (.var 1))) (.k (.int 2027))) (.cons (.k (.int 0)) .nil)))))
  .nil)) }
/-- _law_take (_law_box_here, _law_top_so) 0:_law_box_here 1:_law_top_so 2:_law_once 3:_law_far 4:_law_twice 5:_law_digit_so -/
def F4 : MF := { np := 2, nn := 6, mu := [true, false], body :=
  (.cons (.ite (.cmp .gt (.ix (.var 0) (.k (.int 0))) (.k (.int 0))) (.cons (.asg (.nm 5) (.bin .mod (.bi .int (.cons (.ix (.var 0) (.k (.int 0))) .nil)) (.var 1)))
  (.cons (.setix 0 (.k (.int 0)) (.bin .fdiv (.ix (.var 0) (.k (.int 0))) (.var 1)))
  (.cons (.ret (.var 5))
  .nil))) .nil)
  (.cons (.setix 0 (.k (.int 2)) (.bin .add (.ix (.var 0) (.k (.int 2))) (.k (.int 1))))
  (.cons (.asg (.nm 2) (.bin .mod (.bi .int (.cons (.bin .mul (.bin .add (.ix (.var 0) (.k (.int 1))) (.bin .mul (.k (.int 48271)) (.ix (.var 0) (.k (.int 2))))) (.bin .add (.k (.int 39373)) (.ix (.var 0) (.k (.int 2))))) .nil)) (.k (.int 2147483647))))
  (.cons (.asg (.nm 3) (.bin .add (.bin .mod (.bi .int (.cons (.var 2) .nil)) (.k (.int 40009))) (.k (.int 7))))
  (.cons (.asg (.nm 4) (.bin .mod (.bi .int (.cons (.bin .mul (.bin .add (.bin .add (.var 2) (.ix (.var 0) (.k (.int 2)))) (.bin .fdiv (.ix (.var 0) (.k (.int 1))) (.k (.int 1000003)))) (.var 3)) .nil)) (.k (.int 2147483629))))
  (.cons (.ret (.bin .mod (.bi .int (.cons (.bin .fdiv (.bin .mod (.bi .int (.cons (.bin .add (.bin .mul (.var 4) (.k (.int 48271))) (.var 2)) .nil)) (.k (.int 2147483587))) (.k (.int 64))) .nil)) (.var 1)))
  .nil)))))) }
abbrev B5_0 : MS :=
  (.cons (.asg (.nm 5) (.bin .mod (.bi .int (.cons (.var 3) .nil)) (.var 1)))
  (.cons (.setix 2 (.var 5) (.bin .add (.ix (.var 2) (.var 5)) (.bin .mul (.var 4) (.bin .add (.var 3) (.k (.int 2))))))
  (.wipe [3, 4, 5] .nil)))
/-- _law_cells (_law_script, _law_most) 0:_law_script 1:_law_most 2:_law_cells_here 3:_law_k 4:_law_great_so 5:_law_at_so -/
def F5 : MF := { np := 2, nn := 6, mu := [false, false], body :=
  (.cons (.asg (.nm 2) (.or (.bi .list (.cons (.sl (.var 0) .nop (.var 1)) .nil)) (.one (.lst (.cons (.k (.int 0)) .nil)))))
  (.cons (.for_ (.tp (.cons (.nm 3) (.cons (.nm 4) .nil))) (.enum (.sl (.var 0) (.var 1) (.k (.int 63)))) B5_0)
  (.cons (.ret (.var 2))
  .nil))) }
/-- _law_of (_law_box_here, _law_some_here) 0:_law_box_here 1:_law_some_here -/
def F6 : MF := { np := 2, nn := 2, mu := [true, false], body :=
  (.cons (.ret (.ix (.var 1) (.call 4 (.cons (.var 0) (.cons (.bi .len (.cons (.var 1) .nil)) .nil)))))
  .nil) }
abbrev B7_0 : MS :=
  (.cons (.app 5 (.pop 4 (.call 4 (.cons (.var 0) (.cons (.bi .len (.cons (.var 4) .nil)) .nil)))))
  (.wipe [3] .nil))
/-- _law_pick (_law_box_here, _law_pool, _law_size_so) 0:_law_box_here 1:_law_pool 2:_law_size_so 3:_law_turn 4:_law_rest 5:_law_some_here -/
def F7 : MF := { np := 3, nn := 6, mu := [true, false, false], body :=
  (.cons (.par2 4 5 (.bi .list (.cons (.var 1) .nil)) (.lst .nil))
  (.cons (.for_ (.nm 3) (.rng1 (.bi .min (.cons (.var 2) (.cons (.bi .len (.cons (.var 4) .nil)) .nil)))) B7_0)
  (.cons (.ret (.var 5))
  .nil))) }
abbrev L8_0 : ME := (.lc (.nm 1) (.seq (.var 0)) .nop (.call 8 (.cons (.var 1) .nil)) [1])
/-- _law_lists (_law_matter) 0:_law_matter 1:_law_bit -/
def F8 : MF := { np := 1, nn := 2, mu := [false], body :=
  (.cons (.ret (.ite (.isi (.var 0) [.list, .tuple] false) L8_0 (.var 0)))
  .nil) }
abbrev L9_0 : ME := (.lc (.nm 2) (.seq (.var 1)) .nop (.call 9 (.cons (.ix (.var 0) (.var 2)) (.cons (.ix (.var 1) (.var 2)) .nil))) [2])
abbrev L9_1 : ME := (.lc (.tp (.cons (.nm 3) (.cons (.nm 4) .nil))) (.zip (.var 0) (.var 1)) .nop (.call 9 (.cons (.var 3) (.cons (.var 4) .nil))) [3, 4])
/-- _law_same (_law_got, _law_due) 0:_law_got 1:_law_due 2:_law_own 3:_law_mine 4:_law_its -/
def F9 : MF := { np := 2, nn := 5, mu := [false, false], body :=
  (.cons (.ite (.isi (.var 1) [.list, .tuple] false) (.cons (.ite (.or (.cmp .ne (.isi (.var 0) [.list] true) (.isi (.var 1) [.list] true)) (.one (.cmp .ne (.isi (.var 0) [.tuple] true) (.isi (.var 1) [.tuple] true)))) (.cons (.ret (.k (.bl false)))
  .nil) .nil)
  (.cons (.ret (.and (.cmp .eq (.bi .len (.cons (.var 0) .nil)) (.bi .len (.cons (.var 1) .nil))) (.one (.bi .all (.cons L9_1 .nil)))))
  .nil)) .nil)
  (.cons (.ite (.isi (.var 1) [.dict] true) (.cons (.ite (.or (.not (.isi (.var 0) [.dict] true)) (.one (.cmp .ne (.bi .sorted (.cons (.var 0) .nil)) (.bi .sorted (.cons (.var 1) .nil))))) (.cons (.ret (.k (.bl false)))
  .nil) .nil)
  (.cons (.ret (.bi .all (.cons L9_0 .nil)))
  .nil)) .nil)
  (.cons (.ite (.or (.cmp .is (.var 1) (.k .non)) (.one (.isi (.var 1) [.bool, .str] false))) (.cons (.ret (.and (.cmp .eq (.var 0) (.var 1)) (.and (.cmp .eq (.isi (.var 0) [.bool] true) (.isi (.var 1) [.bool] true)) (.one (.cmp .eq (.cmp .is (.var 0) (.k .non)) (.cmp .is (.var 1) (.k .non)))))))
  .nil) .nil)
  (.cons (.ret (.and (.isi (.var 0) [.int] true) (.and (.not (.isi (.var 0) [.bool] true)) (.one (.cmp .eq (.var 0) (.var 1))))))
  .nil)))) }
abbrev B10_0 : MS :=
  (.cons (.asg (.nm 6) (.call 4 (.cons (.var 0) (.cons (.var 2) .nil))))
  (.cons (.app 4 (.tup (.cons (.var 5) (.cons (.var 6) (.cons (.bin .add (.var 6) (.call 4 (.cons (.var 0) (.cons (.var 2) .nil)))) .nil)))))
  (.wipe [5, 6] .nil)))
/-- _law_plank (_law_box_here, _law_most, _law_wide_so) 0:_law_box_here 1:_law_most 2:_law_wide_so 3:_law_tags_here 4:_law_found 5:_law_tag 6:_law_low_so -/
def F10 : MF := { np := 3, nn := 7, mu := [true, false, false], body :=
  (.cons (.asg (.nm 3) (.bi .sorted (.cons (.call 7 (.cons (.var 0) (.cons (.lst (.cons (.k (.str [97])) (.cons (.k (.str [98])) (.cons (.k (.str [99])) (.cons (.k (.str [100])) (.cons (.k (.str [101])) (.cons (.k (.str [102])) (.cons (.k (.str [120])) (.cons (.k (.str [121, 121])) (.cons (.k (.str [97, 98, 99, 100, 101, 102, 103, 104])) .nil)))))))))) (.cons (.bin .add (.k (.int 1)) (.call 4 (.cons (.var 0) (.cons (.var 1) .nil)))) .nil)))) .nil)))
  (.cons (.asg (.nm 4) (.lst .nil))
  (.cons (.for_ (.nm 5) (.seq (.var 3)) B10_0)
  (.cons (.ret (.bi .tuple (.cons (.var 4) .nil)))
  .nil)))) }
abbrev L11_0 : ME := (.lc (.nm 2) (.seq (.var 0)) (.chain .le .le (.ix (.var 2) (.k (.int 1))) (.var 1) (.ix (.var 2) (.k (.int 2)))) (.ix (.var 2) (.k (.int 0))) [2])
/-- _law_over (_law_plank_here, _law_spot) 0:_law_plank_here 1:_law_spot 2:_law_own -/
def F11 : MF := { np := 2, nn := 3, mu := [false, false], body :=
  (.cons (.ret L11_0)
  .nil) }
abbrev L12_0 : ME := (.lc (.nm 5) (.seq (.var 1)) (.cmp .in_ (.var 5) (.var 3)) (.var 5) [5])
/-- _law_crown (_law_plank_here, _law_order_so, _law_spot) 0:_law_plank_here 1:_law_order_so 2:_law_spot 3:_law_lot_so 4:_law_found 5:_law_tag -/
def F12 : MF := { np := 3, nn := 6, mu := [false, false, false], body :=
  (.cons (.asg (.nm 3) (.call 11 (.cons (.var 0) (.cons (.var 2) .nil))))
  (.cons (.asg (.nm 4) L12_0)
  (.cons (.ret (.ite (.cmp .ne (.var 4) (.lst .nil)) (.ix (.var 4) (.neg (.k (.int 1)))) (.k (.str [45]))))
  .nil))) }
abbrev L13_0 : ME := (.lc (.nm 3) (.seq (.var 2)) (.cmp .ne (.call 12 (.cons (.var 0) (.cons (.var 1) (.cons (.ix (.var 3) (.k (.int 0))) .nil)))) (.ix (.var 3) (.k (.int 1)))) (.var 3) [3])
/-- _law_met (_law_plank_here, _law_order_so, _law_hopes_here) 0:_law_plank_here 1:_law_order_so 2:_law_hopes_here 3:_law_own -/
def F13 : MF := { np := 3, nn := 4, mu := [false, false, false], body :=
  (.cons (.ret (.cmp .eq L13_0 (.lst .nil)))
  .nil) }
abbrev L14_0 : ME := (.lc (.nm 2) (.seq (.var 0)) (.cmp .nin (.var 1) (.var 2)) (.var 2) [2])
abbrev L14_1 : ME := (.lc (.nm 1) (.seq (.ix (.var 0) (.k (.int 0)))) (.cmp .eq L14_0 (.lst .nil)) (.var 1) [1])
/-- _law_common (_law_sets_so) 0:_law_sets_so 1:_law_tag 2:_law_own -/
def F14 : MF := { np := 1, nn := 3, mu := [false], body :=
  (.cons (.ret (.bi .tuple (.cons (.bi .sorted (.cons L14_1 .nil)) .nil)))
  .nil) }
abbrev B15_0 : MS :=
  (.cons (.asg (.nm 7) (.call 6 (.cons (.var 0) (.cons (.var 1) .nil))))
  (.cons (.asg (.nm 8) (.bin .add (.ix (.var 7) (.k (.int 1))) (.call 4 (.cons (.var 0) (.cons (.bin .add (.bin .sub (.ix (.var 7) (.k (.int 2))) (.ix (.var 7) (.k (.int 1)))) (.k (.int 1))) .nil)))))
  (.cons (.app 6 (.tup (.cons (.var 8) (.cons (.ite (.var 3) (.ix (.var 7) (.k (.int 0))) (.call 12 (.cons (.var 1) (.cons (.var 5) (.cons (.var 8) .nil))))) .nil))))
  (.wipe [4, 7, 8] .nil))))
abbrev L15_0 : ME := (.lc (.nm 9) (.seq (.var 1)) .nop (.ix (.var 9) (.k (.int 0))) [9])
/-- _law_hopes (_law_box_here, _law_plank_here, _law_most) 0:_law_box_here 1:_law_plank_here 2:_law_most 3:_law_free_so 4:_law_turn 5:_law_order_so 6:_law_found 7:_law_sheet 8:_law_spot 9:_law_own -/
def F15 : MF := { np := 3, nn := 10, mu := [true, false, false], body :=
  (.cons (.par2 5 6 (.call 7 (.cons (.var 0) (.cons L15_0 (.cons (.bi .len (.cons (.var 1) .nil)) .nil)))) (.lst .nil))
  (.cons (.asg (.nm 3) (.cmp .eq (.call 4 (.cons (.var 0) (.cons (.k (.int 3)) .nil))) (.k (.int 0))))
  (.cons (.for_ (.nm 4) (.rng1 (.call 4 (.cons (.var 0) (.cons (.bin .add (.var 2) (.k (.int 1))) .nil)))) B15_0)
  (.cons (.ret (.bi .tuple (.cons (.bi .sortedset (.cons (.var 6) .nil)) .nil)))
  .nil)))) }
abbrev L16_0 : ME := (.lc (.nm 1) (.seq (.var 0)) .nop (.ix (.var 1) (.k (.int 0))) [1])
/-- _law_tags (_law_plank_here) 0:_law_plank_here 1:_law_own -/
def F16 : MF := { np := 1, nn := 2, mu := [false], body :=
  (.cons (.ret (.bi .tuple (.cons L16_0 .nil)))
  .nil) }
abbrev L17_0 : ME := (.lc (.nm 4) (.seq (.var 1)) (.cmp .nin (.var 4) (.var 6)) (.var 4) [4])
abbrev B17_0 : MS :=
  (.cons (.asg (.nm 8) (.bi .tuple (.cons L17_0 .nil)))
  (.cons (.ite (.call 13 (.cons (.var 0) (.cons (.var 8) (.cons (.var 2) .nil)))) (.cons (.app 5 (.var 6))
  .nil) .nil)
  (.wipe [6, 8] .nil)))
abbrev L17_1 : ME := (.lc (.nm 6) (.seq (.var 3)) .nop (.bin .add (.var 6) (.tup (.cons (.var 4) .nil))) [6])
abbrev B17_1 : MS :=
  (.cons (.asg (.nm 3) (.bin .add (.var 3) L17_1))
  (.wipe [4] .nil))
/-- _law_least (_law_plank_here, _law_order_so, _law_hopes_here) 0:_law_plank_here 1:_law_order_so 2:_law_hopes_here 3:_law_some_here 4:_law_tag 5:_law_fine 6:_law_own 7:_law_least_here 8:_law_rest -/
def F17 : MF := { np := 3, nn := 9, mu := [false, false, false], body :=
  (.cons (.asg (.nm 3) (.lst (.cons (.tup .nil) .nil)))
  (.cons (.for_ (.nm 4) (.seq (.call 16 (.cons (.var 0) .nil))) B17_1)
  (.cons (.asg (.nm 5) (.lst .nil))
  (.cons (.for_ (.nm 6) (.seq (.var 3)) B17_0)
  (.cons (.ite (.cmp .eq (.var 5) (.lst .nil)) (.cons (.ret (.k .non))
  .nil) .nil)
  (.cons (.asg (.nm 7) (.call 14 (.cons (.var 5) .nil)))
  (.cons (.ret (.ite (.cmp .in_ (.var 7) (.var 5)) (.var 7) (.k (.str [110, 111, 110, 101, 32, 105, 115, 32, 108, 101, 97, 115, 116]))))
  .nil))))))) }
abbrev L18_0 : ME := (.lc (.nm 8) (.seq (.k (.str [97, 98, 99, 100, 101, 102, 103, 104, 105, 106, 107, 108]))) .nop (.bin .add (.k (.str [119])) (.var 8)) [8])
abbrev L18_1 : ME := (.lc (.nm 8) (.seq (.k (.str [97, 98, 99, 100, 101, 102, 103, 104, 105, 106, 107, 108]))) .nop (.tup (.cons (.bin .add (.k (.str [119])) (.var 8)) (.cons (.neg (.var 7)) (.cons (.var 7) .nil)))) [8])
abbrev L18_2 : ME := (.lc (.nm 8) (.seq (.var 0)) .nop (.call 2 (.cons (.var 5) (.cons (.var 6) (.cons (.var 8) .nil)))) [8])
/-- _law_by_hand_right () 0:_law_some_here 1:_law_got 2:_law_due 3:_law_wide 4:_law_order_so 5:_law_plank_here 6:_law_now 7:_law_far 8:_law_own -/
def F18 : MF := { np := 0, nn := 9, mu := [], body :=
  (.cons (.asg (.tp (.cons (.nm 5) (.cons (.nm 6) (.cons (.nm 7) .nil)))) (.tup (.cons (.tup (.cons (.tup (.cons (.k (.str [97])) (.cons (.k (.int 1)) (.cons (.k (.int 6)) .nil)))) (.cons (.tup (.cons (.k (.str [98])) (.cons (.k (.int 4)) (.cons (.k (.int 9)) .nil)))) (.cons (.tup (.cons (.k (.str [99])) (.cons (.k (.int 2)) (.cons (.k (.int 5)) .nil)))) .nil)))) (.cons (.tup (.cons (.k (.str [97])) (.cons (.k (.str [98])) (.cons (.k (.str [99])) .nil)))) (.cons (.bin .pow (.k (.int 10)) (.k (.int 40))) .nil)))))
  (.cons (.asg (.nm 0) (.lst (.cons (.tup (.cons (.tup (.cons (.k (.int 3)) (.cons (.k (.str [97])) .nil))) .nil)) (.cons (.tup (.cons (.tup (.cons (.k (.int 2)) (.cons (.k (.str [99])) .nil))) (.cons (.tup (.cons (.k (.int 3)) (.cons (.k (.str [97])) .nil))) .nil))) (.cons (.tup (.cons (.tup (.cons (.k (.int 5)) (.cons (.k (.str [97])) .nil))) .nil)) (.cons (.tup .nil) (.cons (.tup (.cons (.tup (.cons (.k (.int 5)) (.cons (.k (.str [98])) .nil))) .nil)) (.cons (.tup (.cons (.tup (.cons (.k (.int 3)) (.cons (.k (.str [97])) .nil))) (.cons (.tup (.cons (.k (.int 8)) (.cons (.k (.str [98])) .nil))) .nil))) (.cons (.tup (.cons (.tup (.cons (.k (.int 3)) (.cons (.k (.str [97])) .nil))) (.cons (.tup (.cons (.k (.int 5)) (.cons (.k (.str [97])) .nil))) .nil))) .nil)))))))))
  (.cons (.asg (.nm 0) (.bin .add (.var 0) (.lst (.cons (.tup (.cons (.tup (.cons (.k (.int 5)) (.cons (.k (.str [97])) .nil))) (.cons (.tup (.cons (.k (.int 8)) (.cons (.k (.str [98])) .nil))) .nil))) (.cons (.tup (.cons (.tup (.cons (.k (.int 3)) (.cons (.k (.str [97])) .nil))) (.cons (.tup (.cons (.k (.int 3)) (.cons (.k (.str [99])) .nil))) .nil))) (.cons (.tup (.cons (.tup (.cons (.k (.int 3)) (.cons (.k (.str [99])) .nil))) (.cons (.tup (.cons (.k (.int 4)) (.cons (.k (.str [99])) .nil))) (.cons (.tup (.cons (.k (.int 9)) (.cons (.k (.str [98])) .nil))) .nil)))) .nil))))))
  (.cons (.asg (.nm 1) L18_2)
  (.cons (.asg (.nm 2) (.lst (.cons (.tup (.cons (.k (.str [99])) .nil)) (.cons (.k .non) (.cons (.tup (.cons (.k (.str [98])) (.cons (.k (.str [99])) .nil))) (.cons (.tup .nil) (.cons (.tup (.cons (.k (.str [99])) .nil)) (.cons (.tup (.cons (.k (.str [99])) .nil)) (.cons (.tup (.cons (.k (.str [98])) (.cons (.k (.str [99])) .nil))) (.cons (.k .non) (.cons (.k .non) (.cons (.tup .nil) .nil))))))))))))
  (.cons (.asg (.nm 3) (.bi .tuple (.cons L18_1 .nil)))
  (.cons (.asg (.nm 4) (.bi .tuple (.cons L18_0 .nil)))
  (.cons (.asg (.nm 1) (.bin .add (.var 1) (.lst (.cons (.call 2 (.cons (.var 3) (.cons (.var 4) (.cons (.tup (.cons (.tup (.cons (.neg (.var 7)) (.cons (.k (.str [119, 98])) .nil))) (.cons (.tup (.cons (.var 7) (.cons (.k (.str [119, 98])) .nil))) .nil))) .nil)))) (.cons (.call 2 (.cons (.var 3) (.cons (.var 4) (.cons (.tup (.cons (.tup (.cons (.neg (.var 7)) (.cons (.k (.str [119, 108])) .nil))) .nil)) .nil)))) .nil)))))
  (.cons (.asg (.nm 1) (.bin .add (.var 1) (.lst (.cons (.call 2 (.cons (.var 3) (.cons (.var 4) (.cons (.tup (.cons (.tup (.cons (.neg (.var 7)) (.cons (.k (.str [119, 107])) .nil))) (.cons (.tup (.cons (.var 7) (.cons (.k (.str [119, 108])) .nil))) .nil))) .nil)))) (.cons (.call 2 (.cons (.tup .nil) (.cons (.tup .nil) (.cons (.tup .nil) .nil)))) .nil)))))
  (.cons (.asg (.nm 2) (.bin .add (.var 2) (.lst (.cons (.sl (.var 4) (.k (.int 2)) .nop) (.cons (.tup .nil) (.cons (.k .non) (.cons (.tup .nil) .nil)))))))
  (.cons (.app 1 (.callk 2 0 3 .nil (.cons (.lst (.cons (.lst (.cons (.k (.int 5)) (.cons (.k (.str [97])) .nil))) .nil)) (.cons (.bi .list (.cons (.var 6) .nil)) (.cons (.call 8 (.cons (.var 5) .nil)) .nil))) [2, 1, 0]))
  (.cons (.ret (.call 9 (.cons (.var 1) (.cons (.bin .add (.var 2) (.lst (.cons (.tup (.cons (.k (.str [98])) (.cons (.k (.str [99])) .nil))) .nil))) .nil))))
  .nil)))))))))))) }
abbrev B19_0 : MS :=
  (.cons (.asg (.nm 2) (.call 10 (.cons (.var 0) (.cons (.k (.int 5)) (.cons (.k (.int 5)) .nil)))))
  (.cons (.par2 5 6 (.bi .tuple (.cons (.call 7 (.cons (.var 0) (.cons (.call 16 (.cons (.var 2) .nil)) (.cons (.k (.int 5)) .nil)))) .nil)) (.call 15 (.cons (.var 0) (.cons (.var 2) (.cons (.k (.int 4)) .nil)))))
  (.cons (.asg (.nm 3) (.call 17 (.cons (.var 2) (.cons (.var 5) (.cons (.var 6) .nil)))))
  (.cons (.asg (.nm 4) (.lst (.cons (.call 2 (.cons (.var 2) (.cons (.var 5) (.cons (.var 6) .nil)))) .nil)))
  (.cons (.app 4 (.callk 2 0 3 .nil (.cons (.call 8 (.cons (.var 6) .nil)) (.cons (.bi .list (.cons (.var 5) .nil)) (.cons (.call 8 (.cons (.var 2) .nil)) .nil))) [2, 1, 0]))
  (.cons (.ite (.not (.call 9 (.cons (.var 4) (.cons (.lst (.cons (.var 3) (.cons (.var 3) .nil))) .nil)))) (.cons (.ret (.k (.bl false)))
  .nil) .nil)
  (.wipe [1, 2, 3, 4, 5, 6] .nil)))))))
/-- _law_right (_law_box_here) 0:_law_box_here 1:_law_turn 2:_law_plank_here 3:_law_due 4:_law_got 5:_law_order_so 6:_law_hopes_here -/
def F19 : MF := { np := 1, nn := 7, mu := [true], body :=
  (.cons (.for_ (.nm 1) (.rng1 (.k (.int 8))) B19_0)
  (.cons (.ret (.k (.bl true)))
  .nil)) }
abbrev L20_0 : ME := (.lc (.nm 2) (.rng1 (.bi .len (.cons (.var 1) .nil))) .nop (.call 19 (.cons (.call 3 (.cons (.var 1) (.cons (.var 2) .nil))) .nil)) [2])
/-- law (_law_script) 0:_law_script 1:_law_cells_here 2:_law_k -/
def F20 : MF := { np := 1, nn := 3, mu := [false], body :=
  (.cons (.ite (.not (.call 18 .nil)) (.cons (.ret (.k (.bl false)))
  .nil) .nil)
  (.cons (.asg (.nm 1) (.call 5 (.cons (.var 0) (.cons (.k (.int 3)) .nil))))
  (.cons (.ret (.bi .all (.cons L20_0 .nil)))
  .nil))) }
def T : List MF := [F0, F1, F2, F3, F4, F5, F6, F7, F8, F9, F10, F11, F12, F13, F14, F15, F16, F17, F18, F19, F20]
theorem c0 (n : Nat) (a : List AV) : callI T (n + 1) 0 a = runF (moT T) (callI T n) F0 a := rfl
theorem m0 : moT T 0 = [false, false] := rfl
theorem c1 (n : Nat) (a : List AV) : callI T (n + 1) 1 a = runF (moT T) (callI T n) F1 a := rfl
theorem m1 : moT T 1 = [false, false, false] := rfl
theorem c2 (n : Nat) (a : List AV) : callI T (n + 1) 2 a = runF (moT T) (callI T n) F2 a := rfl
theorem m2 : moT T 2 = [false, false, false] := rfl
theorem c3 (n : Nat) (a : List AV) : callI T (n + 1) 3 a = runF (moT T) (callI T n) F3 a := rfl
theorem m3 : moT T 3 = [false, false] := rfl
theorem c4 (n : Nat) (a : List AV) : callI T (n + 1) 4 a = runF (moT T) (callI T n) F4 a := rfl
theorem m4 : moT T 4 = [true, false] := rfl
theorem c5 (n : Nat) (a : List AV) : callI T (n + 1) 5 a = runF (moT T) (callI T n) F5 a := rfl
theorem m5 : moT T 5 = [false, false] := rfl
theorem c6 (n : Nat) (a : List AV) : callI T (n + 1) 6 a = runF (moT T) (callI T n) F6 a := rfl
theorem m6 : moT T 6 = [true, false] := rfl
theorem c7 (n : Nat) (a : List AV) : callI T (n + 1) 7 a = runF (moT T) (callI T n) F7 a := rfl
theorem m7 : moT T 7 = [true, false, false] := rfl
theorem c8 (n : Nat) (a : List AV) : callI T (n + 1) 8 a = runF (moT T) (callI T n) F8 a := rfl
theorem m8 : moT T 8 = [false] := rfl
theorem c9 (n : Nat) (a : List AV) : callI T (n + 1) 9 a = runF (moT T) (callI T n) F9 a := rfl
theorem m9 : moT T 9 = [false, false] := rfl
theorem c10 (n : Nat) (a : List AV) : callI T (n + 1) 10 a = runF (moT T) (callI T n) F10 a := rfl
theorem m10 : moT T 10 = [true, false, false] := rfl
theorem c11 (n : Nat) (a : List AV) : callI T (n + 1) 11 a = runF (moT T) (callI T n) F11 a := rfl
theorem m11 : moT T 11 = [false, false] := rfl
theorem c12 (n : Nat) (a : List AV) : callI T (n + 1) 12 a = runF (moT T) (callI T n) F12 a := rfl
theorem m12 : moT T 12 = [false, false, false] := rfl
theorem c13 (n : Nat) (a : List AV) : callI T (n + 1) 13 a = runF (moT T) (callI T n) F13 a := rfl
theorem m13 : moT T 13 = [false, false, false] := rfl
theorem c14 (n : Nat) (a : List AV) : callI T (n + 1) 14 a = runF (moT T) (callI T n) F14 a := rfl
theorem m14 : moT T 14 = [false] := rfl
theorem c15 (n : Nat) (a : List AV) : callI T (n + 1) 15 a = runF (moT T) (callI T n) F15 a := rfl
theorem m15 : moT T 15 = [true, false, false] := rfl
theorem c16 (n : Nat) (a : List AV) : callI T (n + 1) 16 a = runF (moT T) (callI T n) F16 a := rfl
theorem m16 : moT T 16 = [false] := rfl
theorem c17 (n : Nat) (a : List AV) : callI T (n + 1) 17 a = runF (moT T) (callI T n) F17 a := rfl
theorem m17 : moT T 17 = [false, false, false] := rfl
theorem c18 (n : Nat) (a : List AV) : callI T (n + 1) 18 a = runF (moT T) (callI T n) F18 a := rfl
theorem m18 : moT T 18 = [] := rfl
theorem c19 (n : Nat) (a : List AV) : callI T (n + 1) 19 a = runF (moT T) (callI T n) F19 a := rfl
theorem m19 : moT T 19 = [true] := rfl
theorem c20 (n : Nat) (a : List AV) : callI T (n + 1) 20 a = runF (moT T) (callI T n) F20 a := rfl
theorem m20 : moT T 20 = [false] := rfl
end MP.K52

set_option Elab.async false
set_option linter.all false
set_option maxRecDepth 100000
namespace MP.K52
open MP
section
local macro_rules
  | `(tactic| trivial) => `(tactic| repeat first
    | rfl
    | assumption
    | apply o_dv
    | apply t_dv
    | apply q_call
    | apply q_bin
    | apply q_cmp
    | apply q_ix
    | apply q_not
    | apply q_neg
    | apply q_one
    | apply q_tup
    | apply q_lst
    | apply q_sl
    | apply q_rev
    | apply q_bi
    | apply q_isi
    | exact fun _ => OneE.mk rfl rfl rfl
    | apply OneM.mk
    | apply OneA.mk
    | apply l_cons
    | apply op_cons
    | apply a_mv
    | apply a_sh
    | apply a_tm)
/-! ### wishes, and what lies above -/
abbrev Hope := Int × List Nat
def hopeX (t : Bool) (h : Hope) : D := sq t [.int h.1, .str h.2]
def hopesX (t : Bool) (hs : List Hope) : D := sq t (hs.map (hopeX t))
def aboveS (ps : List Bill) (os : Row) (h : Hope) : Row := (os.drop (posS h.2 os + 1)).filter (hasS (overS ps h.1))
def allS' (ps : List Bill) (os : Row) (hs : List Hope) : Row := hs.flatMap (aboveS ps os)
def goneS (ps : List Bill) (os : Row) (hs : List Hope) : Row := sortS (dedS (allS' ps os hs))
def tornD (ps : List Bill) (os : Row) (hs : List Hope) : D := if hs.any (fun h => hasS (goneS ps os hs) h.2) then .non else .tup ((goneS ps os hs).map D.str)
theorem over_c (n : Nat) : OverF (moT T) (callI T (n + 1)) 0 := ⟨rfl, fun t ps c h => over_g t ps c (by omega)⟩
theorem idx_row {t : Bool} {os : Row} {x : List Nat} (h : x ∈ os) : idxD (rowX t os) (rowX t os) (.str x) = some (.int (posS x os : Nat)) := by
  have s := shal_strs t os
  have p := posL_str h
  cases t with
  | true =>
    show (if shal (.str x) && shal (.tup (os.map D.str)) then (posL (.str x) (os.map D.str)).map fun j : Nat => D.int (j : Int) else none) = _
    rw [show shal (.tup (os.map D.str)) = true from s, p]; rfl
  | false =>
    show (if shal (.str x) && shal (.lst (os.map D.str)) then (posL (.str x) (os.map D.str)).map fun j : Nat => D.int (j : Int) else none) = _
    rw [show shal (.lst (os.map D.str)) = true from s, p]; rfl
def ownT : Bool → List D → RV
  | true, xs => .sh (.tup xs)
  | false, xs => .own xs
theorem sl_row (t : Bool) (os : Row) (n : Nat) : slD (rowX t os) (some ((n : Int) + 1)) none = some (ownT t ((os.drop (n + 1)).map D.str)) := by
  have := cut_suf (os.map D.str) (n + 1)
  rw [List.map_drop]
  cases t with
  | true =>
    show some (RV.sh (.tup (cut (os.map D.str) (some ((n : Int) + 1)) none))) = _
    rw [show ((n : Int) + 1) = ((n + 1 : Nat) : Int) by omega, this]; rfl
  | false =>
    show some (RV.own (cut (os.map D.str) (some ((n : Int) + 1)) none)) = _
    rw [show ((n : Int) + 1) = ((n + 1 : Nat) : Int) by omega, this]; rfl
theorem in_over (ps : List Bill) (c : Int) (x : List Nat) : cmpD .in_ (.str x) (.tup (overD ps c)) = some (hasS (overS ps c) x) := by
  rw [overD_S]; exact in_strs x true (overS ps c)
theorem above_c (n : Nat) (t u v : Bool) (ps : List Bill) (os : Row) (h : Hope) (hl : ps.length ≤ 1000) (ho : os.length ≤ 1000) (hm : h.2 ∈ os) :
    callI T (n + 2) 1 [.sh (fenceX t ps), .sh (rowX u os), .sh (hopeX v h)] = some (.own ((aboveS ps os h).map D.str), []) := by
  refine fp_eq ?_
  have hov := over_c n
  rw [c1]
  generalize callI T (n + 1) = cf at *
  refine f_run rfl ?_
  apply w_asgT (v := .sh (hopeX v h)) (e2 := [S (fenceX t ps), S (rowX u os), S (hopeX v h), none, S (.int h.1), S (.str h.2), none]) rfl (by cases v <;> rfl) rfl
  apply w_asg (v := ownT u ((os.drop (posS h.2 os + 1)).map D.str)) (e1 := [S (fenceX t ps), S (rowX u os), S (hopeX v h), none, S (.int h.1), S (.str h.2), none]) (e2 := [S (fenceX t ps), S (rowX u os), S (hopeX v h), some (ownT u ((os.drop (posS h.2 os + 1)).map D.str)).sv, S (.int h.1), S (.str h.2), none])
  · exact q_sl (x := rowX u os) rfl (q_bin (x := .int (posS h.2 os : Nat)) (y := .int 1) (o_dv (q_idx (x1 := rowX u os) (x := rowX u os) (y := .str h.2) rfl rfl rfl rfl rfl (idx_row hm)) rfl) rfl rfl rfl rfl) rfl rfl rfl rfl (sl_row u os _)
  · cases u <;> rfl
  have q : evR (moT T) cf L1_0 [S (fenceX t ps), S (rowX u os), S (hopeX v h), some (ownT u ((os.drop (posS h.2 os + 1)).map D.str)).sv, S (.int h.1), S (.str h.2), none] = some ([S (fenceX t ps), S (rowX u os), S (hopeX v h), S (rowX u (os.drop (posS h.2 os + 1))), S (.int h.1), S (.str h.2), none], .own (((os.drop (posS h.2 os + 1)).filter (hasS (overS ps h.1))).map D.str)) :=
    q_A (os.drop (posS h.2 os + 1)) D.str (by cases u <;> rfl) rfl (by rw [List.length_drop]; omega) fun x _ => OneA.mk (en1 := [S (fenceX t ps), S (rowX u os), S (hopeX v h), S (rowX u (os.drop (posS h.2 os + 1))), S (.int h.1), S (.str h.2), S (.str x)]) rfl (t_dv (q_cmp (x := .str x) (y := .tup (overD ps h.1)) rfl (o_dv (q_call hov.1 rfl rfl rfl (hov.2 t ps h.1 hl) rfl) rfl) rfl rfl (in_over ps h.1 x)) rfl rfl) rfl fun _ => OneE.mk rfl rfl rfl
  exact w_rete q rfl ⟨_, rfl, rfl, rfl⟩
theorem ded_len : ∀ ss : Row, (dedS ss).length ≤ ss.length
  | [] => Nat.le_refl _
  | x :: xs => by
    have := ded_len xs
    show (x :: (dedS xs).filter _).length ≤ _
    rw [List.length_cons, List.length_cons]
    exact Nat.succ_le_succ (Nat.le_trans (List.length_filter_le _ _) this)
theorem ss_strs {ss : Row} (h : ss.length < 3000) : biD .sortedset [.lst (ss.map D.str)] = some (.own ((sortS (dedS ss)).map D.str)) := by
  unfold biD
  simp only [allS_str, List.length_map, h, decide_true, Bool.and_self, if_true]
  rw [ded_map, sort_map]
theorem b_anyB {xs : List D} (h : allB xs = true) : biD .any [.lst xs] = some (.sh (.bl (xs.any isB))) := by simp only [biD, h, if_true]
theorem b_anyA {α : Type} (p : α → Bool) (xs : List α) : biD .any [.lst (xs.map fun x => D.bl (p x))] = some (.sh (.bl (xs.any p))) := by
  rw [b_anyB (allB_of p xs), List.any_map, show (isB ∘ fun x => D.bl (p x)) = p from funext fun x => by show isB (.bl (p x)) = p x; cases p x <;> rfl]
theorem above_len (ps : List Bill) (os : Row) (h : Hope) : (aboveS ps os h).length ≤ os.length := by
  unfold aboveS
  exact Nat.le_trans (List.length_filter_le _ _) (by rw [List.length_drop]; omega)
theorem all_len (ps : List Bill) (os : Row) : ∀ hs : List Hope, (allS' ps os hs).length ≤ hs.length * os.length
  | [] => by simp [allS']
  | h :: hs => by
    have h1 := above_len ps os h
    have h2 := all_len ps os hs
    show (List.flatMap (aboveS ps os) (h :: hs)).length ≤ _
    rw [List.flatMap_cons, List.length_append, List.length_cons, Nat.add_mul]
    unfold allS' at h2
    omega
theorem flat_strs2 (ps : List Bill) (os : Row) (hs : List Hope) : (hs.flatMap fun a => ((aboveS ps os a).filter fun _ => true).map D.str) = (allS' ps os hs).map D.str := by
  unfold allS'
  rw [List.map_flatMap]
  refine congrArg (fun f => List.flatMap f hs) (funext fun a => ?_)
  rw [List.filter_eq_self.mpr fun _ _ => rfl]
theorem tear_c (n : Nat) (t u v : Bool) (ps : List Bill) (os : Row) (hs : List Hope) (hl : ps.length ≤ 1000) (ho : os.length ≤ 50) (hh : hs.length ≤ 50) (hm : ∀ h ∈ hs, h.2 ∈ os) :
    callI T (n + 3) 2 [.sh (fenceX t ps), .sh (rowX u os), .sh (hopesX v hs)] = some (.sh (tornD ps os hs), []) := by
  refine fp_eq ?_
  have hab := fun h hm => above_c n t u v ps os h hl (by omega) hm
  rw [c2]
  generalize callI T (n + 2) = cf at *
  have lenA := all_len ps os hs
  have lm : hs.length * os.length ≤ 50 * 50 := Nat.mul_le_mul hh ho
  refine f_run rfl ?_
  have q : evR (moT T) cf (.lc2 (.nm 4) (.seq (.var 2)) .nop (.nm 5) (.seq (.call 1 (.cons (.var 0) (.cons (.var 1) (.cons (.var 4) .nil))))) .nop (.var 5) [4, 5] [5]) [S (fenceX t ps), S (rowX u os), S (hopesX v hs), none, none, none, none] = some ([S (fenceX t ps), S (rowX u os), S (hopesX v hs), none, none, none, none], .own ((allS' ps os hs).map D.str)) := by
    have := q_2 (mo := moT T) (cf := cf) hs (hopeX v) (aboveS ps os) (fun _ => D.str) (g := fun _ => D.str) (p := fun _ _ => true) (t := .nm 4) (it := .seq (.var 2)) (t2 := .nm 5) (it2 := .seq (.call 1 (.cons (.var 0) (.cons (.var 1) (.cons (.var 4) .nil))))) (c2 := .nop) (e := .var 5) (vs := [4, 5]) (vs2 := [5]) (env := [S (fenceX t ps), S (rowX u os), S (hopesX v hs), none, none, none, none]) (e1 := [S (fenceX t ps), S (rowX u os), S (hopesX v hs), none, none, none, none]) (seq_sq rfl) rfl (fun h hmm => Two.mk (en1 := [S (fenceX t ps), S (rowX u os), S (hopesX v hs), none, S (hopeX v h), none, none]) (en3 := [S (fenceX t ps), S (rowX u os), S (hopesX v hs), none, S (hopeX v h), none, none]) rfl (i_seq (q_call rfl rfl rfl rfl (hab h (hm h hmm)) rfl) (.inl rfl)) rfl fun x _ => OneA.mk (en1 := [S (fenceX t ps), S (rowX u os), S (hopesX v hs), none, S (hopeX v h), S (.str x), none]) rfl rfl rfl fun _ => OneE.mk rfl rfl rfl) (by rw [flat_strs2, List.length_map]; omega)
    rwa [flat_strs2] at this
  have q1 : evR (moT T) cf L2_1 [S (fenceX t ps), S (rowX u os), S (hopesX v hs), none, none, none, none] = some ([S (fenceX t ps), S (rowX u os), S (hopesX v hs), none, none, none, none], .own ((goneS ps os hs).map D.str)) := ss_of q (by rw [allS_str]; rfl) (ss_strs (by omega))
  apply w_asg (e2 := [S (fenceX t ps), S (rowX u os), S (hopesX v hs), O ((goneS ps os hs).map D.str), none, none, none]) q1 rfl
  have q2 : evR (moT T) cf L2_0 [S (fenceX t ps), S (rowX u os), S (hopesX v hs), O ((goneS ps os hs).map D.str), none, none, none] = some ([S (fenceX t ps), S (rowX u os), S (hopesX v hs), O ((goneS ps os hs).map D.str), none, none, none], .own (hs.map fun h => D.bl (hasS (goneS ps os hs) h.2))) :=
    q_M hs (hopeX v) (seq_sq rfl) rfl (by omega) fun h _ => OneM.mk (en := [S (fenceX t ps), S (rowX u os), S (hopesX v hs), O ((goneS ps os hs).map D.str), none, S (.str h.2), S (.int h.1)]) (by cases v <;> rfl) (q_cmp (x := .str h.2) (y := .lst ((goneS ps os hs).map D.str)) rfl rfl rfl rfl (in_strs h.2 false _)) rfl rfl
  have hb : biD .any [.lst (hs.map fun h => D.bl (hasS (goneS ps os hs) h.2))] = some (.sh (.bl (hs.any fun h => hasS (goneS ps os hs) h.2))) := b_anyA _ hs
  refine w_ite (t := hs.any fun h => hasS (goneS ps os hs) h.2) (e1 := [S (fenceX t ps), S (rowX u os), S (hopesX v hs), O ((goneS ps os hs).map D.str), none, none, none]) (t_dv (q_bi (op_cons (o_dv q2 rfl) rfl) rfl hb) rfl rfl) (fun h => w_rete rfl rfl ⟨_, rfl, ?_, rfl⟩) fun h => w_nil ?_
  · unfold tornD
    rw [h]; rfl
  · refine w_rete (v := .sh (.tup ((goneS ps os hs).map D.str))) rfl rfl ⟨_, rfl, ?_, rfl⟩
    unfold tornD
    rw [h]; rfl
end
end MP.K52

set_option Elab.async false
set_option linter.all false
set_option maxRecDepth 100000
namespace MP.K52
open MP
section
local macro_rules
  | `(tactic| trivial) => `(tactic| repeat first
    | rfl
    | assumption
    | apply o_dv
    | apply t_dv
    | apply q_call
    | apply q_bin
    | apply q_cmp
    | apply q_ix
    | apply q_not
    | apply q_neg
    | apply q_one
    | apply q_tup
    | apply q_lst
    | apply q_sl
    | apply q_rev
    | apply q_bi
    | apply q_isi
    | exact fun _ => OneE.mk rfl rfl rfl
    | apply OneM.mk
    | apply OneA.mk
    | apply l_cons
    | apply op_cons
    | apply a_mv
    | apply a_sh
    | apply a_tm)
/-! ### the law's own -/
def crownS (ps : List Bill) (os : Row) (c : Int) : List Nat := ((os.filter (hasS (overS ps c))).getLast?).getD [45]
def metB (ps : List Bill) (os : Row) (hs : List Hope) : Bool := hs.all fun h => crownS ps os h.1 == h.2
theorem lover_c (n : Nat) : LOverF (moT T) (callI T (n + 1)) 11 := ⟨rfl, fun t ps c h => lover_g t ps c (by omega)⟩
theorem crown_c (n : Nat) (t u : Bool) (ps : List Bill) (os : Row) (c : Int) (hl : ps.length ≤ 1000) (ho : os.length ≤ 1000) :
    callI T (n + 2) 12 [.sh (fenceX t ps), .sh (rowX u os), .sh (.int c)] = some (.sh (.str (crownS ps os c)), []) := by
  refine fp_eq ?_
  have hov := lover_c n
  rw [c12]
  generalize callI T (n + 1) = cf at *
  refine f_run rfl ?_
  have k1 := hov.2 t ps c hl
  rw [overD_S] at k1
  apply w_asg (e2 := [S (fenceX t ps), S (rowX u os), S (.int c), O ((overS ps c).map D.str), none, none]) (q_call hov.1 rfl rfl rfl k1 rfl) rfl
  have q : evR (moT T) cf L12_0 [S (fenceX t ps), S (rowX u os), S (.int c), O ((overS ps c).map D.str), none, none] = some ([S (fenceX t ps), S (rowX u os), S (.int c), O ((overS ps c).map D.str), none, none], .own ((os.filter (hasS (overS ps c))).map D.str)) :=
    q_A os D.str (seq_sq rfl) rfl (by omega) fun x _ => OneA.mk (en1 := [S (fenceX t ps), S (rowX u os), S (.int c), O ((overS ps c).map D.str), none, S (.str x)]) rfl (t_dv (q_cmp (x := .str x) (y := .lst ((overS ps c).map D.str)) rfl rfl rfl rfl (in_strs x false _)) rfl rfl) rfl fun _ => OneE.mk rfl rfl rfl
  have hle : (os.filter (hasS (overS ps c))).length ≤ 1000 := Nat.le_trans (List.length_filter_le _ _) ho
  unfold crownS
  generalize os.filter (hasS (overS ps c)) = l at *
  apply w_asg (e2 := [S (fenceX t ps), S (rowX u os), S (.int c), O ((overS ps c).map D.str), O (l.map D.str), none]) q rfl
  have hd : dep (.lst (l.map D.str)) ≤ 60 := by rw [dep, depL_strs]; omega
  cases l with
  | nil =>
    exact w_rete (v := .sh (.str [45])) (q_ite_f (t := false) (t_dv (q_cmp (x := .lst []) (y := .lst []) rfl rfl rfl rfl (c_ne (by decide) (by decide))) rfl rfl) rfl rfl) rfl ⟨_, rfl, rfl, rfl⟩
  | cons y l =>
    have hne : (y :: l).map D.str ≠ [] := by simp
    refine w_rete (v := .sh (((y :: l).map D.str).getLast hne)) (q_ite_t (t := true) (t_dv (q_cmp (x := .lst ((y :: l).map D.str)) (y := .lst []) rfl rfl rfl rfl (c_ne hd (by decide))) rfl rfl) rfl (q_ix (x := .lst ((y :: l).map D.str)) (y := .int (-1)) rfl rfl rfl rfl (ix_last false hne))) rfl ⟨_, rfl, ?_, rfl⟩
    rw [List.getLast_map, List.getLast?_eq_getLast (by simp)]; rfl
theorem ok_hope (t : Bool) (h : Hope) : Ok (hopeX t h) := plm_sq (k := 49) |>.mpr ⟨by simp, fun x hx => by
  simp only [List.mem_cons, List.not_mem_nil, or_false] at hx
  rcases hx with rfl | rfl <;> rfl⟩
theorem plm_hope (t : Bool) (h : Hope) (k : Nat) : plm 1000 (k + 1) (hopeX t h) = true := plm_sq.mpr ⟨by simp, fun x hx => by
  simp only [List.mem_cons, List.not_mem_nil, or_false] at hx
  rcases hx with rfl | rfl <;> cases k <;> rfl⟩
theorem plm_hopes (t u : Bool) (hs : List Hope) (k : Nat) (hl : hs.length ≤ 1000) : plm 1000 (k + 2) (sq u (hs.map (hopeX t))) = true := plm_sq.mpr ⟨by rw [List.length_map]; exact hl, fun x hx => by
  obtain ⟨h, _, rfl⟩ := List.mem_map.mp hx
  exact plm_hope t h k⟩
theorem ix_hope (t : Bool) (h : Hope) : ixD (hopeX t h) (.int 0) = some (.int h.1) ∧ ixD (hopeX t h) (.int 1) = some (.str h.2) := by
  cases t <;> exact ⟨rfl, rfl⟩
theorem eqL_empty {α : Type} (f : α → D) (l : List α) : eqL (l.map f) [] = l.isEmpty := by cases l <;> rfl
theorem noneB {α : Type} (g : α → Bool) : ∀ hs : List α, (hs.filter fun h => !(g h)).isEmpty = hs.all g
  | [] => rfl
  | h :: hs => by
    have ih := noneB g hs
    rw [List.filter_cons, List.all_cons]
    cases g h
    · rfl
    · simpa using ih
set_option maxHeartbeats 1000000 in
theorem met_c (n : Nat) (t u v : Bool) (ps : List Bill) (os : Row) (hs : List Hope) (hl : ps.length ≤ 1000) (ho : os.length ≤ 1000) (hh : hs.length ≤ 1000) :
    callI T (n + 3) 13 [.sh (fenceX t ps), .sh (rowX u os), .sh (hopesX v hs)] = some (.sh (.bl (metB ps os hs)), []) := by
  refine fp_eq ?_
  have hc := fun c => crown_c n t u ps os c hl ho
  rw [c13]
  generalize callI T (n + 2) = cf at *
  refine f_run rfl ?_
  have q1 : ∀ h : Hope, evR (moT T) cf (.ix (.var 3) (.k (.int 1))) [S (fenceX t ps), S (rowX u os), S (hopesX v hs), S (hopeX v h)] = some ([S (fenceX t ps), S (rowX u os), S (hopesX v hs), S (hopeX v h)], .sh (.str h.2)) := fun h => q_ix rfl rfl rfl rfl (ix_hope v h).2
  have q0 : ∀ h : Hope, evR (moT T) cf (.ix (.var 3) (.k (.int 0))) [S (fenceX t ps), S (rowX u os), S (hopesX v hs), S (hopeX v h)] = some ([S (fenceX t ps), S (rowX u os), S (hopesX v hs), S (hopeX v h)], .sh (.int h.1)) := fun h => q_ix rfl rfl rfl rfl (ix_hope v h).1
  have q : evR (moT T) cf L13_0 [S (fenceX t ps), S (rowX u os), S (hopesX v hs), none] = some ([S (fenceX t ps), S (rowX u os), S (hopesX v hs), none], .own ((hs.filter fun h => !(crownS ps os h.1 == h.2)).map (hopeX v))) :=
    q_A hs (hopeX v) (seq_sq rfl) rfl (by omega) fun h _ => OneA.mk (en1 := [S (fenceX t ps), S (rowX u os), S (hopesX v hs), S (hopeX v h)]) (en2 := [S (fenceX t ps), S (rowX u os), S (hopesX v hs), S (hopeX v h)]) rfl (t_dv (q_cmp (x := .str (crownS ps os h.1)) (y := .str h.2) (r := !(crownS ps os h.1 == h.2)) (o_dv (q_call rfl (a_sh (x := .sh (fenceX t ps)) rfl (a_sh (x := .sh (rowX u os)) rfl (a_sh (q0 h) rfl))) rfl rfl (hc h.1) rfl) rfl) (o_dv (q1 h) rfl) rfl rfl rfl) rfl rfl) rfl fun _ => OneE.mk (en3 := [S (fenceX t ps), S (rowX u os), S (hopesX v hs), S (hopeX v h)]) (r := .sh (hopeX v h)) rfl rfl rfl
  have hd : dep (.lst ((hs.filter fun h => !(crownS ps os h.1 == h.2)).map (hopeX v))) ≤ 60 := by
    have := plm_dep (plm_hopes v false (hs.filter fun h => !(crownS ps os h.1 == h.2)) 0 (Nat.le_trans (List.length_filter_le _ _) hh))
    exact Nat.le_trans this (by decide)
  refine w_rete (v := .sh (.bl (metB ps os hs))) (q_cmp (x := .lst ((hs.filter fun h => !(crownS ps os h.1 == h.2)).map (hopeX v))) (y := .lst []) (o_dv q rfl) (o_dv rfl rfl) rfl rfl ?_) rfl ⟨_, rfl, rfl, rfl⟩
  rw [c_eq hd (by decide)]
  show some (eqL _ []) = _
  rw [eqL_empty]
  exact congrArg some (noneB _ hs)
/-! ### what all have -/
def commonS (fs : List Row) : Row := sortS ((fs.headD []).filter fun tag => (fs.filter fun own => !hasS own tag).isEmpty)
theorem plm_rows (u v : Bool) (rs : List Row) (k : Nat) (hl : rs.length ≤ 1000) (h : ∀ r ∈ rs, r.length ≤ 1000) : plm 1000 (k + 2) (sq u (rs.map (rowX v))) = true := plm_sq.mpr ⟨by rw [List.length_map]; exact hl, fun x hx => by
  obtain ⟨r, hr, rfl⟩ := List.mem_map.mp hx
  exact plm_row (h r hr)⟩
theorem common_c (n : Nat) (f : Row) (fs : List Row) (hl : (f :: fs).length ≤ 1000) (h : ∀ r ∈ f :: fs, r.length ≤ 1000) :
    callI T (n + 1) 14 [.sh (.lst ((f :: fs).map (rowX true)))] = some (.sh (rowX true (commonS (f :: fs))), []) := by
  refine fp_eq ?_
  rw [c14]
  generalize callI T n = cf at *
  refine f_run rfl ?_
  have q0 : ∀ tag : List Nat, evR (moT T) cf L14_0 [S (.lst ((f :: fs).map (rowX true))), S (.str tag), none] = some ([S (.lst ((f :: fs).map (rowX true))), S (.str tag), none], .own (((f :: fs).filter fun own => !hasS own tag).map (rowX true))) := fun tag =>
    q_A (f :: fs) (rowX true) (seq_sq (t := false) rfl) rfl (by omega) fun r _ => OneA.mk (en1 := [S (.lst ((f :: fs).map (rowX true))), S (.str tag), S (rowX true r)]) rfl (t_dv (q_cmp (x := .str tag) (y := rowX true r) rfl rfl rfl rfl (nin_strs tag true r)) rfl rfl) rfl fun _ => OneE.mk rfl rfl rfl
  have hd : ∀ tag : List Nat, dep (.lst (((f :: fs).filter fun own => !hasS own tag).map (rowX true))) ≤ 60 := fun tag => by
    have := plm_dep (plm_rows false true ((f :: fs).filter fun own => !hasS own tag) 0 (Nat.le_trans (List.length_filter_le _ _) hl) fun r hr => h r (List.mem_filter.mp hr).1)
    exact Nat.le_trans this (by decide)
  have hf := h f List.mem_cons_self
  have q1 : evR (moT T) cf L14_1 [S (.lst ((f :: fs).map (rowX true))), none, none] = some ([S (.lst ((f :: fs).map (rowX true))), none, none], .own ((f.filter fun tag => ((f :: fs).filter fun own => !hasS own tag).isEmpty).map D.str)) :=
    q_A f D.str (i_seq (r := .sh (rowX true f)) (q_ix (x := .lst ((f :: fs).map (rowX true))) (y := .int 0) rfl rfl rfl rfl (ix_lst (j := 0) rfl rfl)) (.inr (.inl rfl))) rfl (by omega) fun tag _ => OneA.mk (en1 := [S (.lst ((f :: fs).map (rowX true))), S (.str tag), none]) rfl (t_dv (q_cmp (x := .lst (((f :: fs).filter fun own => !hasS own tag).map (rowX true))) (y := .lst []) (o_dv (q0 tag) rfl) rfl rfl rfl ((c_eq (hd tag) (by decide)).trans (congrArg some (eqL_empty _ _)))) rfl rfl) rfl fun _ => OneE.mk rfl rfl rfl
  exact w_rete (v := .sh (.tup ((commonS (f :: fs)).map D.str))) (q_bi (op_cons (o_dv (q_bi (op_cons (o_dv q1 rfl) rfl) rfl (b_sortedS _)) rfl) rfl) rfl rfl) rfl ⟨_, rfl, rfl, rfl⟩
theorem tags_c (n : Nat) (t : Bool) (ps : List Bill) (hl : ps.length ≤ 1000) : callI T (n + 1) 16 [.sh (fenceX t ps)] = some (.sh (rowX true (namesS ps)), []) := by
  refine fp_eq ?_
  rw [c16]
  refine f_run rfl ?_
  have q : evR (moT T) (callI T n) L16_0 [S (fenceX t ps), none] = some ([S (fenceX t ps), none], .own (ps.map fun p => D.str p.1)) :=
    q_M ps (billX t) (seq_sq rfl) rfl (by omega) fun p _ => OneM.mk (en := [S (fenceX t ps), S (billX t p)]) rfl (q_ix rfl rfl rfl rfl (ix_bill t p).1) rfl rfl
  rw [show (ps.map fun p => D.str p.1) = (namesS ps).map D.str from tagsD_names ps] at q
  exact w_rete (v := .sh (rowX true (namesS ps))) (q_bi (op_cons (o_dv q rfl) rfl) rfl rfl) rfl ⟨_, rfl, rfl, rfl⟩
/-! ### the least -/
def subsF (acc : List Row) : Row → List Row
  | [] => acc
  | t :: ts => subsF (acc ++ acc.map fun o => o ++ [t]) ts
def restS (os own : Row) : Row := os.filter fun t => !hasS own t
def fineS (ps : List Bill) (os : Row) (hs : List Hope) : List Row := (subsF [[]] (namesS ps)).filter fun own => metB ps (restS os own) hs
def leastD (ps : List Bill) (os : Row) (hs : List Hope) : D := match fineS ps os hs with
  | [] => .non
  | f :: fs => if (f :: fs).any fun r => r == commonS (f :: fs) then rowX true (commonS (f :: fs)) else .str [110, 111, 110, 101, 32, 105, 115, 32, 108, 101, 97, 115, 116]
theorem subs_len : ∀ (ts : Row) (acc : List Row), (subsF acc ts).length = acc.length * 2 ^ ts.length
  | [], acc => by simp [subsF]
  | t :: ts, acc => by
    rw [subsF, subs_len ts, List.length_append, List.length_map, List.length_cons, Nat.pow_succ]
    rw [← Nat.two_mul, Nat.mul_comm 2, Nat.mul_assoc, Nat.mul_comm 2]
theorem subs_row : ∀ (ts : Row) (acc : List Row) (n : Nat), (∀ r ∈ acc, r.length ≤ n) → ∀ r ∈ subsF acc ts, r.length ≤ n + ts.length
  | [], acc, n, h, r, hr => h r hr
  | t :: ts, acc, n, h, r, hr => by
    have := subs_row ts _ (n + 1) (fun r hr => by
      rcases List.mem_append.mp hr with z | z
      · exact Nat.le_succ_of_le (h r z)
      · obtain ⟨o, ho, rfl⟩ := List.mem_map.mp z
        have := h o ho
        rw [List.length_append]
        simp only [List.length_cons, List.length_nil]
        omega) r hr
    rw [List.length_cons]
    omega
abbrev E17 (t u v : Bool) (ps : List Bill) (os : Row) (hs : List Hope) (a3 a4 a5 a6 a7 a8 : Option SV) : En := [S (fenceX t ps), S (rowX u os), S (hopesX v hs), a3, a4, a5, a6, a7, a8]
theorem least_c (n : Nat) (t u v : Bool) (ps : List Bill) (os : Row) (hs : List Hope) (hl : ps.length ≤ 5) (ho : os.length ≤ 1000) (hh : hs.length ≤ 1000) :
    callI T (n + 4) 17 [.sh (fenceX t ps), .sh (rowX u os), .sh (hopesX v hs)] = some (.sh (leastD ps os hs), []) := by
  refine fp_eq ?_
  have hm := fun rs h => met_c n t true v ps rs hs (by omega) h hh
  have hc := fun f fs h1 h2 => common_c (n + 2) f fs h1 h2
  have ht := tags_c (n + 2) t ps (by omega)
  rw [c17]
  simp only [show n + 2 + 1 = n + 3 from rfl] at *
  generalize callI T (n + 3) = cf at *
  have ln : (namesS ps).length ≤ 5 := by rw [namesS_len]; exact hl
  have p32 : 2 ^ (namesS ps).length ≤ 32 := Nat.pow_le_pow_right (n := 2) (by decide) ln
  have sl := subs_len (namesS ps) [[]]
  rw [List.length_singleton, Nat.one_mul] at sl
  have sr := subs_row (namesS ps) [[]] 0 (fun r hr => by rw [List.mem_singleton.mp hr]; exact Nat.le_refl _)
  refine f_run rfl ?_
  apply w_asg (v := .own [.tup []]) (e2 := E17 t u v ps os hs (O [.tup []]) none none none none none) rfl rfl
  refine w_loop (e1 := E17 t u v ps os hs (O [.tup []]) none none none none none) (xs := (namesS ps).map D.str) (i_seq (q_call rfl rfl rfl rfl ht rfl) (.inr (.inl rfl))) (fun rest e => ∃ acc td, rest = td.map D.str ∧ subsF acc td = subsF [[]] (namesS ps) ∧ (∀ r ∈ acc, r.length + td.length ≤ 5) ∧ e = E17 t u v ps os hs (O (acc.map (rowX true))) none none none none none) ⟨[[]], _, rfl, rfl, fun r hr => by rw [List.mem_singleton.mp hr]; simpa using ln, rfl⟩ ?_ ?_
  · rintro x rest e ⟨acc, td, hr, hs1, hrl, rfl⟩
    cases td with
    | nil => cases hr
    | cons tag td =>
    obtain ⟨rfl, rfl⟩ := List.cons.inj hr
    refine ⟨E17 t u v ps os hs (O (acc.map (rowX true))) (S (.str tag)) none none none none, rfl, ?_⟩
    have la : acc.length ≤ 32 := by
      have := subs_len (tag :: td) acc
      rw [hs1, sl] at this
      have : acc.length * 1 ≤ acc.length * 2 ^ (tag :: td).length := Nat.mul_le_mul_left _ Nat.one_le_two_pow
      omega
    have hr2 : ∀ r ∈ acc, r.length ≤ 1000 := fun r hr => by have := hrl r hr; omega
    have q : evR (moT T) cf L17_1 (E17 t u v ps os hs (O (acc.map (rowX true))) (S (.str tag)) none none none none) = some (E17 t u v ps os hs (S (.lst (acc.map (rowX true)))) (S (.str tag)) none none none none, .own (acc.map fun o => rowX true (o ++ [tag]))) :=
      q_M acc (rowX true) rfl rfl (by omega) fun o ho => OneM.mk (en := E17 t u v ps os hs (S (.lst (acc.map (rowX true)))) (S (.str tag)) none (S (rowX true o)) none none) rfl (q_bin (x := rowX true o) (y := .tup [.str tag]) (r := .sh (rowX true (o ++ [tag]))) rfl rfl rfl rfl ((b_addt (by have := hr2 o ho; rw [List.length_map]; simp only [List.length_cons, List.length_nil]; omega)).trans (by show some (RV.sh (.tup (o.map D.str ++ [tag].map D.str))) = _; rw [← List.map_append]; rfl))) rfl rfl
    apply w_asg (v := .own ((acc ++ acc.map fun o => o ++ [tag]).map (rowX true))) (e1 := E17 t u v ps os hs (S (.lst (acc.map (rowX true)))) (S (.str tag)) none none none none) (e2 := E17 t u v ps os hs (O ((acc ++ acc.map fun o => o ++ [tag]).map (rowX true))) (S (.str tag)) none none none none)
    · refine q_bin (x := .lst (acc.map (rowX true))) (y := .lst (acc.map fun o => rowX true (o ++ [tag]))) rfl (o_dv q rfl) rfl rfl ((b_addl (by rw [List.length_map, List.length_map]; omega)).trans ?_)
      rw [List.map_append, List.map_map]; rfl
    · rfl
    · refine w_wipe rfl rfl (w_nil ⟨_, td, rfl, hs1, fun r hr => ?_, rfl⟩)
      rcases List.mem_append.mp hr with z | z
      · have := hrl r z
        rw [List.length_cons] at this
        omega
      · obtain ⟨o, ho, rfl⟩ := List.mem_map.mp z
        have := hrl o ho
        rw [List.length_cons] at this
        rw [List.length_append]
        simp only [List.length_cons, List.length_nil]
        omega
  rintro e ⟨acc, td, hr, hs1, hrl, rfl⟩
  cases td with
  | cons tag td => cases hr
  | nil =>
  have hs1 : acc = subsF [[]] (namesS ps) := hs1
  have la : acc.length ≤ 32 := by rw [hs1, sl]; exact p32
  have ra : ∀ r ∈ acc, r.length ≤ 5 := fun r hr => by rw [hs1] at hr; have := sr r hr; omega
  unfold leastD fineS
  rw [← hs1]
  apply w_asg (v := .own []) (e2 := E17 t u v ps os hs (O (acc.map (rowX true))) none (O []) none none none) rfl rfl
  refine w_loop (e1 := E17 t u v ps os hs (S (.lst (acc.map (rowX true)))) none (O []) none none none) (xs := acc.map (rowX true)) rfl (fun rest e => ∃ dn td, rest = td.map (rowX true) ∧ (dn ++ td.filter fun own => metB ps (restS os own) hs) = (acc.filter fun own => metB ps (restS os own) hs) ∧ dn.length + td.length ≤ 32 ∧ e = E17 t u v ps os hs (S (.lst (acc.map (rowX true)))) none (O (dn.map (rowX true))) none none none) ⟨[], acc, rfl, rfl, by simpa using la, rfl⟩ ?_ ?_
  · rintro x rest e ⟨dn, td, hr, hs2, hln, rfl⟩
    cases td with
    | nil => cases hr
    | cons own td =>
    obtain ⟨rfl, rfl⟩ := List.cons.inj hr
    rw [List.length_cons] at hln
    refine ⟨E17 t u v ps os hs (S (.lst (acc.map (rowX true)))) none (O (dn.map (rowX true))) (S (rowX true own)) none none, rfl, ?_⟩
    have q : evR (moT T) cf L17_0 (E17 t u v ps os hs (S (.lst (acc.map (rowX true)))) none (O (dn.map (rowX true))) (S (rowX true own)) none none) = some (E17 t u v ps os hs (S (.lst (acc.map (rowX true)))) none (O (dn.map (rowX true))) (S (rowX true own)) none none, .own ((restS os own).map D.str)) :=
      q_A os D.str (seq_sq rfl) rfl (by omega) fun x _ => OneA.mk (en1 := E17 t u v ps os hs (S (.lst (acc.map (rowX true)))) (S (.str x)) (O (dn.map (rowX true))) (S (rowX true own)) none none) rfl (t_dv (q_cmp (x := .str x) (y := rowX true own) rfl rfl rfl rfl (nin_strs x true own)) rfl rfl) rfl fun _ => OneE.mk rfl rfl rfl
    apply w_asg (v := .sh (rowX true (restS os own))) (e1 := E17 t u v ps os hs (S (.lst (acc.map (rowX true)))) none (O (dn.map (rowX true))) (S (rowX true own)) none none) (e2 := E17 t u v ps os hs (S (.lst (acc.map (rowX true)))) none (O (dn.map (rowX true))) (S (rowX true own)) none (S (rowX true (restS os own))))
    · exact q_bi (op_cons (o_dv q rfl) rfl) rfl rfl
    · rfl
    have k := hm (restS os own) (Nat.le_trans (List.length_filter_le _ _) ho)
    refine w_ite (t := metB ps (restS os own) hs) (e1 := E17 t u v ps os hs (S (.lst (acc.map (rowX true)))) none (O (dn.map (rowX true))) (S (rowX true own)) none (S (rowX true (restS os own)))) (t_dv (q_call rfl rfl rfl rfl k rfl) rfl rfl) (fun h => ?_) fun h => w_nil ?_
    · refine w_app (e1 := E17 t u v ps os hs (S (.lst (acc.map (rowX true)))) none (O (dn.map (rowX true))) (S (rowX true own)) none (S (rowX true (restS os own)))) (r := .sh (rowX true own)) rfl rfl rfl (by rw [List.length_map]; omega) (w_nil (w_wipe rfl rfl (w_nil ⟨dn ++ [own], td, rfl, ?_, ?_, ?_⟩)))
      · rw [← hs2, List.filter_cons, h, List.append_assoc]; rfl
      · rw [List.length_append]; simp only [List.length_cons, List.length_nil]; omega
      · rw [List.map_append]; rfl
    · refine w_wipe rfl rfl (w_nil ⟨dn, td, rfl, ?_, by omega, rfl⟩)
      rw [← hs2, List.filter_cons, h]; rfl
  rintro e ⟨dn, td, hr, hs2, hln, rfl⟩
  cases td with
  | cons tag td => cases hr
  | nil =>
  rw [show (dn ++ ([] : List Row).filter _) = dn from List.append_nil _] at hs2
  rw [← hs2]
  have rd : ∀ r ∈ dn, r.length ≤ 5 := fun r hr => by rw [hs2] at hr; exact ra r (List.mem_filter.mp hr).1
  have ld : dn.length ≤ 32 := by simpa using hln
  have hd : dep (.lst (dn.map (rowX true))) ≤ 60 := by
    have := plm_dep (plm_rows false true dn 0 (by omega) fun r hr => by have := rd r hr; omega)
    exact Nat.le_trans this (by decide)
  refine w_ite (t := dn.isEmpty) (e1 := E17 t u v ps os hs (S (.lst (acc.map (rowX true)))) none (O (dn.map (rowX true))) none none none) (t_dv (q_cmp (x := .lst (dn.map (rowX true))) (y := .lst []) rfl rfl rfl rfl ((c_eq hd (by decide)).trans (congrArg some (eqL_empty _ _)))) rfl rfl) (fun h => ?_) fun h => w_nil ?_
  · cases dn with
    | cons f fs => cases h
    | nil => exact w_rete rfl rfl ⟨_, rfl, rfl, rfl⟩
  cases dn with
  | nil => cases h
  | cons f fs =>
  apply w_asg (v := .sh (rowX true (commonS (f :: fs)))) (e1 := E17 t u v ps os hs (S (.lst (acc.map (rowX true)))) none (S (.lst ((f :: fs).map (rowX true)))) none none none) (e2 := E17 t u v ps os hs (S (.lst (acc.map (rowX true)))) none (S (.lst ((f :: fs).map (rowX true)))) none (S (rowX true (commonS (f :: fs)))) none)
  · exact q_call rfl rfl rfl rfl (hc f fs (by omega) fun r hr => by have := rd r hr; omega) rfl
  · rfl
  have lc : (commonS (f :: fs)).length ≤ 5 := by
    unfold commonS
    rw [sortS_len]
    exact Nat.le_trans (List.length_filter_le _ _) (rd f List.mem_cons_self)
  have sh1 : shal (rowX true (commonS (f :: fs))) = true := shal_strs true _
  have sh2 : shal (.lst ((f :: fs).map (rowX true))) = true := by simp only [shal, hd, decide_true]
  have hin : cmpD .in_ (rowX true (commonS (f :: fs))) (.lst ((f :: fs).map (rowX true))) = some ((f :: fs).any fun r => r == commonS (f :: fs)) := by
    show (if shal (rowX true (commonS (f :: fs))) && shal (.lst ((f :: fs).map (rowX true))) then some (((f :: fs).map (rowX true)).any fun y => eqD y (rowX true (commonS (f :: fs)))) else none) = _
    rw [sh1, sh2, List.any_map]
    refine congrArg some (congrArg (fun p => (f :: fs).any p) (funext fun r => ?_))
    exact eqL_map r _
  have tt : tst (.cmp .in_ (.var 7) (.var 5)) (evR (moT T) cf (.cmp .in_ (.var 7) (.var 5)) (E17 t u v ps os hs (S (.lst (acc.map (rowX true)))) none (S (.lst ((f :: fs).map (rowX true)))) none (S (rowX true (commonS (f :: fs)))) none)) (E17 t u v ps os hs (S (.lst (acc.map (rowX true)))) none (S (.lst ((f :: fs).map (rowX true)))) none (S (rowX true (commonS (f :: fs)))) none) = some (E17 t u v ps os hs (S (.lst (acc.map (rowX true)))) none (S (.lst ((f :: fs).map (rowX true)))) none (S (rowX true (commonS (f :: fs)))) none, (f :: fs).any fun r => r == commonS (f :: fs)) := t_dv (q_cmp (x := rowX true (commonS (f :: fs))) (y := .lst ((f :: fs).map (rowX true))) rfl rfl rfl rfl hin) rfl rfl
  cases hb : (f :: fs).any fun r => r == commonS (f :: fs)
  · rw [hb] at tt
    refine w_rete (q_ite_f tt rfl rfl) rfl ⟨_, rfl, ?_, rfl⟩
    simp only [hb]; rfl
  · rw [hb] at tt
    refine w_rete (q_ite_t tt rfl rfl) rfl ⟨_, rfl, ?_, rfl⟩
    simp only [hb]; rfl
end
end MP.K52

set_option Elab.async false
set_option linter.all false
set_option maxRecDepth 100000
namespace MP.K52
open MP
section
local macro_rules
  | `(tactic| trivial) => `(tactic| repeat first
    | rfl
    | assumption
    | apply o_dv
    | apply t_dv
    | apply q_call
    | apply q_bin
    | apply q_cmp
    | apply q_ix
    | apply q_not
    | apply q_neg
    | apply q_one
    | apply q_tup
    | apply q_lst
    | apply q_sl
    | apply q_rev
    | apply q_bi
    | apply q_isi
    | exact fun _ => OneE.mk rfl rfl rfl
    | apply OneM.mk
    | apply OneA.mk
    | apply l_cons
    | apply op_cons
    | apply a_mv
    | apply a_sh
    | apply a_tm)
/-! ### the least is what is torn off -/
theorem posS_split {x : List Nat} : ∀ {os : Row}, x ∈ os → ∃ A B, os = A ++ x :: B ∧ posS x os = A.length
  | y :: ys, h => by
    by_cases e : y = x
    · subst e
      exact ⟨[], ys, rfl, by simp [posS]⟩
    · obtain ⟨A, B, e1, e2⟩ := posS_split (os := ys) ((List.mem_cons.mp h).resolve_left fun z => e z.symm)
      refine ⟨y :: A, B, by rw [e1]; rfl, ?_⟩
      rw [posS, if_neg (by simpa using e), e2]; rfl
theorem hasS_not {ss : Row} {s : List Nat} : (!hasS ss s) = true ↔ s ∉ ss := by
  rw [Bool.not_eq_true', ← Bool.not_eq_true, hasS_mem]
theorem crown_iff {ps : List Bill} {os own : Row} {h : Hope} (nd : os.Nodup) (hm : h.2 ∈ os) (ho : hasS (overS ps h.1) h.2 = true) (hn : h.2 ≠ [45]) :
    crownS ps (restS os own) h.1 = h.2 ↔ h.2 ∉ own ∧ ∀ y ∈ aboveS ps os h, y ∈ own := by
  obtain ⟨A, B, e1, e2⟩ := posS_split hm
  have ab : aboveS ps os h = B.filter (hasS (overS ps h.1)) := by
    unfold aboveS
    rw [e2]
    conv => lhs; rw [e1]
    have : (A ++ h.2 :: B).drop (A.length + 1) = B := by
      rw [show A ++ h.2 :: B = (A ++ [h.2]) ++ B by simp, List.drop_left' (by simp)]
    rw [this]
  rw [ab]
  have nb : h.2 ∉ B := fun z => by
    rw [e1] at nd
    exact (List.nodup_cons.mp (List.nodup_append.mp nd).2.1).1 z
  unfold crownS restS
  rw [List.filter_filter]
  generalize hp : (fun a => hasS (overS ps h.1) a && !hasS own a) = p
  have pi : ∀ y, p y = true ↔ hasS (overS ps h.1) y = true ∧ y ∉ own := fun y => by rw [← hp, ← hasS_not]; exact Bool.and_eq_true_iff
  have key : ((os.filter p).getLast?).getD [45] = h.2 ↔ (os.filter p).getLast? = some h.2 := by
    cases (os.filter p).getLast? with
    | none => exact ⟨fun z => absurd z.symm hn, fun z => by cases z⟩
    | some y => exact ⟨fun z => congrArg some z, fun z => Option.some.inj z⟩
  rw [key, e1, List.filter_append, List.filter_cons]
  constructor
  · intro z
    have hx : p h.2 = true := by
      have := List.mem_of_getLast? z
      rw [← List.filter_cons, ← List.filter_append] at this
      exact (List.mem_filter.mp this).2
    refine ⟨((pi _).mp hx).2, fun y hy => ?_⟩
    obtain ⟨hy1, hy2⟩ := List.mem_filter.mp hy
    rw [if_pos hx] at z
    by_cases hb : y ∈ own
    · exact hb
    · have hyp : y ∈ B.filter p := List.mem_filter.mpr ⟨hy1, (pi _).mpr ⟨hy2, hb⟩⟩
      exfalso
      have nz : B.filter p ≠ [] := fun q => by rw [q] at hyp; cases hyp
      rw [show A.filter p ++ h.2 :: B.filter p = (A.filter p ++ [h.2]) ++ B.filter p by simp, List.getLast?_append, List.getLast?_eq_getLast nz] at z
      have z : (B.filter p).getLast nz = h.2 := Option.some.inj z
      exact nb (List.mem_filter.mp (z ▸ List.getLast_mem nz)).1
  · rintro ⟨h1, h2⟩
    have hx : p h.2 = true := (pi _).mpr ⟨ho, h1⟩
    have hb : B.filter p = [] := List.filter_eq_nil_iff.mpr fun y hy hpy => by
      have := (pi y).mp hpy
      exact this.2 (h2 y (List.mem_filter.mpr ⟨hy, this.1⟩))
    rw [if_pos hx, hb, List.getLast?_concat]
theorem mem_ded {x : List Nat} : ∀ {ys : Row}, x ∈ dedS ys ↔ x ∈ ys
  | [] => .rfl
  | y :: ys => by
    rw [dedS, List.mem_cons, List.mem_cons, List.mem_filter, mem_ded (ys := ys)]
    constructor
    · exact fun z => z.imp id (·.1)
    · intro z
      by_cases e : x = y
      · exact .inl e
      · exact .inr ⟨z.resolve_left e, by simpa using fun q : y = x => e q.symm⟩
theorem mem_gone {ps : List Bill} {os : Row} {hs : List Hope} {y : List Nat} : y ∈ goneS ps os hs ↔ ∃ h ∈ hs, y ∈ aboveS ps os h := by
  unfold goneS allS'
  rw [(sortS_perm _).mem_iff, mem_ded, List.mem_flatMap]
theorem asc_gone (ps : List Bill) (os : Row) (hs : List Hope) : Asc (goneS ps os hs) := asc_sort (ded_nodup _)
/-- what the wishes ask -/
structure Wishes (ps : List Bill) (os : Row) (hs : List Hope) : Prop where
  asc : Asc (namesS ps)
  perm : os.Perm (namesS ps)
  over : ∀ h ∈ hs, hasS (overS ps h.1) h.2 = true
  no : ∀ h ∈ hs, h.2 ≠ [45]
theorem over_names {ps : List Bill} {c : Int} {s : List Nat} (h : hasS (overS ps c) s = true) : s ∈ namesS ps := by
  obtain ⟨p, hp, rfl⟩ := List.mem_map.mp (hasS_mem.mp h)
  exact List.mem_map_of_mem (List.mem_filter.mp hp).1
section
variable {ps : List Bill} {os : Row} {hs : List Hope} (W : Wishes ps os hs)
include W
theorem Wishes.nd : os.Nodup := W.perm.nodup_iff.mpr (asc_nodup W.asc)
theorem Wishes.mem {h : Hope} (hh : h ∈ hs) : h.2 ∈ os := W.perm.mem_iff.mpr (over_names (W.over h hh))
theorem Wishes.met (own : Row) : metB ps (restS os own) hs = true ↔ (∀ h ∈ hs, h.2 ∉ own) ∧ ∀ y ∈ goneS ps os hs, y ∈ own := by
  unfold metB
  rw [List.all_eq_true]
  constructor
  · intro z
    have z2 := fun h hh => (crown_iff W.nd (W.mem hh) (W.over h hh) (W.no h hh)).mp (eq_of_beq (z h hh))
    refine ⟨fun h hh => (z2 h hh).1, fun y hy => ?_⟩
    obtain ⟨h, hh, hy⟩ := mem_gone.mp hy
    exact (z2 h hh).2 y hy
  · rintro ⟨h1, h2⟩ h hh
    rw [beq_iff_eq]
    exact (crown_iff W.nd (W.mem hh) (W.over h hh) (W.no h hh)).mpr ⟨h1 h hh, fun y hy => h2 y (mem_gone.mpr ⟨h, hh, hy⟩)⟩
theorem Wishes.sub : (goneS ps os hs).Sublist (namesS ps) := by
  have a := asc_gone ps os hs
  have hf : Asc ((namesS ps).filter (hasS (goneS ps os hs))) := List.Pairwise.filter _ W.asc
  have e := sortS_of_perm (a := goneS ps os hs) (b := (namesS ps).filter (hasS (goneS ps os hs))) ((List.perm_ext_iff_of_nodup (asc_nodup a) (asc_nodup hf)).mpr fun y => by
    rw [List.mem_filter, hasS_mem]
    refine ⟨fun z => ⟨?_, z⟩, fun z => z.2⟩
    obtain ⟨h, hh, hy⟩ := mem_gone.mp z
    exact W.perm.mem_iff.mp (List.mem_of_mem_drop (List.mem_filter.mp hy).1)) hf
  rw [sort_asc a] at e
  rw [e]
  exact List.filter_sublist
end
theorem mem_subs : ∀ {ts : Row} {acc : List Row} {r : Row}, r ∈ subsF acc ts ↔ ∃ o ∈ acc, ∃ s, s.Sublist ts ∧ r = o ++ s
  | [], acc, r => by
    constructor
    · exact fun h => ⟨r, h, [], .slnil, (List.append_nil r).symm⟩
    · rintro ⟨o, ho, s, hs, rfl⟩
      rw [List.sublist_nil.mp hs, List.append_nil]
      exact ho
  | t :: ts, acc, r => by
    rw [subsF, mem_subs (ts := ts)]
    constructor
    · rintro ⟨o, ho, s, hs, rfl⟩
      rcases List.mem_append.mp ho with z | z
      · exact ⟨o, z, s, hs.cons t, rfl⟩
      · obtain ⟨q, hq, rfl⟩ := List.mem_map.mp z
        exact ⟨q, hq, t :: s, hs.cons_cons t, by simp⟩
    · rintro ⟨o, ho, s, hs, rfl⟩
      rcases List.sublist_cons_iff.mp hs with z | ⟨q, rfl, z⟩
      · exact ⟨o, List.mem_append_left _ ho, s, z, rfl⟩
      · exact ⟨o ++ [t], List.mem_append_right _ (List.mem_map_of_mem ho), q, z, by simp⟩
theorem mem_subs0 {ts r : Row} : r ∈ subsF [[]] ts ↔ r.Sublist ts := by
  rw [mem_subs]
  constructor
  · rintro ⟨o, ho, s, hs, rfl⟩
    rw [List.mem_singleton.mp ho]
    exact hs
  · exact fun h => ⟨[], List.mem_cons_self, r, h, rfl⟩
theorem least_torn {ps : List Bill} {os : Row} {hs : List Hope} (W : Wishes ps os hs) : leastD ps os hs = tornD ps os hs := by
  have mf : ∀ own, own ∈ fineS ps os hs ↔ own.Sublist (namesS ps) ∧ (∀ h ∈ hs, h.2 ∉ own) ∧ ∀ y ∈ goneS ps os hs, y ∈ own := fun own => by
    unfold fineS
    rw [List.mem_filter, mem_subs0, W.met]
  unfold leastD tornD
  cases hany : hs.any fun h => hasS (goneS ps os hs) h.2
  · have free : ∀ h ∈ hs, h.2 ∉ goneS ps os hs := fun h hh z => by
      have := List.any_eq_false.mp hany h hh
      exact this (hasS_mem.mpr z)
    have mg : goneS ps os hs ∈ fineS ps os hs := (mf _).mpr ⟨W.sub, free, fun y hy => hy⟩
    cases hf : fineS ps os hs with
    | nil => rw [hf] at mg; cases mg
    | cons f fs =>
      rw [hf] at mg
      have mem : ∀ own, own ∈ f :: fs → own.Sublist (namesS ps) ∧ (∀ h ∈ hs, h.2 ∉ own) ∧ ∀ y ∈ goneS ps os hs, y ∈ own := fun own h => (mf own).mp (by rw [hf]; exact h)
      have ec : commonS (f :: fs) = goneS ps os hs := by
        refine sortS_of_perm ((List.perm_ext_iff_of_nodup (((mem f List.mem_cons_self).1.nodup (asc_nodup W.asc)).filter _) (asc_nodup (asc_gone ps os hs))).mpr fun y => ?_) (asc_gone ps os hs)
        rw [List.mem_filter, noneB (fun own => hasS own y), List.all_eq_true]
        constructor
        · exact fun z => hasS_mem.mp (z.2 _ mg)
        · exact fun z => ⟨(mem f List.mem_cons_self).2.2 y z, fun own ho => hasS_mem.mpr ((mem own ho).2.2 y z)⟩
      have ea : ((f :: fs).any fun r => r == commonS (f :: fs)) = true := List.any_eq_true.mpr ⟨_, mg, by rw [ec]; exact beq_self_eq_true _⟩
      show (if ((f :: fs).any fun r => r == commonS (f :: fs)) = true then rowX true (commonS (f :: fs)) else _) = _
      rw [ea, if_pos rfl, ec]
      rfl
  · obtain ⟨h, hh, hg⟩ := List.any_eq_true.mp hany
    cases hf : fineS ps os hs with
    | nil => rfl
    | cons f fs =>
      exfalso
      have := (mf f).mp (by rw [hf]; exact List.mem_cons_self)
      exact this.2.1 h hh (this.2.2 _ (hasS_mem.mp hg))
end
end MP.K52

set_option Elab.async false
set_option linter.all false
set_option maxRecDepth 100000
namespace MP.K52
open MP
section
local macro_rules
  | `(tactic| trivial) => `(tactic| repeat first
    | rfl
    | assumption
    | apply o_dv
    | apply t_dv
    | apply q_call
    | apply q_bin
    | apply q_cmp
    | apply q_ix
    | apply q_not
    | apply q_neg
    | apply q_one
    | apply q_tup
    | apply q_lst
    | apply q_sl
    | apply q_rev
    | apply q_bi
    | apply q_isi
    | exact fun _ => OneE.mk rfl rfl rfl
    | apply OneM.mk
    | apply OneA.mk
    | apply l_cons
    | apply op_cons
    | apply a_mv
    | apply a_sh
    | apply a_tm)
/-! ### draws -/
theorem box_c (n : Nat) : BoxF (callI T (n + 1)) 3 := fun cs i h1 h2 => box_g 2027 cs i h1 h2
theorem take_c (n : Nat) : Take (callI T (n + 1)) 4 := fun N ds t h1 h2 h3 h4 => take_g N ds t h1 h2 h3 h4
theorem cells_c (n : Nat) : Cells (callI T (n + 1)) 5 := fun ks h => cells_g ks h
theorem of_c (n : Nat) : Of2 (callI T (n + 2)) 6 := fun N ds xs b h1 h2 h3 h4 => of2_g (take_c n) rfl N ds xs b h1 h2 h3 h4
theorem pick_c (n : Nat) : Pick2 (callI T (n + 2)) 7 := fun N ds pool b sz h1 h2 h3 h4 => pick2_g (take_c n) rfl N ds pool b sz h1 h2 h3 h4
theorem lists_c (j n : Nat) (d : D) (h : pl j d = true) : callI T (n + j + 1) 8 [.sh d] = some (lsR d, []) := lists_all (k := 8) (fun _ _ => rfl) rfl j n d h
theorem same_c (j n : Nat) (d : D) (h : pl j d = true) : callI T (n + j + 1) 9 [.sh d, .sh d] = some (.sh (.bl true), []) := same_g (k := 9) (fun _ _ => rfl) rfl j n d h
theorem plank_c (n : Nat) : Plank (callI T (n + 3)) 10 5 5 := fun N ds hb hN => plank_g (take_c (n + 1)) rfl (pick_c n).pick rfl 5 5 (by omega) (by omega) (by omega) (by omega) N ds hb hN
theorem allT_hopes (l : List Hope) : allT (l.map (hopeX true)) = true := by
  have h1 : (l.map (hopeX true)).all tupT = true := by
    rw [List.all_map]
    exact List.all_eq_true.mpr fun _ _ => rfl
  have h2 : ((l.map (hopeX true)).all fun x => (l.map (hopeX true)).all fun y => cmpT x y) = true := by
    rw [List.all_map]
    refine List.all_eq_true.mpr fun r hr => ?_
    show ((l.map (hopeX true)).all fun y => cmpT (hopeX true r) y) = true
    rw [List.all_map]
    refine List.all_eq_true.mpr fun s hs => ?_
    show cmpI [.int r.1, .str r.2] [.int s.1, .str s.2] = true
    unfold cmpI
    split
    · unfold cmpI
      split
      · rfl
      · rfl
    · rfl
  unfold allT
  rw [h1, h2]; rfl
theorem hope_inj {a b : Hope} (h : hopeX true a = hopeX true b) : a = b := by
  obtain ⟨a1, a2⟩ := a
  obtain ⟨b1, b2⟩ := b
  have h : D.tup [.int a1, .str a2] = .tup [.int b1, .str b2] := h
  injection h with h
  injection h with h1 h
  injection h with h2 h
  injection h1 with h1
  injection h2 with h2
  rw [h1, h2]
theorem over_here {ps : List Bill} {p : Bill} {c : Int} (hp : p ∈ ps) (h1 : p.2.1 ≤ c) (h2 : c ≤ p.2.2) : hasS (overS ps c) p.1 = true :=
  hasS_mem.mpr (List.mem_map_of_mem (List.mem_filter.mpr ⟨hp, by unfold inB; rw [decide_eq_true h1, decide_eq_true h2]; rfl⟩))
theorem crown_over {ps : List Bill} {os : Row} {c : Int} {x : List Nat} (hx : x ∈ os) (ho : hasS (overS ps c) x = true) : hasS (overS ps c) (crownS ps os c) = true := by
  have hm : x ∈ os.filter (hasS (overS ps c)) := List.mem_filter.mpr ⟨hx, ho⟩
  unfold crownS
  cases hl : (os.filter (hasS (overS ps c))).getLast? with
  | none =>
    rw [List.getLast?_eq_none_iff.mp hl] at hm
    cases hm
  | some y => exact (List.mem_filter.mp (List.mem_of_getLast? hl)).2
abbrev E15 (ds : List D) (ps : List Bill) (b : Option SV) (a4 a5 a6 a7 a8 a9 : Option SV) : En := [Pm ds, S (fenceX true ps), S (.int 4), b, a4, a5, a6, a7, a8, a9]
theorem hopes_c (n : Nat) (N : Nat) (ds : List D) (ps : List Bill) (hb : Box N ds) (hN : N ≤ 10000000) (hp : IsPlank 5 5 ps) :
    ∃ (ws : List Hope) (ds' : List D), callI T (n + 3) 15 [.mu ds, .sh (fenceX true ps), .sh (.int 4)] = some (.sh (hopesX true ws), [ds']) ∧ ws.length ≤ 4 ∧ (∀ w ∈ ws, hasS (overS ps w.1) w.2 = true) ∧ Box (N + 100) ds' := by
  have h : FP (callI T (n + 3) 15 [.mu ds, .sh (fenceX true ps), .sh (.int 4)]) fun v l => ∃ (ws : List Hope) (ds' : List D), v = .sh (hopesX true ws) ∧ l = [ds'] ∧ ws.length ≤ 4 ∧ (∀ w ∈ ws, hasS (overS ps w.1) w.2 = true) ∧ Box (N + 100) ds' := by
    have ht := take_c (n + 1)
    have ho := of_c n
    have hpk := pick_c n
    have hcr := fun os c h => crown_c n true false ps os c (by have := hp.len; omega) h
    have lp : ps.length ≤ 5 := by have := hp.len; omega
    have nl := namesS_len ps
    rw [c15]
    simp only [show n + 1 + 1 = n + 2 from rfl] at *
    generalize callI T (n + 2) = cf at *
    refine f_run rfl ?_
    have q0 : evR (moT T) cf L15_0 (E15 ds ps none none none none none none none) = some (E15 ds ps none none none none none none none, .own ((namesS ps).map D.str)) := by
      have : evR (moT T) cf L15_0 (E15 ds ps none none none none none none none) = some (E15 ds ps none none none none none none none, .own (ps.map fun p => D.str p.1)) :=
        q_M ps (billX true) (seq_sq (t := true) rfl) rfl (by omega) fun p _ => OneM.mk (en := E15 ds ps none none none none none none (S (billX true p))) rfl (q_ix rfl rfl rfl rfl (ix_bill true p).1) rfl rfl
      rwa [show (ps.map fun p => D.str p.1) = (namesS ps).map D.str from tagsD_names ps] at this
    obtain ⟨os, d1, e1, p1, b1⟩ := pick_whole hpk N ds (namesS ps) false (ps.length : Nat) hb (by omega) (by omega) (by omega)
    apply w_par2 (ra := .own (os.map D.str)) (rb := .own []) (e2 := E15 d1 ps none none none none none none none) (e4 := E15 d1 ps none none (O (os.map D.str)) (O []) none none none)
    · exact q_call rfl (a_mv rfl (a_sh q0 (a_sh (x := .sh (.int (ps.length : Nat))) (q_bi (op_cons rfl rfl) rfl (by show some (RV.sh (.int ((ps.map (billX true)).length : Nat))) = _; rw [List.length_map])) rfl))) rfl rfl e1 rfl
    · rfl
    · rfl
    · rfl
    obtain ⟨r, d2, e2, r0, r1, b2⟩ := ht _ d1 3 b1 (by omega) (by omega) (by omega)
    apply w_asg (v := .sh (.bl (decide (r = 0)))) (e1 := E15 d2 ps none none (O (os.map D.str)) (O []) none none none) (e2 := E15 d2 ps (S (.bl (decide (r = 0)))) none (O (os.map D.str)) (O []) none none none)
    · exact q_cmp (x := .int r) (y := .int 0) (o_dv (q_call rfl rfl rfl rfl e2 rfl) rfl) rfl rfl rfl ((c_eq (Nat.zero_le _) (Nat.zero_le _)).trans (by show some (r == 0) = _; rfl))
    · rfl
    obtain ⟨m, d3, e3, m0, m1, b3⟩ := ht _ d2 5 b2 (by omega) (by omega) (by omega)
    obtain ⟨m, rfl⟩ : ∃ k : Nat, m = (k : Int) := ⟨m.toNat, by omega⟩
    generalize decide (r = 0) = free at *
    refine w_loop (e1 := E15 d3 ps (S (.bl free)) none (O (os.map D.str)) (O []) none none none) (xs := rangeL 0 m) (i_rng1 (j := (m : Nat)) (q_call rfl (a_mv rfl (a_sh (x := .sh (.int 5)) rfl rfl)) rfl rfl e3 rfl) (by omega) (by omega)) (fun rest e => ∃ (ws : List Hope) (d4 : List D) (a5 : Option SV), rest.length + ws.length = m ∧ Box (N + (namesS ps).length + 2 + 2 * ws.length) d4 ∧ (∀ w ∈ ws, hasS (overS ps w.1) w.2 = true) ∧ (a5 = O (os.map D.str) ∨ a5 = S (rowX false os)) ∧ e = E15 d4 ps (S (.bl free)) none a5 (O (ws.map (hopeX true))) none none none) ⟨[], d3, _, by rw [rngL_len]; rfl, b3.le (by simp), fun w h => (nomatch h), .inl rfl, rfl⟩ ?_ ?_
    · rintro x rest e ⟨ws, d4, a5, hlen, b4, hws, h5, rfl⟩
      rw [List.length_cons] at hlen
      refine ⟨E15 d4 ps (S (.bl free)) (S x) a5 (O (ws.map (hopeX true))) none none none, rfl, ?_⟩
      obtain ⟨p, d5, e5, hm, b5⟩ := ho _ d4 (ps.map (billX true)) true b4 (by omega) (fun z => by have := hp.ne; rw [List.map_eq_nil_iff.mp z] at this; simp at this) (by rw [List.length_map]; omega)
      obtain ⟨p, hpm, rfl⟩ := List.mem_map.mp hm
      have hlo := hp.low p hpm
      have hhi := hp.hi p hpm
      obtain ⟨c, d6, e6, c0, c1, b6⟩ := ht _ d5 (p.2.2 - p.2.1 + 1) b5 (by omega) (by omega) (by omega)
      have hov := over_here (c := p.2.1 + c) hpm (by omega) (by omega)
      have fin : ∀ (s : List Nat) (a5 : Option SV), hasS (overS ps (p.2.1 + c)) s = true → (a5 = O (os.map D.str) ∨ a5 = S (rowX false os)) → ∃ (ws1 : List Hope) (d4 : List D) (a6 : Option SV), rest.length + ws1.length = m ∧ Box (N + (namesS ps).length + 2 + 2 * ws1.length) d4 ∧ (∀ w ∈ ws1, hasS (overS ps w.1) w.2 = true) ∧ (a6 = O (os.map D.str) ∨ a6 = S (rowX false os)) ∧ E15 d6 ps (S (.bl free)) none a5 (O (ws.map (hopeX true) ++ [hopeX true (p.2.1 + c, s)])) none none none = E15 d4 ps (S (.bl free)) none a6 (O (ws1.map (hopeX true))) none none none := fun s a5 hs h5 => by
        refine ⟨ws ++ [(p.2.1 + c, s)], d6, a5, by rw [List.length_append]; simp only [List.length_cons, List.length_nil]; omega, b6.le (by rw [List.length_append]; simp only [List.length_cons, List.length_nil]; omega), fun w hw => ?_, h5, by rw [List.map_append]; rfl⟩
        rcases List.mem_append.mp hw with z | z
        · exact hws w z
        · rw [List.mem_singleton.mp z]; exact hs
      rcases h5 with rfl | rfl
      · apply w_asg (v := .sh (billX true p)) (e2 := E15 d5 ps (S (.bl free)) (S x) (O (os.map D.str)) (O (ws.map (hopeX true))) (S (billX true p)) none none)
        · exact q_call rfl (a_mv rfl (a_sh (x := .sh (fenceX true ps)) rfl rfl)) rfl rfl e5 rfl
        · rfl
        apply w_asg (v := .sh (.int (p.2.1 + c))) (e2 := E15 d6 ps (S (.bl free)) (S x) (O (os.map D.str)) (O (ws.map (hopeX true))) (S (billX true p)) (S (.int (p.2.1 + c))) none)
        · exact q_bin (x := .int p.2.1) (y := .int c) (o_dv (q_ix rfl rfl rfl rfl (ix_bill true p).2.1) rfl) (o_dv (q_call rfl (a_mv rfl (a_sh (x := .sh (.int (p.2.2 - p.2.1 + 1))) (q_bin (x := .int (p.2.2 - p.2.1)) (y := .int 1) (o_dv (q_bin (x := .int p.2.2) (y := .int p.2.1) (o_dv (q_ix rfl rfl rfl rfl (ix_bill true p).2.2) rfl) (o_dv (q_ix rfl rfl rfl rfl (ix_bill true p).2.1) rfl) rfl rfl rfl) rfl) rfl rfl rfl rfl) rfl)) rfl rfl e6 rfl) rfl) rfl rfl rfl
        · rfl
        cases free with
        | true =>
          apply w_app (r := .sh (hopeX true (p.2.1 + c, p.1))) (ds := ws.map (hopeX true)) (e1 := E15 d6 ps (S (.bl true)) (S x) (O (os.map D.str)) (O (ws.map (hopeX true))) (S (billX true p)) (S (.int (p.2.1 + c))) none)
          · rfl
          · exact q_tup (l_cons (x := .sh (.int (p.2.1 + c))) rfl (l_cons (x := .sh (.str p.1)) (q_ite_t (t := true) rfl rfl (q_ix rfl rfl rfl rfl (ix_bill true p).1)) rfl)) rfl
          · rfl
          · rw [List.length_map]; omega
          exact w_wipe rfl rfl (w_nil (fin p.1 _ hov (.inl rfl)))
        | false =>
          apply w_app (r := .sh (hopeX true (p.2.1 + c, crownS ps os (p.2.1 + c)))) (ds := ws.map (hopeX true)) (e1 := E15 d6 ps (S (.bl false)) (S x) (S (rowX false os)) (O (ws.map (hopeX true))) (S (billX true p)) (S (.int (p.2.1 + c))) none)
          · rfl
          · exact q_tup (l_cons (x := .sh (.int (p.2.1 + c))) rfl (l_cons (x := .sh (.str (crownS ps os (p.2.1 + c)))) (q_ite_f (t := false) rfl rfl (q_call rfl rfl rfl rfl (hcr os (p.2.1 + c) (by have := p1.length_eq; omega)) rfl)) rfl)) rfl
          · rfl
          · rw [List.length_map]; omega
          exact w_wipe rfl rfl (w_nil (fin _ _ (crown_over (p1.mem_iff.mpr (List.mem_map_of_mem hpm)) hov) (.inr rfl)))
      · apply w_asg (v := .sh (billX true p)) (e2 := E15 d5 ps (S (.bl free)) (S x) (S (rowX false os)) (O (ws.map (hopeX true))) (S (billX true p)) none none)
        · exact q_call rfl (a_mv rfl (a_sh (x := .sh (fenceX true ps)) rfl rfl)) rfl rfl e5 rfl
        · rfl
        apply w_asg (v := .sh (.int (p.2.1 + c))) (e2 := E15 d6 ps (S (.bl free)) (S x) (S (rowX false os)) (O (ws.map (hopeX true))) (S (billX true p)) (S (.int (p.2.1 + c))) none)
        · exact q_bin (x := .int p.2.1) (y := .int c) (o_dv (q_ix rfl rfl rfl rfl (ix_bill true p).2.1) rfl) (o_dv (q_call rfl (a_mv rfl (a_sh (x := .sh (.int (p.2.2 - p.2.1 + 1))) (q_bin (x := .int (p.2.2 - p.2.1)) (y := .int 1) (o_dv (q_bin (x := .int p.2.2) (y := .int p.2.1) (o_dv (q_ix rfl rfl rfl rfl (ix_bill true p).2.2) rfl) (o_dv (q_ix rfl rfl rfl rfl (ix_bill true p).2.1) rfl) rfl rfl rfl) rfl) rfl rfl rfl rfl) rfl)) rfl rfl e6 rfl) rfl) rfl rfl rfl
        · rfl
        cases free with
        | true =>
          apply w_app (r := .sh (hopeX true (p.2.1 + c, p.1))) (ds := ws.map (hopeX true)) (e1 := E15 d6 ps (S (.bl true)) (S x) (S (rowX false os)) (O (ws.map (hopeX true))) (S (billX true p)) (S (.int (p.2.1 + c))) none)
          · rfl
          · exact q_tup (l_cons (x := .sh (.int (p.2.1 + c))) rfl (l_cons (x := .sh (.str p.1)) (q_ite_t (t := true) rfl rfl (q_ix rfl rfl rfl rfl (ix_bill true p).1)) rfl)) rfl
          · rfl
          · rw [List.length_map]; omega
          exact w_wipe rfl rfl (w_nil (fin p.1 _ hov (.inr rfl)))
        | false =>
          apply w_app (r := .sh (hopeX true (p.2.1 + c, crownS ps os (p.2.1 + c)))) (ds := ws.map (hopeX true)) (e1 := E15 d6 ps (S (.bl false)) (S x) (S (rowX false os)) (O (ws.map (hopeX true))) (S (billX true p)) (S (.int (p.2.1 + c))) none)
          · rfl
          · exact q_tup (l_cons (x := .sh (.int (p.2.1 + c))) rfl (l_cons (x := .sh (.str (crownS ps os (p.2.1 + c)))) (q_ite_f (t := false) rfl rfl (q_call rfl rfl rfl rfl (hcr os (p.2.1 + c) (by have := p1.length_eq; omega)) rfl)) rfl)) rfl
          · rfl
          · rw [List.length_map]; omega
          exact w_wipe rfl rfl (w_nil (fin _ _ (crown_over (p1.mem_iff.mpr (List.mem_map_of_mem hpm)) hov) (.inr rfl)))
    · rintro e ⟨ws, d4, a5, hlen, b4, hws, h5, rfl⟩
      have hlen : 0 + ws.length = m := hlen
      obtain ⟨vs, s1, s2, s3⟩ := ss_lift (f := hopeX true) ws (by omega) fun _ => allT_hopes ws
      have fin : ∀ w ∈ vs, hasS (overS ps w.1) w.2 = true := fun w hw => by
        obtain ⟨v, v1, v2⟩ := s3 w hw
        rw [← hope_inj v2]
        exact hws v v1
      rcases h5 with rfl | rfl <;> exact w_rete (v := .sh (hopesX true vs)) (q_bi (op_cons (o_dv (q_bi (op_cons rfl rfl) rfl s1) rfl) rfl) rfl rfl) rfl ⟨_, rfl, vs, d4, rfl, rfl, by omega, fin, b4.le (by omega)⟩
  obtain ⟨v, l, e, ws, ds', rfl, rfl, h1⟩ := h
  exact ⟨ws, ds', e, h1⟩
end
end MP.K52

set_option Elab.async false
set_option linter.all false
set_option maxRecDepth 100000
namespace MP.K52
open MP
section
local macro_rules
  | `(tactic| trivial) => `(tactic| repeat first
    | rfl
    | assumption
    | apply o_dv
    | apply t_dv
    | apply q_call
    | apply q_bin
    | apply q_cmp
    | apply q_ix
    | apply q_not
    | apply q_neg
    | apply q_one
    | apply q_tup
    | apply q_lst
    | apply q_sl
    | apply q_rev
    | apply q_bi
    | apply q_isi
    | exact fun _ => OneE.mk rfl rfl rfl
    | apply OneM.mk
    | apply OneA.mk
    | apply l_cons
    | apply op_cons
    | apply a_mv
    | apply a_sh
    | apply a_tm)
theorem hand_ok : callI T 59 18 [] = some (.sh (.bl true), []) := isTrue_eq (by decide +kernel)
theorem lsD_hope (b : Bool) (h : Hope) : lsD (hopeX b h) = hopeX false h := by
  unfold hopeX
  rw [lsD_sq]; rfl
theorem lsD_hopes (b : Bool) (hs : List Hope) : lsD (hopesX b hs) = hopesX false hs := by
  unfold hopesX
  rw [lsD_sq, List.map_map]
  exact congrArg D.lst (List.map_congr_left fun h _ => lsD_hope b h)
theorem pl_torn {ps : List Bill} {os : Row} {hs : List Hope} (h : (goneS ps os hs).length ≤ 1000000) (k : Nat) : pl (k + 1) (tornD ps os hs) = true := by
  unfold tornD
  split
  · exact pl_non _
  · exact pl_tup (by rw [List.length_map]; exact h) fun x hx => by
      obtain ⟨s, _, rfl⟩ := List.mem_map.mp hx
      exact pl_str _ _
abbrev E19 (ds : List D) (a1 a2 a3 a4 a5 a6 : Option SV) : En := [Pm ds, a1, a2, a3, a4, a5, a6]
theorem no_dash : ∀ s ∈ tagsS, s ≠ [45] := by decide
theorem right_c : Right (callI T 59) 19 := fun ds hb => by
  have h : FP (callI T 59 19 [.mu ds]) fun v l => ∃ ds', v = .sh (.bl true) ∧ l = [ds'] := by
    have hpl := plank_c 55
    have hho := fun N ds ps a b c => hopes_c 55 N ds ps a b c
    have hpk := pick_c 56
    have htg := fun ps h => tags_c 57 true ps h
    have hle := fun ps os hs a b c => least_c 54 true true true ps os hs a b c
    have hte := fun t u v ps os hs a b c d => tear_c 55 t u v ps os hs a b c d
    have hli := fun d h => lists_c 2 55 d h
    have hsa := fun d h => same_c 2 55 d h
    rw [show callI T 59 19 [.mu ds] = runF (moT T) (callI T 58) F19 [.mu ds] from c19 58 _]
    simp only [show (55 + 3 : Nat) = 58 from rfl, show (56 + 2 : Nat) = 58 from rfl, show (57 + 1 : Nat) = 58 from rfl, show (54 + 4 : Nat) = 58 from rfl, show (55 + 2 + 1 : Nat) = 58 from rfl] at *
    generalize callI T 58 = cf at *
    refine f_run rfl ?_
    refine w_loop (e1 := E19 ds none none none none none none) (xs := rangeL 0 8) (i_rng1 (j := 8) rfl (by decide) (by decide)) (fun rest e => ∃ (d1 : List D) (k : Nat), rest.length + k = 8 ∧ Box (1000 * k) d1 ∧ e = E19 d1 none none none none none none) ⟨ds, 0, rfl, hb, rfl⟩ ?_ ?_
    · rintro x rest e ⟨ds', k, hk, hbx, rfl⟩
      rw [List.length_cons] at hk
      refine ⟨E19 ds' (S x) none none none none none, rfl, ?_⟩
      obtain ⟨ps, d1, e1, hps, b1⟩ := hpl _ ds' hbx (by omega)
      have lp : ps.length ≤ 5 := by have := hps.len; omega
      have nl := namesS_len ps
      obtain ⟨os, d2, e2, p2, b2⟩ := pick_whole hpk _ d1 (namesS ps) true 5 b1 (by omega) (by omega) (by omega)
      obtain ⟨hs, d3, e3, lh, hov, b3⟩ := hho _ d2 ps b2 (by omega) hps
      have lo := p2.length_eq
      have W : Wishes ps os hs := ⟨hps.asc, p2, hov, fun h hh => by
        obtain ⟨p, hp, e⟩ := List.mem_map.mp (over_names (hov h hh))
        rw [← e]
        exact no_dash _ (hps.tag p hp)⟩
      have hm : ∀ h ∈ hs, h.2 ∈ os := fun h hh => W.mem hh
      have k1 := hle ps os hs lp (by omega) (by omega)
      rw [least_torn W] at k1
      have k2 := hte true true true ps os hs (by omega) (by omega) (by omega) hm
      have k3 := hte false false false ps os hs (by omega) (by omega) (by omega) hm
      have lg : (goneS ps os hs).length ≤ 1000000 := by
        have := W.sub.length_le
        omega
      apply w_asg (v := .sh (fenceX true ps)) (e2 := E19 d1 (S x) (S (fenceX true ps)) none none none none)
      · exact q_call rfl rfl rfl rfl e1 rfl
      · rfl
      apply w_par2 (ra := .sh (rowX true os)) (rb := .sh (hopesX true hs)) (e2 := E19 d3 (S x) (S (fenceX true ps)) none none none none) (e4 := E19 d3 (S x) (S (fenceX true ps)) none none (S (rowX true os)) (S (hopesX true hs)))
      · exact q_bi (op_cons (o_dv (q_call rfl (a_mv rfl (a_sh (x := .sh (rowX true (namesS ps))) (q_call rfl rfl rfl rfl (htg ps (by omega)) rfl) (a_sh (x := .sh (.int 5)) rfl rfl))) rfl rfl e2 rfl) rfl) rfl) rfl rfl
      · exact q_call rfl rfl rfl rfl e3 rfl
      · rfl
      · rfl
      apply w_asg (v := .sh (tornD ps os hs)) (e2 := E19 d3 (S x) (S (fenceX true ps)) (S (tornD ps os hs)) none (S (rowX true os)) (S (hopesX true hs)))
      · exact q_call rfl rfl rfl rfl k1 rfl
      · rfl
      apply w_asg (v := .own [tornD ps os hs]) (e2 := E19 d3 (S x) (S (fenceX true ps)) (S (tornD ps os hs)) (O [tornD ps os hs]) (S (rowX true os)) (S (hopesX true hs)))
      · exact q_lst (l_cons (x := .sh (tornD ps os hs)) (q_call rfl rfl rfl rfl k2 rfl) rfl) rfl
      · rfl
      have l1 := hli (hopesX true hs) (pl_up (by omega) (plm_pl (m := 1000) (by decide) (plm_hopes true true hs 0 (by omega))))
      have l2 := hli (fenceX true ps) (pl_fence true ps (by omega))
      have f1 : (lsR (hopesX true hs)).fz = hopesX false hs := by rw [lsR_fz, lsD_hopes]
      have f2 : (lsR (fenceX true ps)).fz = fenceX false ps := by rw [lsR_fz, lsD_fence]
      apply w_app (r := .sh (tornD ps os hs)) (ds := [tornD ps os hs]) (e1 := E19 d3 (S x) (S (fenceX true ps)) (S (tornD ps os hs)) (O [tornD ps os hs]) (S (rowX true os)) (S (hopesX true hs)))
      · rfl
      · refine q_callk (ds := []) (zs := [(lsR (hopesX true hs)).fz, rowX false os, (lsR (fenceX true ps)).fz]) rfl (l_cons (q_call rfl rfl rfl rfl l1 rfl) (l_cons (x := .own (os.map D.str)) (q_bi rfl rfl rfl) (l_cons (q_call rfl rfl rfl rfl l2 rfl) rfl))) rfl (xs := [fenceX false ps, rowX false os, hopesX false hs]) ?_ k3
        rw [f1, f2]; rfl
      · rfl
      · exact Nat.le_of_ble_eq_true rfl
      have hsm := hsa (.lst [tornD ps os hs, tornD ps os hs]) (pl_up (by omega) (pl_lst (k := 1) (Nat.le_of_ble_eq_true rfl) fun x hx => by
        simp only [List.mem_cons, List.not_mem_nil, or_false] at hx
        rcases hx with rfl | rfl <;> exact pl_torn lg 0))
      refine w_ite (t := false) (e1 := E19 d3 (S x) (S (fenceX true ps)) (S (tornD ps os hs)) (S (.lst [tornD ps os hs, tornD ps os hs])) (S (rowX true os)) (S (hopesX true hs))) (t_dv (q_not (x := .bl true) (o_dv (q_call rfl (a_sh (x := .sh (.lst [tornD ps os hs, tornD ps os hs])) rfl (a_sh (x := .own [tornD ps os hs, tornD ps os hs]) rfl rfl)) rfl rfl hsm rfl) rfl) rfl) rfl rfl) (fun h => by cases h) (fun _ => w_nil ?_)
      exact w_wipe rfl rfl (w_nil ⟨d3, k + 1, by omega, b3.le (by omega), rfl⟩)
    · rintro e ⟨ds', k, hk, hbx, rfl⟩
      exact w_rete rfl rfl ⟨_, rfl, ds', rfl, rfl⟩
  obtain ⟨v, l, e, ds', rfl, rfl⟩ := h
  exact ⟨ds', e⟩
theorem law_ok (ks : List Int) (hk : ks.length ≤ 63) : callI T 60 20 [.sh (.scr (intsD ks))] = some (.sh (.bl true), []) := by
  rw [show callI T 60 20 [.sh (.scr (intsD ks))] = runF (moT T) (callI T 59) F20 [.sh (.scr (intsD ks))] from c20 59 _]
  exact law_g rfl rfl rfl rfl hand_ok (cells_c 58) (box_c 58) right_c ks hk
end
end MP.K52

set_option Elab.async false
set_option linter.all false
set_option maxRecDepth 100000
namespace MP.K52.E
open MP MP.K52 PySem PySem.Spec PyProof.Rows L2
/-! ### the text -/
def topS (i : Nat) : Stmt := PySem.Challenge.pw_lastpasted_k52_what_must_be_torn_off.main.body.getD i (.Pass ⟨0, 0, 0, 0⟩)
abbrev s0 : Stmt := topS 1
abbrev s1 : Stmt := topS 3
abbrev s2 : Stmt := topS 4
abbrev s3 : Stmt := topS 6
abbrev s4 : Stmt := topS 7
abbrev s5 : Stmt := topS 8
abbrev s6 : Stmt := topS 9
abbrev s7 : Stmt := topS 10
abbrev s8 : Stmt := topS 11
abbrev s9 : Stmt := topS 12
abbrev s10 : Stmt := topS 13
abbrev s11 : Stmt := topS 14
abbrev s12 : Stmt := topS 15
abbrev s13 : Stmt := topS 16
abbrev s14 : Stmt := topS 19
abbrev s15 : Stmt := topS 20
abbrev s16 : Stmt := topS 21
abbrev s17 : Stmt := topS 22
abbrev s18 : Stmt := topS 23
abbrev s19 : Stmt := topS 24
abbrev s20 : Stmt := topS 25
def G : List Str := "over" :: "lying_above" :: "to_tear" :: "_law_box" :: "_law_take" :: "_law_cells" :: "_law_of" :: "_law_pick" :: "_law_lists" :: "_law_same" :: "_law_plank" :: "_law_over" :: "_law_crown" :: "_law_met" :: "_law_common" :: "_law_hopes" :: "_law_tags" :: "_law_least" :: "_law_by_hand_right" :: "_law_right" :: "law" :: []
def KT : List (Nat × Nat × List Str × List Nat) := [(2, 0, ["wishes", "order", "fence"], [2, 1, 0])]
def GC : List (Str × List Nat) := []
theorem sc0 : FnScope ["fence", "cell", "name", "first", "last"] ["fence", "cell"] (defScope s0) := ⟨rfl, rfl, rfl, by decide +kernel, rfl, by decide +kernel, by decide +kernel⟩
theorem mm0 : mSs F0.body ⟨["fence", "cell", "name", "first", "last"], defScope s0, fun _ => true, G, KT, GC⟩ (defBody s0) = true := by decide +kernel
theorem sc1 : FnScope ["fence", "order", "wish", "later", "cell", "name", "other"] ["fence", "order", "wish"] (defScope s1) := ⟨rfl, rfl, rfl, by decide +kernel, rfl, by decide +kernel, by decide +kernel⟩
theorem mm1 : mSs F1.body ⟨["fence", "order", "wish", "later", "cell", "name", "other"], defScope s1, fun _ => true, G, KT, GC⟩ (defBody s1) = true := by decide +kernel
theorem sc2 : FnScope ["fence", "order", "wishes", "gone", "wish", "name", "_"] ["fence", "order", "wishes"] (defScope s2) := ⟨rfl, rfl, rfl, by decide +kernel, rfl, by decide +kernel, by decide +kernel⟩
theorem mm2 : mSs F2.body ⟨["fence", "order", "wishes", "gone", "wish", "name", "_"], defScope s2, fun _ => true, G, KT, GC⟩ (defBody s2) = true := by decide +kernel
theorem sc3 : FnScope ["_law_script", "_law_k", "_law_great_so"] ["_law_script", "_law_k"] (defScope s3) := ⟨rfl, rfl, rfl, by decide +kernel, rfl, by decide +kernel, by decide +kernel⟩
theorem mm3 : mSs F3.body ⟨["_law_script", "_law_k", "_law_great_so"], defScope s3, fun _ => true, G, KT, GC⟩ (defBody s3) = true := by decide +kernel
theorem sc4 : FnScope ["_law_box_here", "_law_top_so", "_law_once", "_law_far", "_law_twice", "_law_digit_so"] ["_law_box_here", "_law_top_so"] (defScope s4) := ⟨rfl, rfl, rfl, by decide +kernel, rfl, by decide +kernel, by decide +kernel⟩
theorem mm4 : mSs F4.body ⟨["_law_box_here", "_law_top_so", "_law_once", "_law_far", "_law_twice", "_law_digit_so"], defScope s4, fun _ => true, G, KT, GC⟩ (defBody s4) = true := by decide +kernel
theorem sc5 : FnScope ["_law_script", "_law_most", "_law_cells_here", "_law_k", "_law_great_so", "_law_at_so"] ["_law_script", "_law_most"] (defScope s5) := ⟨rfl, rfl, rfl, by decide +kernel, rfl, by decide +kernel, by decide +kernel⟩
theorem mm5 : mSs F5.body ⟨["_law_script", "_law_most", "_law_cells_here", "_law_k", "_law_great_so", "_law_at_so"], defScope s5, fun _ => true, G, KT, GC⟩ (defBody s5) = true := by decide +kernel
theorem sc6 : FnScope ["_law_box_here", "_law_some_here"] ["_law_box_here", "_law_some_here"] (defScope s6) := ⟨rfl, rfl, rfl, by decide +kernel, rfl, by decide +kernel, by decide +kernel⟩
theorem mm6 : mSs F6.body ⟨["_law_box_here", "_law_some_here"], defScope s6, fun _ => true, G, KT, GC⟩ (defBody s6) = true := by decide +kernel
theorem sc7 : FnScope ["_law_box_here", "_law_pool", "_law_size_so", "_law_turn", "_law_rest", "_law_some_here"] ["_law_box_here", "_law_pool", "_law_size_so"] (defScope s7) := ⟨rfl, rfl, rfl, by decide +kernel, rfl, by decide +kernel, by decide +kernel⟩
theorem mm7 : mSs F7.body ⟨["_law_box_here", "_law_pool", "_law_size_so", "_law_turn", "_law_rest", "_law_some_here"], defScope s7, fun _ => true, G, KT, GC⟩ (defBody s7) = true := by decide +kernel
theorem sc8 : FnScope ["_law_matter", "_law_bit"] ["_law_matter"] (defScope s8) := ⟨rfl, rfl, rfl, by decide +kernel, rfl, by decide +kernel, by decide +kernel⟩
theorem mm8 : mSs F8.body ⟨["_law_matter", "_law_bit"], defScope s8, fun _ => true, G, KT, GC⟩ (defBody s8) = true := by decide +kernel
theorem sc9 : FnScope ["_law_got", "_law_due", "_law_own", "_law_mine", "_law_its"] ["_law_got", "_law_due"] (defScope s9) := ⟨rfl, rfl, rfl, by decide +kernel, rfl, by decide +kernel, by decide +kernel⟩
theorem mm9 : mSs F9.body ⟨["_law_got", "_law_due", "_law_own", "_law_mine", "_law_its"], defScope s9, fun _ => true, G, KT, GC⟩ (defBody s9) = true := by decide +kernel
theorem sc10 : FnScope ["_law_box_here", "_law_most", "_law_wide_so", "_law_tags_here", "_law_found", "_law_tag", "_law_low_so"] ["_law_box_here", "_law_most", "_law_wide_so"] (defScope s10) := ⟨rfl, rfl, rfl, by decide +kernel, rfl, by decide +kernel, by decide +kernel⟩
theorem mm10 : mSs F10.body ⟨["_law_box_here", "_law_most", "_law_wide_so", "_law_tags_here", "_law_found", "_law_tag", "_law_low_so"], defScope s10, fun _ => true, G, KT, GC⟩ (defBody s10) = true := by decide +kernel
theorem sc11 : FnScope ["_law_plank_here", "_law_spot", "_law_own"] ["_law_plank_here", "_law_spot"] (defScope s11) := ⟨rfl, rfl, rfl, by decide +kernel, rfl, by decide +kernel, by decide +kernel⟩
theorem mm11 : mSs F11.body ⟨["_law_plank_here", "_law_spot", "_law_own"], defScope s11, fun _ => true, G, KT, GC⟩ (defBody s11) = true := by decide +kernel
theorem sc12 : FnScope ["_law_plank_here", "_law_order_so", "_law_spot", "_law_lot_so", "_law_found", "_law_tag"] ["_law_plank_here", "_law_order_so", "_law_spot"] (defScope s12) := ⟨rfl, rfl, rfl, by decide +kernel, rfl, by decide +kernel, by decide +kernel⟩
theorem mm12 : mSs F12.body ⟨["_law_plank_here", "_law_order_so", "_law_spot", "_law_lot_so", "_law_found", "_law_tag"], defScope s12, fun _ => true, G, KT, GC⟩ (defBody s12) = true := by decide +kernel
theorem sc13 : FnScope ["_law_plank_here", "_law_order_so", "_law_hopes_here", "_law_own"] ["_law_plank_here", "_law_order_so", "_law_hopes_here"] (defScope s13) := ⟨rfl, rfl, rfl, by decide +kernel, rfl, by decide +kernel, by decide +kernel⟩
theorem mm13 : mSs F13.body ⟨["_law_plank_here", "_law_order_so", "_law_hopes_here", "_law_own"], defScope s13, fun _ => true, G, KT, GC⟩ (defBody s13) = true := by decide +kernel
theorem sc14 : FnScope ["_law_sets_so", "_law_tag", "_law_own"] ["_law_sets_so"] (defScope s14) := ⟨rfl, rfl, rfl, by decide +kernel, rfl, by decide +kernel, by decide +kernel⟩
theorem mm14 : mSs F14.body ⟨["_law_sets_so", "_law_tag", "_law_own"], defScope s14, fun _ => true, G, KT, GC⟩ (defBody s14) = true := by decide +kernel
theorem sc15 : FnScope ["_law_box_here", "_law_plank_here", "_law_most", "_law_free_so", "_law_turn", "_law_order_so", "_law_found", "_law_sheet", "_law_spot", "_law_own"] ["_law_box_here", "_law_plank_here", "_law_most"] (defScope s15) := ⟨rfl, rfl, rfl, by decide +kernel, rfl, by decide +kernel, by decide +kernel⟩
theorem mm15 : mSs F15.body ⟨["_law_box_here", "_law_plank_here", "_law_most", "_law_free_so", "_law_turn", "_law_order_so", "_law_found", "_law_sheet", "_law_spot", "_law_own"], defScope s15, fun _ => true, G, KT, GC⟩ (defBody s15) = true := by decide +kernel
theorem sc16 : FnScope ["_law_plank_here", "_law_own"] ["_law_plank_here"] (defScope s16) := ⟨rfl, rfl, rfl, by decide +kernel, rfl, by decide +kernel, by decide +kernel⟩
theorem mm16 : mSs F16.body ⟨["_law_plank_here", "_law_own"], defScope s16, fun _ => true, G, KT, GC⟩ (defBody s16) = true := by decide +kernel
theorem sc17 : FnScope ["_law_plank_here", "_law_order_so", "_law_hopes_here", "_law_some_here", "_law_tag", "_law_fine", "_law_own", "_law_least_here", "_law_rest"] ["_law_plank_here", "_law_order_so", "_law_hopes_here"] (defScope s17) := ⟨rfl, rfl, rfl, by decide +kernel, rfl, by decide +kernel, by decide +kernel⟩
theorem mm17 : mSs F17.body ⟨["_law_plank_here", "_law_order_so", "_law_hopes_here", "_law_some_here", "_law_tag", "_law_fine", "_law_own", "_law_least_here", "_law_rest"], defScope s17, fun _ => true, G, KT, GC⟩ (defBody s17) = true := by decide +kernel
theorem sc18 : FnScope ["_law_some_here", "_law_got", "_law_due", "_law_wide", "_law_order_so", "_law_plank_here", "_law_now", "_law_far", "_law_own"] [] (defScope s18) := ⟨rfl, rfl, rfl, by decide +kernel, rfl, by decide +kernel, by decide +kernel⟩
theorem mm18 : mSs F18.body ⟨["_law_some_here", "_law_got", "_law_due", "_law_wide", "_law_order_so", "_law_plank_here", "_law_now", "_law_far", "_law_own"], defScope s18, fun _ => true, G, KT, GC⟩ (defBody s18) = true := by decide +kernel
theorem sc19 : FnScope ["_law_box_here", "_law_turn", "_law_plank_here", "_law_due", "_law_got", "_law_order_so", "_law_hopes_here"] ["_law_box_here"] (defScope s19) := ⟨rfl, rfl, rfl, by decide +kernel, rfl, by decide +kernel, by decide +kernel⟩
theorem mm19 : mSs F19.body ⟨["_law_box_here", "_law_turn", "_law_plank_here", "_law_due", "_law_got", "_law_order_so", "_law_hopes_here"], defScope s19, fun _ => true, G, KT, GC⟩ (defBody s19) = true := by decide +kernel
theorem sc20 : FnScope ["_law_script", "_law_cells_here", "_law_k"] ["_law_script"] (defScope s20) := ⟨rfl, rfl, rfl, by decide +kernel, rfl, by decide +kernel, by decide +kernel⟩
theorem mm20 : mSs F20.body ⟨["_law_script", "_law_cells_here", "_law_k"], defScope s20, fun _ => true, G, KT, GC⟩ (defBody s20) = true := by decide +kernel
def AllD (P : MF → FI → Prop) : List MF → List FI → Prop
  | [], [] => True
  | F :: T, i :: I => P F i ∧ AllD P T I
  | _, _ => False
theorem AllD.get {P : MF → FI → Prop} : ∀ {T : List MF} {I : List FI} {f : Nat} {F : MF} {i : FI}, AllD P T I → T[f]? = some F → I[f]? = some i → P F i
  | _ :: _, _ :: _, 0, _, _, h, e1, e2 => by
    simp at e1 e2
    rw [← e1, ← e2]
    exact h.1
  | _ :: _, _ :: _, f + 1, _, _, h, e1, e2 => AllD.get (f := f) h.2 (by simpa using e1) (by simpa using e2)
  | [], _, _, _, _, _, e1, _ => by simp at e1
  | _ :: _, [], _, _, _, h, _, _ => h.elim
def spLaw (K : PySem.W.Frag) : Sp := spC K (callI T 60) 20 1
theorem end_sp (K : PySem.W.Frag) (H : Hp) (a : Addr) (ns : List Int) (hl : ns.length ≤ 63) (ho : Only H) (hS : SqL K H a (ns.map V.int)) : spLaw K [.ref a] H (fun v _ => v = .bl true) fun _ _ _ => False := by
  refine ⟨rfl, fun _ => False, [.sh (.scr (intsD ns))], [], .sh (.bl true), [], fun b h => h.elim, List.nodup_nil, ⟨.scr (xs := ns.map V.int) ?_ ?_ ?_, trivial⟩, law_ok ns hl, fun M' H' v p => ?_⟩
  · rcases hS with h | h
    · rcases h with h | ⟨o, h⟩
      · rcases ho a with e | ⟨o, xs, e⟩
        · rw [e] at h; cases h
        · rw [e] at h; cases h
      · exact .inl ⟨o, h⟩
    · exact .inr fun _ => .inr h
  · show (ns.map D.int).length ≤ big
    rw [List.length_map]
    exact Nat.le_trans hl (by decide)
  · clear hl hS
    induction ns with
    | nil => exact .nil
    | cons x r ih => exact .cons (.int x) ih
  · have := p.res
    cases this
    rfl
set_option maxHeartbeats 0 in
theorem all_mk {l : PySem.W.OpenLaw} {w : World} {K : PySem.W.Frag} {h : Heap} {mg : Str → Option Value} {fa f0 f1 f2 f3 f4 f5 f6 f7 f8 f9 f10 f11 f12 f13 f14 f15 f16 f17 f18 f19 f20 : Addr} (X : K.In h) (G0 : h.Ns mainGlobals mg) (hfa : mg "law" = some (.ref fa))
    {od0 an0 od1 an1 od2 an2 od3 an3 od4 an4 od5 an5 od6 an6 od7 an7 od8 an8 od9 an9 od10 an10 od11 an11 od12 an12 od13 an13 od14 an14 od15 an15 od16 an16 od17 an17 od18 an18 od19 an19 od20 an20 : Option Addr} {sl0 sl1 sl2 sl3 sl4 sl5 sl6 sl7 sl8 sl9 sl10 sl11 sl12 sl13 sl14 sl15 sl16 sl17 sl18 sl19 sl20 : Array (Option Value)} {oc0 kV0 dc0 pm0 cd0 ct0 oc1 kV1 dc1 pm1 cd1 ct1 oc2 kV2 dc2 pm2 cd2 ct2 oc3 kV3 dc3 pm3 cd3 ct3 oc4 kV4 dc4 pm4 cd4 ct4 oc5 kV5 dc5 pm5 cd5 ct5 oc6 kV6 dc6 pm6 cd6 ct6 oc7 kV7 dc7 pm7 cd7 ct7 oc8 kV8 dc8 pm8 cd8 ct8 oc9 kV9 dc9 pm9 cd9 ct9 oc10 kV10 dc10 pm10 cd10 ct10 oc11 kV11 dc11 pm11 cd11 ct11 oc12 kV12 dc12 pm12 cd12 ct12 oc13 kV13 dc13 pm13 cd13 ct13 oc14 kV14 dc14 pm14 cd14 ct14 oc15 kV15 dc15 pm15 cd15 ct15 oc16 kV16 dc16 pm16 cd16 ct16 oc17 kV17 dc17 pm17 cd17 ct17 oc18 kV18 dc18 pm18 cd18 ct18 oc19 kV19 dc19 pm19 cd19 ct19 oc20 kV20 dc20 pm20 cd20 ct20 : Value}
    (a0 : PySem.W.nsIn K mainGlobals "over" = some (some (.ref f0))) (l0 : K.lookup f0 = some ⟨oc0, od0, .func (PySem.W.fnOf "over" "over" (defArgs s0) (defBody s0) (defScope s0) .none kV0 dc0 pm0 an0 cd0 ct0), sl0⟩) (c0 : PySem.W.codeIn K cd0 "over" = true) (k0 : PySem.W.keepIn K (.ref f0) = true)
    (a1 : PySem.W.nsIn K mainGlobals "lying_above" = some (some (.ref f1))) (l1 : K.lookup f1 = some ⟨oc1, od1, .func (PySem.W.fnOf "lying_above" "lying_above" (defArgs s1) (defBody s1) (defScope s1) .none kV1 dc1 pm1 an1 cd1 ct1), sl1⟩) (c1 : PySem.W.codeIn K cd1 "lying_above" = true) (k1 : PySem.W.keepIn K (.ref f1) = true)
    (a2 : PySem.W.nsIn K mainGlobals "to_tear" = some (some (.ref f2))) (l2 : K.lookup f2 = some ⟨oc2, od2, .func (PySem.W.fnOf "to_tear" "to_tear" (defArgs s2) (defBody s2) (defScope s2) .none kV2 dc2 pm2 an2 cd2 ct2), sl2⟩) (c2 : PySem.W.codeIn K cd2 "to_tear" = true) (k2 : PySem.W.keepIn K (.ref f2) = true)
    (a3 : PySem.W.nsIn K mainGlobals "_law_box" = some (some (.ref f3))) (l3 : K.lookup f3 = some ⟨oc3, od3, .func (PySem.W.fnOf "_law_box" "_law_box" (defArgs s3) (defBody s3) (defScope s3) .none kV3 dc3 pm3 an3 cd3 ct3), sl3⟩) (c3 : PySem.W.codeIn K cd3 "_law_box" = true) (k3 : PySem.W.keepIn K (.ref f3) = true)
    (a4 : PySem.W.nsIn K mainGlobals "_law_take" = some (some (.ref f4))) (l4 : K.lookup f4 = some ⟨oc4, od4, .func (PySem.W.fnOf "_law_take" "_law_take" (defArgs s4) (defBody s4) (defScope s4) .none kV4 dc4 pm4 an4 cd4 ct4), sl4⟩) (c4 : PySem.W.codeIn K cd4 "_law_take" = true) (k4 : PySem.W.keepIn K (.ref f4) = true)
    (a5 : PySem.W.nsIn K mainGlobals "_law_cells" = some (some (.ref f5))) (l5 : K.lookup f5 = some ⟨oc5, od5, .func (PySem.W.fnOf "_law_cells" "_law_cells" (defArgs s5) (defBody s5) (defScope s5) .none kV5 dc5 pm5 an5 cd5 ct5), sl5⟩) (c5 : PySem.W.codeIn K cd5 "_law_cells" = true) (k5 : PySem.W.keepIn K (.ref f5) = true)
    (a6 : PySem.W.nsIn K mainGlobals "_law_of" = some (some (.ref f6))) (l6 : K.lookup f6 = some ⟨oc6, od6, .func (PySem.W.fnOf "_law_of" "_law_of" (defArgs s6) (defBody s6) (defScope s6) .none kV6 dc6 pm6 an6 cd6 ct6), sl6⟩) (c6 : PySem.W.codeIn K cd6 "_law_of" = true) (k6 : PySem.W.keepIn K (.ref f6) = true)
    (a7 : PySem.W.nsIn K mainGlobals "_law_pick" = some (some (.ref f7))) (l7 : K.lookup f7 = some ⟨oc7, od7, .func (PySem.W.fnOf "_law_pick" "_law_pick" (defArgs s7) (defBody s7) (defScope s7) .none kV7 dc7 pm7 an7 cd7 ct7), sl7⟩) (c7 : PySem.W.codeIn K cd7 "_law_pick" = true) (k7 : PySem.W.keepIn K (.ref f7) = true)
    (a8 : PySem.W.nsIn K mainGlobals "_law_lists" = some (some (.ref f8))) (l8 : K.lookup f8 = some ⟨oc8, od8, .func (PySem.W.fnOf "_law_lists" "_law_lists" (defArgs s8) (defBody s8) (defScope s8) .none kV8 dc8 pm8 an8 cd8 ct8), sl8⟩) (c8 : PySem.W.codeIn K cd8 "_law_lists" = true) (k8 : PySem.W.keepIn K (.ref f8) = true)
    (a9 : PySem.W.nsIn K mainGlobals "_law_same" = some (some (.ref f9))) (l9 : K.lookup f9 = some ⟨oc9, od9, .func (PySem.W.fnOf "_law_same" "_law_same" (defArgs s9) (defBody s9) (defScope s9) .none kV9 dc9 pm9 an9 cd9 ct9), sl9⟩) (c9 : PySem.W.codeIn K cd9 "_law_same" = true) (k9 : PySem.W.keepIn K (.ref f9) = true)
    (a10 : PySem.W.nsIn K mainGlobals "_law_plank" = some (some (.ref f10))) (l10 : K.lookup f10 = some ⟨oc10, od10, .func (PySem.W.fnOf "_law_plank" "_law_plank" (defArgs s10) (defBody s10) (defScope s10) .none kV10 dc10 pm10 an10 cd10 ct10), sl10⟩) (c10 : PySem.W.codeIn K cd10 "_law_plank" = true) (k10 : PySem.W.keepIn K (.ref f10) = true)
    (a11 : PySem.W.nsIn K mainGlobals "_law_over" = some (some (.ref f11))) (l11 : K.lookup f11 = some ⟨oc11, od11, .func (PySem.W.fnOf "_law_over" "_law_over" (defArgs s11) (defBody s11) (defScope s11) .none kV11 dc11 pm11 an11 cd11 ct11), sl11⟩) (c11 : PySem.W.codeIn K cd11 "_law_over" = true) (k11 : PySem.W.keepIn K (.ref f11) = true)
    (a12 : PySem.W.nsIn K mainGlobals "_law_crown" = some (some (.ref f12))) (l12 : K.lookup f12 = some ⟨oc12, od12, .func (PySem.W.fnOf "_law_crown" "_law_crown" (defArgs s12) (defBody s12) (defScope s12) .none kV12 dc12 pm12 an12 cd12 ct12), sl12⟩) (c12 : PySem.W.codeIn K cd12 "_law_crown" = true) (k12 : PySem.W.keepIn K (.ref f12) = true)
    (a13 : PySem.W.nsIn K mainGlobals "_law_met" = some (some (.ref f13))) (l13 : K.lookup f13 = some ⟨oc13, od13, .func (PySem.W.fnOf "_law_met" "_law_met" (defArgs s13) (defBody s13) (defScope s13) .none kV13 dc13 pm13 an13 cd13 ct13), sl13⟩) (c13 : PySem.W.codeIn K cd13 "_law_met" = true) (k13 : PySem.W.keepIn K (.ref f13) = true)
    (a14 : PySem.W.nsIn K mainGlobals "_law_common" = some (some (.ref f14))) (l14 : K.lookup f14 = some ⟨oc14, od14, .func (PySem.W.fnOf "_law_common" "_law_common" (defArgs s14) (defBody s14) (defScope s14) .none kV14 dc14 pm14 an14 cd14 ct14), sl14⟩) (c14 : PySem.W.codeIn K cd14 "_law_common" = true) (k14 : PySem.W.keepIn K (.ref f14) = true)
    (a15 : PySem.W.nsIn K mainGlobals "_law_hopes" = some (some (.ref f15))) (l15 : K.lookup f15 = some ⟨oc15, od15, .func (PySem.W.fnOf "_law_hopes" "_law_hopes" (defArgs s15) (defBody s15) (defScope s15) .none kV15 dc15 pm15 an15 cd15 ct15), sl15⟩) (c15 : PySem.W.codeIn K cd15 "_law_hopes" = true) (k15 : PySem.W.keepIn K (.ref f15) = true)
    (a16 : PySem.W.nsIn K mainGlobals "_law_tags" = some (some (.ref f16))) (l16 : K.lookup f16 = some ⟨oc16, od16, .func (PySem.W.fnOf "_law_tags" "_law_tags" (defArgs s16) (defBody s16) (defScope s16) .none kV16 dc16 pm16 an16 cd16 ct16), sl16⟩) (c16 : PySem.W.codeIn K cd16 "_law_tags" = true) (k16 : PySem.W.keepIn K (.ref f16) = true)
    (a17 : PySem.W.nsIn K mainGlobals "_law_least" = some (some (.ref f17))) (l17 : K.lookup f17 = some ⟨oc17, od17, .func (PySem.W.fnOf "_law_least" "_law_least" (defArgs s17) (defBody s17) (defScope s17) .none kV17 dc17 pm17 an17 cd17 ct17), sl17⟩) (c17 : PySem.W.codeIn K cd17 "_law_least" = true) (k17 : PySem.W.keepIn K (.ref f17) = true)
    (a18 : PySem.W.nsIn K mainGlobals "_law_by_hand_right" = some (some (.ref f18))) (l18 : K.lookup f18 = some ⟨oc18, od18, .func (PySem.W.fnOf "_law_by_hand_right" "_law_by_hand_right" (defArgs s18) (defBody s18) (defScope s18) .none kV18 dc18 pm18 an18 cd18 ct18), sl18⟩) (c18 : PySem.W.codeIn K cd18 "_law_by_hand_right" = true) (k18 : PySem.W.keepIn K (.ref f18) = true)
    (a19 : PySem.W.nsIn K mainGlobals "_law_right" = some (some (.ref f19))) (l19 : K.lookup f19 = some ⟨oc19, od19, .func (PySem.W.fnOf "_law_right" "_law_right" (defArgs s19) (defBody s19) (defScope s19) .none kV19 dc19 pm19 an19 cd19 ct19), sl19⟩) (c19 : PySem.W.codeIn K cd19 "_law_right" = true) (k19 : PySem.W.keepIn K (.ref f19) = true)
    (a20 : PySem.W.nsIn K mainGlobals "law" = some (some (.ref f20))) (l20 : K.lookup f20 = some ⟨oc20, od20, .func (PySem.W.fnOf "law" "law" (defArgs s20) (defBody s20) (defScope s20) .none kV20 dc20 pm20 an20 cd20 ct20), sl20⟩) (c20 : PySem.W.codeIn K cd20 "law" = true) (k20 : PySem.W.keepIn K (.ref f20) = true)
    (z_len : PySem.W.nsIn K mainGlobals "len" = some none)
    (z_abs : PySem.W.nsIn K mainGlobals "abs" = some none)
    (z_sorted : PySem.W.nsIn K mainGlobals "sorted" = some none)
    (z_all : PySem.W.nsIn K mainGlobals "all" = some none)
    (z_any : PySem.W.nsIn K mainGlobals "any" = some none)
    (z_min : PySem.W.nsIn K mainGlobals "min" = some none)
    (z_max : PySem.W.nsIn K mainGlobals "max" = some none)
    (z_int : PySem.W.nsIn K mainGlobals "int" = some none)
    (z_list : PySem.W.nsIn K mainGlobals "list" = some none)
    (z_tuple : PySem.W.nsIn K mainGlobals "tuple" = some none)
    (z_isinstance : PySem.W.nsIn K mainGlobals "isinstance" = some none)
    (z_range : PySem.W.nsIn K mainGlobals "range" = some none)
    (z_zip : PySem.W.nsIn K mainGlobals "zip" = some none)
    (z_enumerate : PySem.W.nsIn K mainGlobals "enumerate" = some none)
    (z_bool : PySem.W.nsIn K mainGlobals "bool" = some none)
    (z_str : PySem.W.nsIn K mainGlobals "str" = some none)
    (z_dict : PySem.W.nsIn K mainGlobals "dict" = some none)
    (z_set : PySem.W.nsIn K mainGlobals "set" = some none)
    : ∃ fd : FuncData, (∀ (s : Shared) (v : Value), BindsTo s fd ⟨[v], []⟩ [("_law_script", v)]) ∧ ∀ base : Heap, K.In base → base.Ns mainGlobals mg → FnOk l.prog w K mg base CX0 60 fa fd ["_law_script"] (spLaw K) := by
  have e : fa = f20 := by
    have e := hfa.symm.trans (PySem.W.mg_of X G0 a20)
    cases e
    rfl
  rw [e]
  have U0 := fun_mk (st := s0) l0 c0 k0
  have b0 := U0.binds (ps := ["fence", "cell"]) fun _ _ _ _ _ _ us hl => match us, hl with | [_, _], _ => rfl
  have U1 := fun_mk (st := s1) l1 c1 k1
  have b1 := U1.binds (ps := ["fence", "order", "wish"]) fun _ _ _ _ _ _ us hl => match us, hl with | [_, _, _], _ => rfl
  have U2 := fun_mk (st := s2) l2 c2 k2
  have b2 := U2.binds (ps := ["fence", "order", "wishes"]) fun _ _ _ _ _ _ us hl => match us, hl with | [_, _, _], _ => rfl
  have U3 := fun_mk (st := s3) l3 c3 k3
  have b3 := U3.binds (ps := ["_law_script", "_law_k"]) fun _ _ _ _ _ _ us hl => match us, hl with | [_, _], _ => rfl
  have U4 := fun_mk (st := s4) l4 c4 k4
  have b4 := U4.binds (ps := ["_law_box_here", "_law_top_so"]) fun _ _ _ _ _ _ us hl => match us, hl with | [_, _], _ => rfl
  have U5 := fun_mk (st := s5) l5 c5 k5
  have b5 := U5.binds (ps := ["_law_script", "_law_most"]) fun _ _ _ _ _ _ us hl => match us, hl with | [_, _], _ => rfl
  have U6 := fun_mk (st := s6) l6 c6 k6
  have b6 := U6.binds (ps := ["_law_box_here", "_law_some_here"]) fun _ _ _ _ _ _ us hl => match us, hl with | [_, _], _ => rfl
  have U7 := fun_mk (st := s7) l7 c7 k7
  have b7 := U7.binds (ps := ["_law_box_here", "_law_pool", "_law_size_so"]) fun _ _ _ _ _ _ us hl => match us, hl with | [_, _, _], _ => rfl
  have U8 := fun_mk (st := s8) l8 c8 k8
  have b8 := U8.binds (ps := ["_law_matter"]) fun _ _ _ _ _ _ us hl => match us, hl with | [_], _ => rfl
  have U9 := fun_mk (st := s9) l9 c9 k9
  have b9 := U9.binds (ps := ["_law_got", "_law_due"]) fun _ _ _ _ _ _ us hl => match us, hl with | [_, _], _ => rfl
  have U10 := fun_mk (st := s10) l10 c10 k10
  have b10 := U10.binds (ps := ["_law_box_here", "_law_most", "_law_wide_so"]) fun _ _ _ _ _ _ us hl => match us, hl with | [_, _, _], _ => rfl
  have U11 := fun_mk (st := s11) l11 c11 k11
  have b11 := U11.binds (ps := ["_law_plank_here", "_law_spot"]) fun _ _ _ _ _ _ us hl => match us, hl with | [_, _], _ => rfl
  have U12 := fun_mk (st := s12) l12 c12 k12
  have b12 := U12.binds (ps := ["_law_plank_here", "_law_order_so", "_law_spot"]) fun _ _ _ _ _ _ us hl => match us, hl with | [_, _, _], _ => rfl
  have U13 := fun_mk (st := s13) l13 c13 k13
  have b13 := U13.binds (ps := ["_law_plank_here", "_law_order_so", "_law_hopes_here"]) fun _ _ _ _ _ _ us hl => match us, hl with | [_, _, _], _ => rfl
  have U14 := fun_mk (st := s14) l14 c14 k14
  have b14 := U14.binds (ps := ["_law_sets_so"]) fun _ _ _ _ _ _ us hl => match us, hl with | [_], _ => rfl
  have U15 := fun_mk (st := s15) l15 c15 k15
  have b15 := U15.binds (ps := ["_law_box_here", "_law_plank_here", "_law_most"]) fun _ _ _ _ _ _ us hl => match us, hl with | [_, _, _], _ => rfl
  have U16 := fun_mk (st := s16) l16 c16 k16
  have b16 := U16.binds (ps := ["_law_plank_here"]) fun _ _ _ _ _ _ us hl => match us, hl with | [_], _ => rfl
  have U17 := fun_mk (st := s17) l17 c17 k17
  have b17 := U17.binds (ps := ["_law_plank_here", "_law_order_so", "_law_hopes_here"]) fun _ _ _ _ _ _ us hl => match us, hl with | [_, _, _], _ => rfl
  have U18 := fun_mk (st := s18) l18 c18 k18
  have b18 := U18.binds (ps := []) fun _ _ _ _ _ _ us hl => match us, hl with | [], _ => rfl
  have U19 := fun_mk (st := s19) l19 c19 k19
  have b19 := U19.binds (ps := ["_law_box_here"]) fun _ _ _ _ _ _ us hl => match us, hl with | [_], _ => rfl
  have U20 := fun_mk (st := s20) l20 c20 k20
  have b20 := U20.binds (ps := ["_law_script"]) fun _ _ _ _ _ _ us hl => match us, hl with | [_], _ => rfl
  refine ⟨(PySem.W.fnOf "law" "law" (defArgs s20) (defBody s20) (defScope s20) .none kV20 dc20 pm20 an20 cd20 ct20), fun s v => .of_eq rfl, fun base _ _ => ?_⟩
  let I : List FI := [⟨"over", f0, (PySem.W.fnOf "over" "over" (defArgs s0) (defBody s0) (defScope s0) .none kV0 dc0 pm0 an0 cd0 ct0), ["fence", "cell"]⟩, ⟨"lying_above", f1, (PySem.W.fnOf "lying_above" "lying_above" (defArgs s1) (defBody s1) (defScope s1) .none kV1 dc1 pm1 an1 cd1 ct1), ["fence", "order", "wish"]⟩, ⟨"to_tear", f2, (PySem.W.fnOf "to_tear" "to_tear" (defArgs s2) (defBody s2) (defScope s2) .none kV2 dc2 pm2 an2 cd2 ct2), ["fence", "order", "wishes"]⟩, ⟨"_law_box", f3, (PySem.W.fnOf "_law_box" "_law_box" (defArgs s3) (defBody s3) (defScope s3) .none kV3 dc3 pm3 an3 cd3 ct3), ["_law_script", "_law_k"]⟩, ⟨"_law_take", f4, (PySem.W.fnOf "_law_take" "_law_take" (defArgs s4) (defBody s4) (defScope s4) .none kV4 dc4 pm4 an4 cd4 ct4), ["_law_box_here", "_law_top_so"]⟩, ⟨"_law_cells", f5, (PySem.W.fnOf "_law_cells" "_law_cells" (defArgs s5) (defBody s5) (defScope s5) .none kV5 dc5 pm5 an5 cd5 ct5), ["_law_script", "_law_most"]⟩, ⟨"_law_of", f6, (PySem.W.fnOf "_law_of" "_law_of" (defArgs s6) (defBody s6) (defScope s6) .none kV6 dc6 pm6 an6 cd6 ct6), ["_law_box_here", "_law_some_here"]⟩, ⟨"_law_pick", f7, (PySem.W.fnOf "_law_pick" "_law_pick" (defArgs s7) (defBody s7) (defScope s7) .none kV7 dc7 pm7 an7 cd7 ct7), ["_law_box_here", "_law_pool", "_law_size_so"]⟩, ⟨"_law_lists", f8, (PySem.W.fnOf "_law_lists" "_law_lists" (defArgs s8) (defBody s8) (defScope s8) .none kV8 dc8 pm8 an8 cd8 ct8), ["_law_matter"]⟩, ⟨"_law_same", f9, (PySem.W.fnOf "_law_same" "_law_same" (defArgs s9) (defBody s9) (defScope s9) .none kV9 dc9 pm9 an9 cd9 ct9), ["_law_got", "_law_due"]⟩, ⟨"_law_plank", f10, (PySem.W.fnOf "_law_plank" "_law_plank" (defArgs s10) (defBody s10) (defScope s10) .none kV10 dc10 pm10 an10 cd10 ct10), ["_law_box_here", "_law_most", "_law_wide_so"]⟩, ⟨"_law_over", f11, (PySem.W.fnOf "_law_over" "_law_over" (defArgs s11) (defBody s11) (defScope s11) .none kV11 dc11 pm11 an11 cd11 ct11), ["_law_plank_here", "_law_spot"]⟩, ⟨"_law_crown", f12, (PySem.W.fnOf "_law_crown" "_law_crown" (defArgs s12) (defBody s12) (defScope s12) .none kV12 dc12 pm12 an12 cd12 ct12), ["_law_plank_here", "_law_order_so", "_law_spot"]⟩, ⟨"_law_met", f13, (PySem.W.fnOf "_law_met" "_law_met" (defArgs s13) (defBody s13) (defScope s13) .none kV13 dc13 pm13 an13 cd13 ct13), ["_law_plank_here", "_law_order_so", "_law_hopes_here"]⟩, ⟨"_law_common", f14, (PySem.W.fnOf "_law_common" "_law_common" (defArgs s14) (defBody s14) (defScope s14) .none kV14 dc14 pm14 an14 cd14 ct14), ["_law_sets_so"]⟩, ⟨"_law_hopes", f15, (PySem.W.fnOf "_law_hopes" "_law_hopes" (defArgs s15) (defBody s15) (defScope s15) .none kV15 dc15 pm15 an15 cd15 ct15), ["_law_box_here", "_law_plank_here", "_law_most"]⟩, ⟨"_law_tags", f16, (PySem.W.fnOf "_law_tags" "_law_tags" (defArgs s16) (defBody s16) (defScope s16) .none kV16 dc16 pm16 an16 cd16 ct16), ["_law_plank_here"]⟩, ⟨"_law_least", f17, (PySem.W.fnOf "_law_least" "_law_least" (defArgs s17) (defBody s17) (defScope s17) .none kV17 dc17 pm17 an17 cd17 ct17), ["_law_plank_here", "_law_order_so", "_law_hopes_here"]⟩, ⟨"_law_by_hand_right", f18, (PySem.W.fnOf "_law_by_hand_right" "_law_by_hand_right" (defArgs s18) (defBody s18) (defScope s18) .none kV18 dc18 pm18 an18 cd18 ct18), []⟩, ⟨"_law_right", f19, (PySem.W.fnOf "_law_right" "_law_right" (defArgs s19) (defBody s19) (defScope s19) .none kV19 dc19 pm19 an19 cd19 ct19), ["_law_box_here"]⟩, ⟨"law", f20, (PySem.W.fnOf "law" "law" (defArgs s20) (defBody s20) (defScope s20) .none kV20 dc20 pm20 an20 cd20 ct20), ["_law_script"]⟩]
  have hI : I.map (·.x) = G := rfl
  refine all_ok (T := T) (I := I) (KT := KT) (GC := GC) rfl (fun f F i h1 h2 => ?_) (fun x hx => ?_) (fun x s hm => ?_) (fun f np ns pj hm => ?_) 60 20 F20 ⟨"law", f20, (PySem.W.fnOf "law" "law" (defArgs s20) (defBody s20) (defScope s20) .none kV20 dc20 pm20 an20 cd20 ct20), ["_law_script"]⟩ rfl rfl
  · rw [hI]
    refine AllD.get (P := fun F i => DefOk K mg G KT GC F i) ?_ h1 h2
    refine ⟨?_, ?_, ?_, ?_, ?_, ?_, ?_, ?_, ?_, ?_, ?_, ?_, ?_, ?_, ?_, ?_, ?_, ?_, ?_, ?_, ?_, trivial⟩
    · exact ⟨⟨_, _, _, U0, sc0, rfl, mm0⟩, PySem.W.mg_of X G0 a0, rfl, rfl, by decide, b0⟩
    · exact ⟨⟨_, _, _, U1, sc1, rfl, mm1⟩, PySem.W.mg_of X G0 a1, rfl, rfl, by decide, b1⟩
    · exact ⟨⟨_, _, _, U2, sc2, rfl, mm2⟩, PySem.W.mg_of X G0 a2, rfl, rfl, by decide, b2⟩
    · exact ⟨⟨_, _, _, U3, sc3, rfl, mm3⟩, PySem.W.mg_of X G0 a3, rfl, rfl, by decide, b3⟩
    · exact ⟨⟨_, _, _, U4, sc4, rfl, mm4⟩, PySem.W.mg_of X G0 a4, rfl, rfl, by decide, b4⟩
    · exact ⟨⟨_, _, _, U5, sc5, rfl, mm5⟩, PySem.W.mg_of X G0 a5, rfl, rfl, by decide, b5⟩
    · exact ⟨⟨_, _, _, U6, sc6, rfl, mm6⟩, PySem.W.mg_of X G0 a6, rfl, rfl, by decide, b6⟩
    · exact ⟨⟨_, _, _, U7, sc7, rfl, mm7⟩, PySem.W.mg_of X G0 a7, rfl, rfl, by decide, b7⟩
    · exact ⟨⟨_, _, _, U8, sc8, rfl, mm8⟩, PySem.W.mg_of X G0 a8, rfl, rfl, by decide, b8⟩
    · exact ⟨⟨_, _, _, U9, sc9, rfl, mm9⟩, PySem.W.mg_of X G0 a9, rfl, rfl, by decide, b9⟩
    · exact ⟨⟨_, _, _, U10, sc10, rfl, mm10⟩, PySem.W.mg_of X G0 a10, rfl, rfl, by decide, b10⟩
    · exact ⟨⟨_, _, _, U11, sc11, rfl, mm11⟩, PySem.W.mg_of X G0 a11, rfl, rfl, by decide, b11⟩
    · exact ⟨⟨_, _, _, U12, sc12, rfl, mm12⟩, PySem.W.mg_of X G0 a12, rfl, rfl, by decide, b12⟩
    · exact ⟨⟨_, _, _, U13, sc13, rfl, mm13⟩, PySem.W.mg_of X G0 a13, rfl, rfl, by decide, b13⟩
    · exact ⟨⟨_, _, _, U14, sc14, rfl, mm14⟩, PySem.W.mg_of X G0 a14, rfl, rfl, by decide, b14⟩
    · exact ⟨⟨_, _, _, U15, sc15, rfl, mm15⟩, PySem.W.mg_of X G0 a15, rfl, rfl, by decide, b15⟩
    · exact ⟨⟨_, _, _, U16, sc16, rfl, mm16⟩, PySem.W.mg_of X G0 a16, rfl, rfl, by decide, b16⟩
    · exact ⟨⟨_, _, _, U17, sc17, rfl, mm17⟩, PySem.W.mg_of X G0 a17, rfl, rfl, by decide, b17⟩
    · exact ⟨⟨_, _, _, U18, sc18, rfl, mm18⟩, PySem.W.mg_of X G0 a18, rfl, rfl, by decide, b18⟩
    · exact ⟨⟨_, _, _, U19, sc19, rfl, mm19⟩, PySem.W.mg_of X G0 a19, rfl, rfl, by decide, b19⟩
    · exact ⟨⟨_, _, _, U20, sc20, rfl, mm20⟩, PySem.W.mg_of X G0 a20, rfl, rfl, by decide, b20⟩
  · simp only [bnames, List.mem_cons, List.not_mem_nil, or_false] at hx
    rcases hx with rfl | rfl | rfl | rfl | rfl | rfl | rfl | rfl | rfl | rfl | rfl | rfl | rfl | rfl | rfl | rfl | rfl | rfl
    · exact PySem.W.mg_none_of X G0 z_len
    · exact PySem.W.mg_none_of X G0 z_abs
    · exact PySem.W.mg_none_of X G0 z_sorted
    · exact PySem.W.mg_none_of X G0 z_all
    · exact PySem.W.mg_none_of X G0 z_any
    · exact PySem.W.mg_none_of X G0 z_min
    · exact PySem.W.mg_none_of X G0 z_max
    · exact PySem.W.mg_none_of X G0 z_int
    · exact PySem.W.mg_none_of X G0 z_list
    · exact PySem.W.mg_none_of X G0 z_tuple
    · exact PySem.W.mg_none_of X G0 z_isinstance
    · exact PySem.W.mg_none_of X G0 z_range
    · exact PySem.W.mg_none_of X G0 z_zip
    · exact PySem.W.mg_none_of X G0 z_enumerate
    · exact PySem.W.mg_none_of X G0 z_bool
    · exact PySem.W.mg_none_of X G0 z_str
    · exact PySem.W.mg_none_of X G0 z_dict
    · exact PySem.W.mg_none_of X G0 z_set
  · cases hm
  · simp only [KT, List.mem_cons, List.not_mem_nil, or_false, Prod.mk.injEq] at hm
    rcases hm with ⟨rfl, rfl, rfl, rfl⟩
    · exact ⟨F2, _, rfl, rfl, ⟨rfl, Nat.zero_lt_succ _, fun s us ws _ h1 h2 => match us, ws, h1, h2 with | [], [_, _, _], _, _ => .of_eq rfl⟩, rfl⟩
end MP.K52.E
open PySem PySem.W PyProof.Rows
set_option maxHeartbeats 0 in
theorem PySem.Challenge.cw_lastpasted_k52_what_must_be_torn_off_holds : PySem.Challenge.rw_lastpasted_k52_what_must_be_torn_off.Holds := by
  w_on; o_law; k_head; (case hw => w_witness2)
  k_fill
  refine L2.walk_of (l := PySem.Challenge.rw_lastpasted_k52_what_must_be_torn_off) (n := 63) (k := 60) (x := "_law_script") (CX := fun _ => L2.CX0) (sp := fun w => MP.K52.E.spLaw _) rfl (by decide) rfl ⟨rfl, by decide, by decide⟩ (fun w h Y => PySem.W.kIn_of Y) ?F (fun _ H a ns hl ho hS => MP.K52.E.end_sp _ H a ns hl ho hS) (fun _ _ _ _ _ h => h)
  case F =>
    intro w mg fa h KX G hmg
    refine' MP.K52.E.all_mk KX G hmg ?a0 ?l0 ?c0 ?k0 ?a1 ?l1 ?c1 ?k1 ?a2 ?l2 ?c2 ?k2 ?a3 ?l3 ?c3 ?k3 ?a4 ?l4 ?c4 ?k4 ?a5 ?l5 ?c5 ?k5 ?a6 ?l6 ?c6 ?k6 ?a7 ?l7 ?c7 ?k7 ?a8 ?l8 ?c8 ?k8 ?a9 ?l9 ?c9 ?k9 ?a10 ?l10 ?c10 ?k10 ?a11 ?l11 ?c11 ?k11 ?a12 ?l12 ?c12 ?k12 ?a13 ?l13 ?c13 ?k13 ?a14 ?l14 ?c14 ?k14 ?a15 ?l15 ?c15 ?k15 ?a16 ?l16 ?c16 ?k16 ?a17 ?l17 ?c17 ?k17 ?a18 ?l18 ?c18 ?k18 ?a19 ?l19 ?c19 ?k19 ?a20 ?l20 ?c20 ?k20 ?z_len ?z_abs ?z_sorted ?z_all ?z_any ?z_min ?z_max ?z_int ?z_list ?z_tuple ?z_isinstance ?z_range ?z_zip ?z_enumerate ?z_bool ?z_str ?z_dict ?z_set
    (case a0 => k_is); (case l0 => k_is); (case c0 => k_is); (case k0 => k_is); (case a1 => k_is); (case l1 => k_is); (case c1 => k_is); (case k1 => k_is); (case a2 => k_is); (case l2 => k_is); (case c2 => k_is); (case k2 => k_is); (case a3 => k_is); (case l3 => k_is); (case c3 => k_is); (case k3 => k_is); (case a4 => k_is); (case l4 => k_is); (case c4 => k_is); (case k4 => k_is); (case a5 => k_is); (case l5 => k_is); (case c5 => k_is); (case k5 => k_is); (case a6 => k_is); (case l6 => k_is); (case c6 => k_is); (case k6 => k_is); (case a7 => k_is); (case l7 => k_is); (case c7 => k_is); (case k7 => k_is); (case a8 => k_is); (case l8 => k_is); (case c8 => k_is); (case k8 => k_is); (case a9 => k_is); (case l9 => k_is); (case c9 => k_is); (case k9 => k_is); (case a10 => k_is); (case l10 => k_is); (case c10 => k_is); (case k10 => k_is); (case a11 => k_is); (case l11 => k_is); (case c11 => k_is); (case k11 => k_is); (case a12 => k_is); (case l12 => k_is); (case c12 => k_is); (case k12 => k_is); (case a13 => k_is); (case l13 => k_is); (case c13 => k_is); (case k13 => k_is); (case a14 => k_is); (case l14 => k_is); (case c14 => k_is); (case k14 => k_is); (case a15 => k_is); (case l15 => k_is); (case c15 => k_is); (case k15 => k_is); (case a16 => k_is); (case l16 => k_is); (case c16 => k_is); (case k16 => k_is); (case a17 => k_is); (case l17 => k_is); (case c17 => k_is); (case k17 => k_is); (case a18 => k_is); (case l18 => k_is); (case c18 => k_is); (case k18 => k_is); (case a19 => k_is); (case l19 => k_is); (case c19 => k_is); (case k19 => k_is); (case a20 => k_is); (case l20 => k_is); (case c20 => k_is); (case k20 => k_is); (case z_len => k_is); (case z_abs => k_is); (case z_sorted => k_is); (case z_all => k_is); (case z_any => k_is); (case z_min => k_is); (case z_max => k_is); (case z_int => k_is); (case z_list => k_is); (case z_tuple => k_is); (case z_isinstance => k_is); (case z_range => k_is); (case z_zip => k_is); (case z_enumerate => k_is); (case z_bool => k_is); (case z_str => k_is); (case z_dict => k_is); (case z_set => k_is)

